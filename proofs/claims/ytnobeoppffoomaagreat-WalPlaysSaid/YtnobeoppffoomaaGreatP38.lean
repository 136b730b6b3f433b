/-
  WalPlays: WZc WZd.
  Conditions: named in each theorem.
-/
import Derived.Test.YtnobeoppffoomaaGreatP37
import Derived.Test.YtnobeoppffoomaaGreatP33
import Derived.Test.YtnobeoppffoomaaGreatP32
import Derived.Test.YtnobeoppffoomaaGreatP0
set_option linter.unusedVariables false
set_option linter.unusedSimpArgs false
set_option maxHeartbeats 8000000
set_option maxRecDepth 100000
namespace Go.Proofs.YtnobeoppffoomaaGreat
open Go.RowKit
open Dk
theorem refuses_in {d:St} {a M k:Nat} (h:a+M≤d.n) (hk:k<M):d.refuses ((a+k:Nat):Int)=if d.dead then 7 else 0:=by
 unfold St.refuses
 split
 ·rfl
 ·rw [if_neg (by omega)]
theorem readS_in {d:St} {a M k:Nat} (h:a+M≤d.n) (hk:k<M) (hd:d.dead=false):d.readS ((a+k:Nat):Int)=d.now (a+k):=by
 unfold St.readS
 rw [refuses_in h hk,hd,if_pos (by decide),Int.toNat_natCast]
theorem catS_snoc (d:St) (a k:Nat):txt (catS (fun i=>d.now (a+i)) k)++txt (d.now (a+k))=txt (catS (fun i=>d.now (a+i)) (k+1)):=by
 apply ByteArray.ext
 apply Array.toList_inj.1
 rw [ByteArray.data_append,Array.toList_append,txt_list,txt_list,txt_list,catS]
theorem rgbytes_any (B gr:Nat) (L:List Nat) (d:St) (a M:Nat) (v:Int) (w:World) (h:Rf w B gr L d) (h1:1≤M) (hn:a+M≤d.n) :
 Calls Tryz.prog 98 #[ptr gr,RG a M v] w fun e w'=>e=.returned (.tuple #[.string (if d.dead then ⟨#[]⟩ else rdB d a M),.int .i64 (if d.dead then 7 else 0)])∧Below w.heap.size w w':=by
 have n2:=h.1.n2
 obtain ⟨W,hW⟩:∃ W,W=w.alloc (.cells (rgc a M v) 112):=⟨_,rfl⟩
 have hB:Below w.heap.size w W:=by rw [hW];exact (Below.refl w.heap.size w).alloc (Nat.le_refl _) _
 have hc:W.heap[w.heap.size]?=some (.cells (rgc a M v) 112 (0,0)):=by rw [hW];exact heap_alloc_new w _
 have c0:W.cell? ⟨w.heap.size,0,none⟩=some (.int .i64 a):=zcr _ _ 0 _ 112 (0,0) hc
 have c1:W.cell? ⟨w.heap.size,1,none⟩=some (.int .i64 M):=zcr _ _ 1 _ 112 (0,0) hc
 have HW:=zh hW
 have HB:=zh hB
 have HR:=zh (h.below hB)
 have HOK:=zh h.1
 have HN:=zh hn
 have HBD:Hid (a≤4096∧M≤4096):=⟨by omega,by omega⟩
 have HM1:=zh h1
 obtain ⟨X,hX⟩:∃ X:ByteArray×Int,X=(if d.dead then ⟨#[]⟩ else rdB d a M,if d.dead then 7 else 0):=⟨_,rfl⟩
 have HX:=zh hX
 have e1:(if d.dead then ⟨#[]⟩ else rdB d a M)=X.1:=by rw [hX]
 have e2:(if d.dead then (7:Int) else 0)=X.2:=by rw [hX]
 rw [e1,e2]
 have HRD:Hid (rdB d a M=txt (catS (fun i=>d.now (a+i)) M)):=rfl
 clear hc hW hB h e1 e2 hX n2 hn h1
 unfold ptr at *
 go_enter Tryz.func98,Tryz.ntmps98
 go_upto_region 1 with fail
 refine wp_at (w:=W) HW.out.symm ?_
 go_upto_region 3 with fail
 go_loopw [6,7] (fun s i wr=>∃ k:Nat,i=.int .i64 k∧k≤M∧s=.string (txt (catS (fun i=>d.now (a+i)) k))∧Hid (d.dead=true→k=0)∧Hid (wr=W)) (fun _ i _=>M-(Go.RowKit.intOf i).toNat)
 case atStart=>exact ⟨0,rfl,Nat.zero_le _,rfl,fun _=>rfl,rfl⟩
 case round =>
  obtain ⟨k,rfl,hk,rfl,hdk,hwr⟩:=hrel
  obtain rfl:wr=W:=hwr.out
  by_cases hlt:k<M
  ·have t1:decide ((k:Int)<(M:Int))=true:=decide_eq_true (by omega)
   have KR:=zh (rread_any B gr L d ((a+k:Nat):Int) wr HR.out)
   obtain ⟨ham1,ham2⟩:=HBD.out
   rw [refuses_in HN.out hlt] at KR
   cases hdd:d.dead with
   | true =>
     rw [hdd,if_pos rfl] at KR
     obtain rfl:X=(⟨#[]⟩,7):=by rw [HX.out,hdd];rfl
     obtain ⟨RS,hRS⟩:∃ x,x=txt (d.readS ((a+k:Nat):Int)):=⟨_,rfl⟩
     rw [←hRS] at KR
     rw [show ((a+k:Nat):Int)=(a:Int)+k by omega] at KR
     obtain ⟨cs,hcs⟩:∃ x,x=txt (catS (fun i=>d.now (a+i)) k):=⟨_,rfl⟩
     rw [←hcs]
     clear hRS hcs hdk HX hdd HRD
     unfold ptr at *
     go_wp2_with (go_at_call 96;(with_reducible refine KR.out.mono ?_);rintro q w5 ⟨rfl,rfl⟩)
     go_ret2
     exact ⟨rfl,HB.out⟩
   | false =>
     rw [hdd,if_neg (by decide),readS_in HN.out hlt hdd] at KR
     have hcat:=catS_snoc d a k
     have hsz1:(txt (catS (fun i=>d.now (a+i)) k)).size=k*64:=by rw [txt_size,catS_len _ (fun i=>HOK.out.now _)]
     have hsz2:(txt (d.now (a+k))).size=64:=by rw [txt_size,HOK.out.now]
     obtain ⟨cs,hcs⟩:∃ x,x=txt (catS (fun i=>d.now (a+i)) k):=⟨_,rfl⟩
     obtain ⟨sk,hsk⟩:∃ x,x=txt (d.now (a+k)):=⟨_,rfl⟩
     rw [←hcs,←hsk] at hcat
     rw [←hcs] at hsz1 ⊢
     rw [←hsk] at hsz2 KR
     rw [show ((a+k:Nat):Int)=(a:Int)+k by omega] at KR
     have hadd:¬ 9223372036854775807<cs.size+sk.size:=by omega
     have HCAT:=zh hcat
     clear hcat hcs hsk hsz1 hsz2 HX HRD hdk
     unfold ptr at *
     go_wp2_with (go_at_call 96;(with_reducible refine KR.out.mono ?_);rintro q w5 ⟨rfl,rfl⟩)
     go_roundw
     case rel=>exact ⟨k+1,by go_num,by omega,by rw [HCAT.out],(fun h=>by first|cases h|(rw [hdd] at h;cases h)),(by first|exact zh rfl|exact zh trivial)⟩
     case measure=>simp [Go.RowKit.intOf];omega
  ·have hkm:k=M:=by omega
   subst hkm
   have t1:decide ((k:Int)<(k:Int))=false:=decide_eq_false (by omega)
   rw [←HRD.out]
   cases hdd:d.dead with
   | true =>
     exfalso
     have h0:=hdk.out hdd
     have h1:=HM1.out
     omega
   | false =>
     have hXX:X=(rdB d a k,0):=by rw [HX.out,hdd];rfl
     obtain ⟨S,hS⟩:∃ S,S=rdB d a k:=⟨_,rfl⟩
     rw [←hS] at hXX ⊢
     subst hXX
     clear HX hdk hdd HRD hS
     go_wp2
     go_ret2
     exact ⟨rfl,HB.out⟩
theorem rgc_cellsD {w:World} {b:Nat} {a m v:Int} (h:w.heap[b]?=some (.cells (rgc a m v) 112 (0,0))):w.cell? ⟨b,0,none⟩=some (.int .i64 a)∧w.cell? ⟨b,1,none⟩=some (.int .i64 m)∧w.cell? ⟨b,2,none⟩=some (.int .i64 v) :=
 ⟨zcr _ _ 0 _ 112 (0,0) h,zcr _ _ 1 _ 112 (0,0) h,zcr _ _ 2 _ 112 (0,0) h⟩
theorem onB_in {n at_ m:Nat} {v:Int} (hn:n≤4096) (h:onB n at_ m v=true):1≤m∧at_+m≤n∧(v=1∨v=2):=by
 unfold onB at h
 rw [Bool.and_eq_true,Bool.and_eq_true] at h
 have h1:=of_decide_eq_true h.1.1
 have h2:=of_decide_eq_true h.2
 refine ⟨by omega,by omega,?_⟩
 have h3:=h.1.2
 exact of_decide_eq_true h3
theorem onI_of {n a m:Nat} {v:Int} (h:onB n a m v=true) (hn:a+m≤n):onI n a m v=true:=by
 unfold onB at h
 rw [Bool.and_eq_true,Bool.and_eq_true] at h
 unfold onI
 have h1:=of_decide_eq_true h.1.1
 rw [h.1.2,decide_eq_true (show (0:Int)≤a by omega),decide_eq_true (show (1:Int)≤m by omega),decide_eq_true (show (m:Int)≤(n:Int)-a by omega)]
 rfl
theorem rgread_off (B gr:Nat) (L:List Nat) (d:St) (at_ m v:Int) (w:World) (h:Rf w B gr L d) (ha:at_≤9223372036854775807) (hno:onI d.n at_ m v=false) :
 Calls Tryz.prog 54 #[ptr gr,RG at_ m v] w fun e w'=>e=.returned (.tuple #[.slice none 0 0,.int .i64 0,.int .i64 1])∧Below w.heap.size w w':=by
 obtain ⟨W,hW⟩:∃ W,W=w.alloc (.cells (rgc at_ m v) 112):=⟨_,rfl⟩
 have hB:Below w.heap.size w W:=by rw [hW];exact (Below.refl _ w).alloc (Nat.le_refl _) _
 have hc:W.heap[w.heap.size]?=some (.cells (rgc at_ m v) 112 (0,0)):=by rw [hW];exact heap_alloc_new w _
 have K1:=zh (rgright_any B gr L d at_ m v W (h.below hB) ha)
 rw [hno] at K1
 have HB:=zh hB
 have HW:=zh hW
 obtain ⟨c0,c1,c2⟩:=rgc_cellsD hc
 clear hB hc hW h hno
 unfold ptr at *
 go_enter Tryz.func54,Tryz.ntmps54
 go_upto_region 1 with fail
 refine wp_at (w:=W) HW.out.symm ?_
 go_wp2_with (go_at_call 95;(with_reducible refine K1.out.mono ?_);rintro q w1 ⟨rfl,b1⟩)
 go_ret3
 exact ⟨rfl,HB.out.trans (b1.mono HB.out.size)⟩
theorem rgread_any (B gr:Nat) (L:List Nat) (d:St) (a M:Nat) (v:Int) (w:World) (h:Rf w B gr L d) (hon:onB d.n a M v=true) :
 Calls Tryz.prog 54 #[ptr gr,RG a M v] w fun e w'=>∃ A n c,e=.returned (.tuple #[.slice A n c,.int .i64 (rdU d a M v),.int .i64 (rdZ d a M v)])∧Le w.heap.size A n c (rdE d a M v) w'∧Below w.heap.size w w':=by
 have n2:=h.1.n2
 obtain ⟨h1,hn,hv⟩:=onB_in n2 hon
 obtain ⟨W,hW⟩:∃ W,W=w.alloc (.cells (rgc a M v) 112):=⟨_,rfl⟩
 have hB:Below w.heap.size w W:=by rw [hW];exact (Below.refl w.heap.size w).alloc (Nat.le_refl _) _
 have hc:W.heap[w.heap.size]?=some (.cells (rgc a M v) 112 (0,0)):=by rw [hW];exact heap_alloc_new w _
 obtain ⟨c0,c1,c2⟩:=rgc_cellsD hc
 have HW:=zh hW
 have HB:=zh hB
 have HC:=zh hc
 have hR:=h.below hB
 have HR:=zh hR
 have K1:=zh (rgright_any B gr L d a M v W hR (by omega))
 rw [onI_of hon hn] at K1
 have K2:=zh (fun (W:World) (hr:Rf W B gr L d)=>rgbytes_any B gr L d a M v W hr h1 hn)
 have hbs:(rdB d a M).size≤1000000000000:=by unfold rdB;rw [txt_size,catS_len _ (fun i=>h.1.now _)];omega
 have K3:=zh (fun (W:World)=>rparse_any qX qV D.aO v (rdB d a M) W hbs rgets_in qV_frm (by omega))
 have HRU:Hid (rdU d a M v=if d.dead then 0 else parU qX D.aO v (rdB d a M)):=by show _=_;unfold rdU;rw [hon];cases d.dead<;>rfl
 have HRE:Hid (rdE d a M v=if d.dead then [] else parE qX D.aO v (rdB d a M)):=by show _=_;unfold rdE;rw [hon];cases d.dead<;>rfl
 have HRZ:Hid (rdZ d a M v=if d.dead then 7 else 0):=by show _=_;unfold rdZ;rw [hon,if_pos rfl]
 obtain ⟨RU,hRU⟩:∃ x,x=rdU d a M v:=⟨_,rfl⟩
 obtain ⟨RE,hRE⟩:∃ x,x=rdE d a M v:=⟨_,rfl⟩
 obtain ⟨RZ,hRZ⟩:∃ x,x=rdZ d a M v:=⟨_,rfl⟩
 obtain ⟨S,hS⟩:∃ S,S=rdB d a M:=⟨_,rfl⟩
 obtain ⟨pe,hpe⟩:∃ pe,pe=parE qX D.aO v S:=⟨_,rfl⟩
 obtain ⟨pu,hpu⟩:∃ pu,pu=parU qX D.aO v S:=⟨_,rfl⟩
 rw [←hRU,←hRE,←hRZ]
 rw [←hRU] at HRU
 rw [←hRE] at HRE
 rw [←hRZ] at HRZ
 rw [←hS] at K2 K3 HRU HRE
 rw [←hpe,←hpu] at K3
 rw [←hpu] at HRU
 rw [←hpe] at HRE
 clear hRU hRE hRZ hS hpe hpu hon h1 hn n2 hB hc hW h hR hbs hv
 unfold ptr at *
 cases hdd:d.dead with
 | true =>
   rw [hdd] at K2 HRU HRE HRZ
   obtain rfl:RU=0:=HRU.out
   obtain rfl:RE=[]:=HRE.out
   obtain rfl:RZ=7:=HRZ.out
   rw [if_pos rfl,if_pos rfl] at K2
   clear HRU HRE HRZ hdd K3
   go_enter Tryz.func54,Tryz.ntmps54
   go_upto_region 1 with fail
   refine wp_at (w:=W) HW.out.symm ?_
   go_upto_region 4 with (go_at_call 95;(with_reducible refine K1.out.mono ?_);rintro q w1 ⟨rfl,b1⟩)
   have HB1:Hid (Below w.heap.size w w1):=HB.out.trans (b1.mono HB.out.size)
   have HC1:Hid (w1.heap[w.heap.size]?=some (.cells (rgc a M v) 112 (0,0))):=(b1.block _ (zgx HC.out)).trans HC.out
   have KK:=zh (K2.out w1 (HR.out.below b1))
   obtain ⟨e0,e1,e2⟩:=rgc_cellsD HC1.out
   clear b1 c0 c1 c2
   go_wp2_with (go_at_call 98;(with_reducible refine KK.out.mono ?_);rintro q w2 ⟨rfl,b2⟩)
   go_ret3
   exact ⟨none,0,0,rfl,Le.nil _ _,HB1.out.trans (b2.mono HB1.out.size)⟩
 | false =>
   rw [hdd] at K2 HRU HRE HRZ
   obtain rfl:RU=pu:=HRU.out
   obtain rfl:RE=pe:=HRE.out
   obtain rfl:RZ=0:=HRZ.out
   rw [if_neg (by decide),if_neg (by decide)] at K2
   clear HRU HRE HRZ hdd
   go_enter Tryz.func54,Tryz.ntmps54
   go_upto_region 1 with fail
   refine wp_at (w:=W) HW.out.symm ?_
   go_upto_region 4 with (go_at_call 95;(with_reducible refine K1.out.mono ?_);rintro q w1 ⟨rfl,b1⟩)
   have HB1:Hid (Below w.heap.size w w1):=HB.out.trans (b1.mono HB.out.size)
   have HC1:Hid (w1.heap[w.heap.size]?=some (.cells (rgc a M v) 112 (0,0))):=(b1.block _ (zgx HC.out)).trans HC.out
   have KK:=zh (K2.out w1 (HR.out.below b1))
   obtain ⟨e0,e1,e2⟩:=rgc_cellsD HC1.out
   clear b1 c0 c1 c2
   go_upto_region 7 with (go_at_call 98;(with_reducible refine KK.out.mono ?_);rintro q w2 ⟨rfl,b2⟩)
   have HB2:Hid (Below w.heap.size w w2):=HB1.out.trans (b2.mono HB1.out.size)
   have HC2:Hid (w2.heap[w.heap.size]?=some (.cells (rgc a M v) 112 (0,0))):=(b2.block _ (zgx HC1.out)).trans HC1.out
   obtain ⟨f0,f1,f2⟩:=rgc_cellsD HC2.out
   clear b2 e0 e1 e2
   go_wp2_with (go_at_call 16;(with_reducible refine (K3.out _).mono ?_);rintro q w3 ⟨A,n,c,rfl,hle,b3⟩)
   go_ret3
   exact ⟨A,n,c,rfl,⟨ownsRow_low'R HB2.out.size hle.own,hle.len⟩,HB2.out.trans (b3.mono HB2.out.size)⟩
end Go.Proofs.YtnobeoppffoomaaGreat
namespace Go.Proofs.YtnobeoppffoomaaGreat
open Go.RowKit
open Dk
def adNo (on:Bool) (m v u:Int) (o:Bool):Prop:=on=false∨o=false∨u<0∨64*m<u∨(v=1∧u % 64≠0)
theorem rgadd_no (B gr:Nat) (L:List Nat) (d:St) (at_ m v u:Int) (A:Option Addr) (n c:Nat) (es:List En) (w:World) (h:Rf w B gr L d) (ha:at_≤9223372036854775807)
 (hE:Ents w.heap.size A n es w) (hn:n≤64) (ok:∀ e∈es,e.Ok) (hno:adNo (onI d.n at_ m v) m v u (rcO v (pO v) es)) :
 Calls Tryz.prog 59 #[ptr gr,RG at_ m v,.int .i64 u,.slice A n c] w fun e w'=>e=.returned (.tuple #[.int .i64 0,.int .i64 1])∧Below w.heap.size w w':=by
 have n2:=h.1.n2
 obtain ⟨W,hW⟩:∃ W,W=w.alloc (.cells (rgc at_ m v) 112):=⟨_,rfl⟩
 have hB:Below w.heap.size w W:=by rw [hW];exact (Below.refl _ w).alloc (Nat.le_refl _) _
 have hc:W.heap[w.heap.size]?=some (.cells (rgc at_ m v) 112 (0,0)):=by rw [hW];exact heap_alloc_new w _
 have K1:=zh (rgright_any B gr L d at_ m v W (h.below hB) ha)
 have HE:=zh ((hE.below hB).mr hB.size)
 have K2:=zh (fun (W:World) (hW:Ents W.heap.size A n es W)=>rrecords_any v (pS v) (pO v) A n c es W hW hn (fun e _=>Nat.le_trans (pS_le v e) (by omega)) (rputs_in v es ok))
 have HON:Hid (onI d.n at_ m v=true→1≤m∧m≤4096):=fun h=>by
  obtain ⟨a,k,rfl,rfl,h1,h2⟩:=onI_true h
  have:=(onB_in n2 h1).1
  omega
 have HB:=zh hB
 have HW:=zh hW
 have HC:=zh hc
 obtain ⟨x,hx⟩:∃ x,x=rcS v (pS v) (pO v) es:=⟨_,rfl⟩
 obtain ⟨o,ho⟩:∃ o,o=rcO v (pO v) es:=⟨_,rfl⟩
 obtain ⟨on,hon⟩:∃ b,b=onI d.n at_ m v:=⟨_,rfl⟩
 rw [←hx,←ho] at K2
 rw [←ho,←hon] at hno
 rw [←hon] at K1 HON
 obtain ⟨c0,c1,c2⟩:=rgc_cellsD hc
 have HNO:=zh hno
 clear hB hc hW h hE ok hx ho hon hno n2
 unfold ptr at *
 cases on with
 | false =>
   go_enter Tryz.func59,Tryz.ntmps59
   go_upto_region 1 with fail
   refine wp_at (w:=W) HW.out.symm ?_
   go_upto_region 2 with (go_at_call 95;(with_reducible refine K1.out.mono ?_);rintro q w1 ⟨rfl,b1⟩)
   have HB1:Hid (Below w.heap.size w w1):=HB.out.trans (b1.mono HB.out.size)
   have HE1:=zh ((HE.out.below b1).mr b1.size)
   obtain ⟨e0,e1,e2⟩:=rgc_cellsD ((b1.block _ (zgx HC.out)).trans HC.out)
   clear b1 c0 c1 c2
   go_upto_region 3 with (go_at_call 13;(with_reducible refine (K2.out _ HE1.out).mono ?_);rintro q w2 ⟨rfl,b2⟩)
   have HB2:Hid (Below w.heap.size w w2):=HB1.out.trans (b2.mono HB1.out.size)
   clear b2 e0 e1 e2
   go_wp2
   go_ret2
   exact ⟨rfl,HB2.out⟩
 | true =>
   obtain ⟨hm1,hm2⟩:=HON.out rfl
   obtain ⟨M,rfl⟩:=Int.eq_ofNat_of_zero_le (show 0≤m by omega)
   have hw:wrap64 (64*(M:Int))=64*(M:Int):=by unfold wrap64;omega
   cases o with
   | false =>
     go_enter Tryz.func59,Tryz.ntmps59
     go_upto_region 1 with fail
     refine wp_at (w:=W) HW.out.symm ?_
     go_upto_region 2 with (go_at_call 95;(with_reducible refine K1.out.mono ?_);rintro q w1 ⟨rfl,b1⟩)
     have HB1:Hid (Below w.heap.size w w1):=HB.out.trans (b1.mono HB.out.size)
     have HE1:=zh ((HE.out.below b1).mr b1.size)
     obtain ⟨e0,e1,e2⟩:=rgc_cellsD ((b1.block _ (zgx HC.out)).trans HC.out)
     clear b1 c0 c1 c2
     go_upto_region 3 with (go_at_call 13;(with_reducible refine (K2.out _ HE1.out).mono ?_);rintro q w2 ⟨rfl,b2⟩)
     have HB2:Hid (Below w.heap.size w w2):=HB1.out.trans (b2.mono HB1.out.size)
     clear b2 e0 e1 e2
     go_wp2
     go_ret2
     exact ⟨rfl,HB2.out⟩
   | true =>
     by_cases h0:u<0
     ·have t0:decide (u<0)=true:=decide_eq_true h0
      go_enter Tryz.func59,Tryz.ntmps59
      go_upto_region 1 with fail
      refine wp_at (w:=W) HW.out.symm ?_
      go_upto_region 2 with (go_at_call 95;(with_reducible refine K1.out.mono ?_);rintro q w1 ⟨rfl,b1⟩)
      have HB1:Hid (Below w.heap.size w w1):=HB.out.trans (b1.mono HB.out.size)
      have HE1:=zh ((HE.out.below b1).mr b1.size)
      obtain ⟨e0,e1,e2⟩:=rgc_cellsD ((b1.block _ (zgx HC.out)).trans HC.out)
      clear b1 c0 c1 c2
      go_upto_region 3 with (go_at_call 13;(with_reducible refine (K2.out _ HE1.out).mono ?_);rintro q w2 ⟨rfl,b2⟩)
      have HB2:Hid (Below w.heap.size w w2):=HB1.out.trans (b2.mono HB1.out.size)
      clear b2 e0 e1 e2
      go_wp2
      go_ret2
      exact ⟨rfl,HB2.out⟩
     have t0:decide (u<0)=false:=decide_eq_false h0
     by_cases h1:64*(M:Int)<u
     ·have t1:decide (64*(M:Int)<u)=true:=decide_eq_true h1
      clear h0
      go_enter Tryz.func59,Tryz.ntmps59
      go_upto_region 1 with fail
      refine wp_at (w:=W) HW.out.symm ?_
      go_upto_region 2 with (go_at_call 95;(with_reducible refine K1.out.mono ?_);rintro q w1 ⟨rfl,b1⟩)
      have HB1:Hid (Below w.heap.size w w1):=HB.out.trans (b1.mono HB.out.size)
      have HE1:=zh ((HE.out.below b1).mr b1.size)
      have HC1:Hid (w1.heap[w.heap.size]?=some (.cells (rgc at_ M v) 112 (0,0))):=(b1.block _ (zgx HC.out)).trans HC.out
      obtain ⟨e0,e1,e2⟩:=rgc_cellsD HC1.out
      clear b1 c0 c1 c2
      go_upto_region 3 with (go_at_call 13;(with_reducible refine (K2.out _ HE1.out).mono ?_);rintro q w2 ⟨rfl,b2⟩)
      have HB2:Hid (Below w.heap.size w w2):=HB1.out.trans (b2.mono HB1.out.size)
      obtain ⟨f0,f1,f2⟩:=rgc_cellsD ((b2.block _ (zgx HC1.out)).trans HC1.out)
      clear b2 e0 e1 e2
      go_wp2
      go_ret2
      exact ⟨rfl,HB2.out⟩
     have t1:decide (64*(M:Int)<u)=false:=decide_eq_false h1
     have hv:v=1∧u % 64≠0:=by
      rcases HNO.out with h|h|h|h|h
      ·cases h
      ·cases h
      ·exact absurd h h0
      ·exact absurd h h1
      ·exact h
     obtain ⟨rfl,h2⟩:=hv
     obtain ⟨U,rfl⟩:=Int.eq_ofNat_of_zero_le (show 0≤u by omega)
     have t2:((U:Int) % 64==0)=false:=beqF h2
     have t3:((U:Int) % 64 != 0)=true:=by unfold bne;rw [t2];rfl
     clear h0 h1 h2
     go_enter Tryz.func59,Tryz.ntmps59
     go_upto_region 1 with fail
     refine wp_at (w:=W) HW.out.symm ?_
     go_upto_region 2 with (go_at_call 95;(with_reducible refine K1.out.mono ?_);rintro q w1 ⟨rfl,b1⟩)
     have HB1:Hid (Below w.heap.size w w1):=HB.out.trans (b1.mono HB.out.size)
     have HE1:=zh ((HE.out.below b1).mr b1.size)
     have HC1:Hid (w1.heap[w.heap.size]?=some (.cells (rgc at_ M 1) 112 (0,0))):=(b1.block _ (zgx HC.out)).trans HC.out
     obtain ⟨e0,e1,e2⟩:=rgc_cellsD HC1.out
     clear b1 c0 c1 c2
     go_upto_region 3 with (go_at_call 13;(with_reducible refine (K2.out _ HE1.out).mono ?_);rintro q w2 ⟨rfl,b2⟩)
     have HB2:Hid (Below w.heap.size w w2):=HB1.out.trans (b2.mono HB1.out.size)
     obtain ⟨f0,f1,f2⟩:=rgc_cellsD ((b2.block _ (zgx HC1.out)).trans HC1.out)
     clear b2 e0 e1 e2
     go_wp2
     go_ret2
     exact ⟨rfl,HB2.out⟩
end Go.Proofs.YtnobeoppffoomaaGreat
