/- Parts of a proof. -/
import Derived.Test.YtidndekacnmihaaGreatF03
import Derived.Test.YtidndekacnmihaaGreatF30
set_option linter.unusedVariables false
set_option linter.unusedSimpArgs false
set_option maxHeartbeats 8000000
set_option maxRecDepth 100000
namespace Go.Proofs.YtidndekacnmihaaGreat
open Go.RowKit
section
open Dk
def onI (n:Nat) (at_ m v:Int):Bool:=decide (0≤at_)&&(decide (1≤m)&&knB v&&decide (m≤(n:Int)-at_))
end
section
open Dk
theorem zbQ (B gr:Nat) (L:List Nat) (d:St) (at_ m v:Int) (w:World) (h:Rf w B gr L d) (ha:at_≤9223372036854775807) :
 Calls Tryz.prog 114 #[ptr gr,RG at_ m v] w fun e w'=>e=.returned (.bool (onI d.n at_ m v))∧Below w.heap.size w w':=by
 have n2:=h.1.n2;obtain ⟨g1,k1,g2,k2,g3,k3,rfl,hA⟩:=RAt.of_rf h;have q0:=hA.c 0;change w.cell? ⟨gr,0,none⟩=some (.slice (some ⟨g1,0,none⟩) d.n k1) at q0
 have hlt:gr<w.heap.size:=by
  rcases zte gr w.heap.size with h|h
  ·exact h
  ·simp [World.cell?,Array.getElem?_eq_none h] at q0
 obtain ⟨N,hN⟩:∃ N,N=d.n:=⟨_,rfl⟩;rw [←hN] at q0 n2 ⊢;obtain ⟨W,hW⟩:∃ W,W=w.alloc (.cells (rgc at_ m v) 107):=⟨_,rfl⟩;have hB:Below w.heap.size w W:=by rw [hW];exact (Below.refl w.heap.size w).alloc (zsy _) _
 have HB:Hid (∀ k,Below w.heap.size w (W.drewN k)):=fun k=>below_drewN hB k;have hc:W.heap[w.heap.size]?=some (.cells (rgc at_ m v) 107 (0,0)):=by rw [hW];exact zsz w _
 have c0:W.cell? ⟨w.heap.size,0,none⟩=some (.int .i64 at_):=zcr _ _ 0 _ 107 (0,0) hc;have c1:W.cell? ⟨w.heap.size,1,none⟩=some (.int .i64 m):=zcr _ _ 1 _ 107 (0,0) hc;have c2:W.cell? ⟨w.heap.size,2,none⟩=some (.int .i64 v):=zcr _ _ 2 _ 107 (0,0) hc;have q0d:W.cell? ⟨gr,0,none⟩=some (.slice (some ⟨g1,0,none⟩) N k1):=(Below.cell (B:=w.heap.size) hB (p:=⟨gr,0,none⟩) hlt).trans q0;have HW:=zh hW;clear hB hc hN h hA q0 hW;unfold ptr
 by_cases h1:1≤m
 rotate_left
 ·have t1:decide (1≤m)=false:=zsC h1;have e0:onI N at_ m v=false:=by unfold onI;rw [zsC h1,ztd,ztd,Bool.and_false]
  rw [e0];clear e0 h1;go_enter Tryz.func114,Tryz.ntmps114
  go_upto_region 1 with fail
  refine zaf (w:=W) HW.out.symm ?_
  go_quiet (fail)
  go_wp2;go_ret;exact ⟨rfl,HB.out _⟩
 have t1:decide (1≤m)=true:=zsD h1
 by_cases h0:0≤at_
 rotate_left
 ·have t0:decide (0≤at_)=false:=zsC h0;have e0:onI N at_ m v=false:=by unfold onI;rw [zsC h0,ztd]
  rw [e0];clear e0 h0;go_enter Tryz.func114,Tryz.ntmps114
  go_upto_region 1 with fail
  refine zaf (w:=W) HW.out.symm ?_
  go_quiet (fail)
  go_wp2;go_ret;exact ⟨rfl,HB.out _⟩
 have t0:decide (0≤at_)=true:=zsD h0
 by_cases hv:v=1∨v=2
 rotate_left
 ·have v1:(v==1)=false:=zcG (fun e=>hv (.inl e));have v2:(v==2)=false:=zcG (fun e=>hv (.inr e));have e0:onI N at_ m v=false:=by unfold onI knB;rw [zsC hv,Bool.and_false,ztd,Bool.and_false]
  rw [e0];clear e0 hv;go_enter Tryz.func114,Tryz.ntmps114
  go_upto_region 1 with fail
  refine zaf (w:=W) HW.out.symm ?_
  go_quiet (fail)
  go_wp2;go_ret;exact ⟨rfl,HB.out _⟩
 have e0:onI N at_ m v=decide (m≤(N:Int)-at_):=by unfold onI knB;rw [t0,t1,zsD hv,zsY,zsY,zsY]
 rw [e0];clear e0
 have hvv:(v=1)∨(v=2∧(v==1)=false∧(v==2)=true):=by
  rcases hv with h|h
  ·exact .inl h
  ·exact .inr ⟨h,by rw [h];rfl,by rw [h];rfl⟩
 clear hv
 by_cases hat:at_<(N:Int)
 ·have ta:decide (at_<(N:Int))=true:=zsD hat
  cases h3:decide (m≤(N:Int)-at_) with
  | true =>
    rcases hvv with rfl|⟨rfl,v1,v2⟩
    all_goals
     go_enter Tryz.func114,Tryz.ntmps114
     go_upto_region 1 with fail
     refine zaf (w:=W) HW.out.symm ?_
     go_quiet (fail)
     go_wp2;go_ret;exact ⟨rfl,HB.out _⟩
  | false =>
    rcases hvv with rfl|⟨rfl,v1,v2⟩
    all_goals
     go_enter Tryz.func114,Tryz.ntmps114
     go_upto_region 1 with fail
     refine zaf (w:=W) HW.out.symm ?_
     go_quiet (fail)
     go_wp2;go_ret;exact ⟨rfl,HB.out _⟩
 ·have ta:decide (at_<(N:Int))=false:=zsC hat;rw [zsC (show ¬ m≤(N:Int)-at_ by omega)];rcases hvv with rfl|⟨rfl,v1,v2⟩
  all_goals
   go_enter Tryz.func114,Tryz.ntmps114
   go_upto_region 1 with fail
   refine zaf (w:=W) HW.out.symm ?_
   go_quiet (fail)
   go_wp2;go_ret;exact ⟨rfl,HB.out _⟩
end
section
open Dk
theorem ziU (B gr:Nat) (L:List Nat) (d:St) (a M:Nat) (v:Int) (w:World) (h:Rf w B gr L d) (h1:1≤M) (hn:a+M≤d.n) :
 Calls Tryz.prog 130 #[ptr gr,RG a M v] w fun e w'=>e=.returned (.tuple #[.string (if d.dead then ⟨#[]⟩ else rdB d a M),.int .i64 (if d.dead then 7 else 0)])∧Below w.heap.size w w':=by
 have n2:=h.1.n2;obtain ⟨W,hW⟩:∃ W,W=w.alloc (.cells (rgc a M v) 107):=⟨_,rfl⟩;have hB:Below w.heap.size w W:=by rw [hW];exact (Below.refl w.heap.size w).alloc (zsy _) _
 have hc:W.heap[w.heap.size]?=some (.cells (rgc a M v) 107 (0,0)):=by rw [hW];exact zsz w _
 have c0:W.cell? ⟨w.heap.size,0,none⟩=some (.int .i64 a):=zcr _ _ 0 _ 107 (0,0) hc;have c1:W.cell? ⟨w.heap.size,1,none⟩=some (.int .i64 M):=zcr _ _ 1 _ 107 (0,0) hc;have HW:=zh hW;have HB:=zh hB;have HR:=zh (h.below hB);have HOK:=zh h.1;have HN:=zh hn;have HBD:Hid (a≤4096∧M≤4096):=⟨by omega,by omega⟩;have HM1:=zh h1;obtain ⟨X,hX⟩:∃ X:ByteArray×Int,X=(if d.dead then ⟨#[]⟩ else rdB d a M,if d.dead then 7 else 0):=⟨_,rfl⟩;have HX:=zh hX;have e1:(if d.dead then ⟨#[]⟩ else rdB d a M)=X.1:=by rw [hX]
 have e2:(if d.dead then (7:Int) else 0)=X.2:=by rw [hX]
 rw [e1,e2];have HRD:Hid (rdB d a M=txt (zej (fun i=>d.now (a+i)) M)):=rfl;clear hc hW hB h e1 e2 hX n2 hn h1;unfold ptr at *;go_enter Tryz.func130,Tryz.ntmps130
 go_upto_region 1 with fail
 refine zaf (w:=W) HW.out.symm ?_
 go_upto_region 3 with fail
 go_loopw [6,7] (fun s i wr=>∃ k:Nat,i=.int .i64 k∧k≤M∧s=.string (txt (zej (fun i=>d.now (a+i)) k))∧Hid (d.dead=true→k=0)∧Hid (wr=W)) (fun _ i _=>M-(Go.RowKit.intOf i).toNat)
 case atStart=>exact ⟨0,rfl,zsE _,rfl,fun _=>rfl,rfl⟩
 case round =>
  obtain ⟨k,rfl,hk,rfl,hdk,hwr⟩:=hrel;obtain rfl:wr=W:=hwr.out
  by_cases hlt:k<M
  ·have t1:decide ((k:Int)<(M:Int))=true:=zsD (by omega);have KR:=zh (zcm B gr L d ((a+k:Nat):Int) wr HR.out);obtain ⟨ham1,ham2⟩:=HBD.out;rw [zbF HN.out hlt] at KR
   cases hdd:d.dead with
   | true =>
     rw [hdd,if_pos rfl] at KR;obtain rfl:X=(⟨#[]⟩,7):=by rw [HX.out,hdd];rfl
     obtain ⟨RS,hRS⟩:∃ x,x=txt (d.readS ((a+k:Nat):Int)):=⟨_,rfl⟩;rw [←hRS] at KR;rw [show ((a+k:Nat):Int)=(a:Int)+k by omega] at KR;obtain ⟨cs,hcs⟩:∃ x,x=txt (zej (fun i=>d.now (a+i)) k):=⟨_,rfl⟩;rw [←hcs];clear hRS hcs hdk HX hdd HRD;unfold ptr at *
     go_wp2_with (go_at_call 128;(with_reducible refine KR.out.mono ?_);rintro q w5 ⟨rfl,rfl⟩)
     go_ret2;exact ⟨rfl,HB.out⟩
   | false =>
     rw [hdd,if_neg (by decide),zey HN.out hlt hdd] at KR;have hcat:=zeV d a k;have hsz1:(txt (zej (fun i=>d.now (a+i)) k)).size=k*64:=by rw [zah,zbU _ (fun i=>HOK.out.now _)]
     have hsz2:(txt (d.now (a+k))).size=64:=by rw [zah,HOK.out.now]
     obtain ⟨cs,hcs⟩:∃ x,x=txt (zej (fun i=>d.now (a+i)) k):=⟨_,rfl⟩;obtain ⟨sk,hsk⟩:∃ x,x=txt (d.now (a+k)):=⟨_,rfl⟩;rw [←hcs,←hsk] at hcat;rw [←hcs] at hsz1 ⊢;rw [←hsk] at hsz2 KR;rw [show ((a+k:Nat):Int)=(a:Int)+k by omega] at KR;have hadd:¬ 9223372036854775807<cs.size+sk.size:=by omega
     have HCAT:=zh hcat;clear hcat hcs hsk hsz1 hsz2 HX HRD hdk;unfold ptr at *
     go_wp2_with (go_at_call 128;(with_reducible refine KR.out.mono ?_);rintro q w5 ⟨rfl,rfl⟩)
     go_roundw
     case rel=>exact ⟨k+1,by go_num,by omega,by rw [HCAT.out],(fun h=>by first|cases h|(rw [hdd] at h;cases h)),(by first|exact zh rfl|exact zh trivial)⟩
     case measure=>simp [Go.RowKit.intOf];omega
  ·have hkm:k=M:=by omega
   subst hkm;have t1:decide ((k:Int)<(k:Int))=false:=zsC (by omega);rw [←HRD.out]
   cases hdd:d.dead with
   | true =>
     exfalso;have h0:=hdk.out hdd;have h1:=HM1.out;omega
   | false =>
     have hXX:X=(rdB d a k,0):=by rw [HX.out,hdd];rfl
     obtain ⟨S,hS⟩:∃ S,S=rdB d a k:=⟨_,rfl⟩;rw [←hS] at hXX ⊢;subst hXX;clear HX hdk hdd HRD hS;go_wp2;go_ret2;exact ⟨rfl,HB.out⟩
theorem zas {w:World} {b:Nat} {a m v:Int} (h:w.heap[b]?=some (.cells (rgc a m v) 107 (0,0))):w.cell? ⟨b,0,none⟩=some (.int .i64 a)∧w.cell? ⟨b,1,none⟩=some (.int .i64 m)∧w.cell? ⟨b,2,none⟩=some (.int .i64 v) :=
 ⟨zcr _ _ 0 _ 107 (0,0) h,zcr _ _ 1 _ 107 (0,0) h,zcr _ _ 2 _ 107 (0,0) h⟩
theorem zjO {n at_ m:Nat} {v:Int} (hn:n≤4096) (h:onB n at_ m v=true):1≤m∧at_+m≤n∧(v=1∨v=2):=by
 unfold onB at h;rw [zsR,zsR] at h;have h1:=of_decide_eq_true h.1.1;have h2:=of_decide_eq_true h.2;refine ⟨by omega,by omega,?_⟩;have h3:=h.1.2;exact of_decide_eq_true h3
theorem zjP {n a m:Nat} {v:Int} (h:onB n a m v=true) (hn:a+m≤n):onI n a m v=true:=by
 unfold onB at h;rw [zsR,zsR] at h;unfold onI;have h1:=of_decide_eq_true h.1.1;rw [h.1.2,zsD (show (0:Int)≤a by omega),zsD (show (1:Int)≤m by omega),zsD (show (m:Int)≤(n:Int)-a by omega)];rfl
theorem zkz (X:ByteArray→En) (V:ByteArray→Int) (O:ByteArray→Bool) (B gr:Nat) (L:List Nat) (d:St) (a M:Nat) (v:Int) (w:World) (h:Rf w B gr L d) (hon:onB d.n a M v=true) (hG:(∃ k,nOk (tlB (rdB d a M) k)=true)→zqC 194 X V O) (hV:∀ t,nOk t=true→O (frm t)=true→V (frm t)=nxV t) :
 Calls Tryz.prog 61 #[ptr gr,RG a M v] w fun e w'=>∃ A n c,e=.returned (.tuple #[.slice A n c,.int .i64 (zjL X O d a M v),.int .i64 (rdZ d a M v)])∧Le w.heap.size A n c (zjK X O d a M v) w'∧Below w.heap.size w w':=by
 have n2:=h.1.n2;obtain ⟨h1,hn,hv⟩:=zjO n2 hon;obtain ⟨W,hW⟩:∃ W,W=w.alloc (.cells (rgc a M v) 107):=⟨_,rfl⟩;have hB:Below w.heap.size w W:=by rw [hW];exact (Below.refl w.heap.size w).alloc (zsy _) _
 have hc:W.heap[w.heap.size]?=some (.cells (rgc a M v) 107 (0,0)):=by rw [hW];exact zsz w _
 obtain ⟨c0,c1,c2⟩:=zas hc;have HW:=zh hW;have HB:=zh hB;have HC:=zh hc;have hR:=h.below hB;have HR:=zh hR;have K1:=zh (zbQ B gr L d a M v W hR (by omega));rw [zjP hon hn] at K1;have K2:=zh (fun (W:World) (hr:Rf W B gr L d)=>ziU B gr L d a M v W hr h1 hn);have hbs:(rdB d a M).size≤1000000000000:=by unfold rdB;rw [zah,zbU _ (fun i=>h.1.now _)];omega
 have K3:=zh (fun (W:World)=>zkx X V O v (rdB d a M) W hbs hG hV (by omega));have HRU:Hid (zjL X O d a M v=if d.dead then 0 else zmK X O v (rdB d a M)):=by show _=_;unfold zjL;rw [hon];cases d.dead<;>rfl
 have HRE:Hid (zjK X O d a M v=if d.dead then [] else zkM X O v (rdB d a M)):=by show _=_;unfold zjK;rw [hon];cases d.dead<;>rfl
 have HRZ:Hid (rdZ d a M v=if d.dead then 7 else 0):=by show _=_;unfold rdZ;rw [hon,if_pos rfl]
 obtain ⟨RU,hRU⟩:∃ x,x=zjL X O d a M v:=⟨_,rfl⟩;obtain ⟨RE,hRE⟩:∃ x,x=zjK X O d a M v:=⟨_,rfl⟩;obtain ⟨RZ,hRZ⟩:∃ x,x=rdZ d a M v:=⟨_,rfl⟩;obtain ⟨S,hS⟩:∃ S,S=rdB d a M:=⟨_,rfl⟩;obtain ⟨pe,hpe⟩:∃ pe,pe=zkM X O v S:=⟨_,rfl⟩;obtain ⟨pu,hpu⟩:∃ pu,pu=zmK X O v S:=⟨_,rfl⟩;rw [←hRU,←hRE,←hRZ];rw [←hRU] at HRU;rw [←hRE] at HRE;rw [←hRZ] at HRZ;rw [←hS] at K2 K3 HRU HRE;rw [←hpe,←hpu] at K3;rw [←hpu] at HRU;rw [←hpe] at HRE;clear hRU hRE hRZ hS hpe hpu hon h1 hn n2 hB hc hW h hR hbs hv hG hV;unfold ptr at *
 cases hdd:d.dead with
 | true =>
   rw [hdd] at K2 HRU HRE HRZ;obtain rfl:RU=0:=HRU.out;obtain rfl:RE=[]:=HRE.out;obtain rfl:RZ=7:=HRZ.out;rw [if_pos rfl,if_pos rfl] at K2;clear HRU HRE HRZ hdd K3;go_enter Tryz.func61,Tryz.ntmps61
   go_upto_region 1 with fail
   refine zaf (w:=W) HW.out.symm ?_
   go_upto_region 4 with (go_at_call 114;(with_reducible refine K1.out.mono ?_);rintro q w1 ⟨rfl,b1⟩)
   have HB1:=zh (HB.out.trans (b1.mono HB.out.size));have HC1:=zh ((b1.block _ (zgx HC.out)).trans HC.out);have KK:=zh (K2.out w1 (HR.out.below b1));obtain ⟨e0,e1,e2⟩:=zas HC1.out;clear b1 c0 c1 c2
   go_wp2_with (go_at_call 130;(with_reducible refine KK.out.mono ?_);rintro q w2 ⟨rfl,b2⟩)
   go_ret3
   exact ⟨none,0,0,rfl,Le.nil _ _,HB1.out.trans (b2.mono HB1.out.size)⟩
 | false =>
   rw [hdd] at K2 HRU HRE HRZ;obtain rfl:RU=pu:=HRU.out;obtain rfl:RE=pe:=HRE.out;obtain rfl:RZ=0:=HRZ.out;rw [if_neg (by decide),if_neg (by decide)] at K2;clear HRU HRE HRZ hdd;go_enter Tryz.func61,Tryz.ntmps61
   go_upto_region 1 with fail
   refine zaf (w:=W) HW.out.symm ?_
   go_upto_region 4 with (go_at_call 114;(with_reducible refine K1.out.mono ?_);rintro q w1 ⟨rfl,b1⟩)
   have HB1:=zh (HB.out.trans (b1.mono HB.out.size));have HC1:=zh ((b1.block _ (zgx HC.out)).trans HC.out);have KK:=zh (K2.out w1 (HR.out.below b1));obtain ⟨e0,e1,e2⟩:=zas HC1.out;clear b1 c0 c1 c2
   go_upto_region 7 with (go_at_call 130;(with_reducible refine KK.out.mono ?_);rintro q w2 ⟨rfl,b2⟩)
   have HB2:=zh (HB1.out.trans (b2.mono HB1.out.size));have HC2:=zh ((b2.block _ (zgx HC1.out)).trans HC1.out);obtain ⟨f0,f1,f2⟩:=zas HC2.out;clear b2 e0 e1 e2
   go_wp2_with (go_at_call 131;(with_reducible refine (K3.out _).mono ?_);rintro q w3 ⟨A,n,c,rfl,hle,b3⟩)
   go_ret3
   exact ⟨A,n,c,rfl,⟨zdX HB2.out.size hle.own,hle.len⟩,HB2.out.trans (b3.mono HB2.out.size)⟩
theorem zmU (B gr:Nat) (L:List Nat) (d:St) (a M:Nat) (v:Int) (w:World) (h:Rf w B gr L d) (hon:onB d.n a M v=true) (hd:d.dead=false) (hz:∀ k,nOk (tlB (rdB d a M) k)=false) :
 Calls Tryz.prog 61 #[ptr gr,RG a M v] w fun e w'=>∃ A n c,e=.returned (.tuple #[.slice A n c,.int .i64 0,.int .i64 0])∧Le w.heap.size A n c [] w'∧Below w.heap.size w w':=by
 have:=zkz (fun _=>ezz) (fun _=>0) (fun _=>false) B gr L d a M v w h hon (fun ⟨k,hk⟩=>by rw [hz k] at hk;cases hk) (fun t _ h=>by cases h)
 have e1:zjK (fun _=>ezz) (fun _=>false) d a M v=[]:=by unfold zjK;rw [hon,hd];exact zh2 v _
 have e2:zjL (fun _=>ezz) (fun _=>false) d a M v=0:=by unfold zjL;rw [hon,hd];exact zh3 v _
 have e3:rdZ d a M v=0:=by unfold rdZ;rw [hon,hd];rfl
 rw [e1,e2,e3] at this;exact this
end
section
open Dk
theorem zoR {d:St} (f:Nat) {l:List UInt8} (hd:d.dead=true) (hl:0<l.length):wrS d f l=(d,7):=by
 have hw:∀ (i:Int) (s:List UInt8),d.write i s=(d,7):=fun i s=>by
  unfold St.write;rw [zcF hd,if_pos (by decide)]
 unfold wrS;obtain ⟨r,hr⟩:∃ r,(l.length+63) / 64=r+1:=⟨(l.length+63) / 64-1,by omega⟩;rw [hr,wrL,hw,if_neg (by simp)]
theorem zqG (d:St) (hok:d.Ok) (a M U:Nat) (v:Int) (es:List En) (hn:a+M≤d.n) (ho:rcO v (pO v) es=true) (hf:U+(rcS v (pS v) (pO v) es).size≤M*64) (hx:rcS v (pS v) (pO v) es≠⟨#[]⟩) :
 zby d a M v U es=if d.dead then (d,0,7) else if (wrS d (a+U / 64) ((d.now (a+U / 64)).take (U % 64)++(rcS v (pS v) (pO v) es).data.toList)).2≠0 then ((wrS d (a+U / 64) ((d.now (a+U / 64)).take (U % 64)++(rcS v (pS v) (pO v) es).data.toList)).1,0,(wrS d (a+U / 64) ((d.now (a+U / 64)).take (U % 64)++(rcS v (pS v) (pO v) es).data.toList)).2)
  else ((wrS d (a+U / 64) ((d.now (a+U / 64)).take (U % 64)++(rcS v (pS v) (pO v) es).data.toList)).1,((U+(rcS v (pS v) (pO v) es).size:Nat):Int),0):=by
 have hle:((rcS v (pS v) (pO v) es).size:Int)≤((M*64:Nat):Int)-U:=by omega
 have hE:rgE v M U es=0:=by unfold rgE;rw [if_pos ho,if_pos hle]
 have hS:rgS v M U es=rcS v (pS v) (pO v) es:=by unfold rgS;rw [ho,zsD hle];rfl
 obtain ⟨x,hxx⟩:∃ x,x=rcS v (pS v) (pO v) es:=⟨_,rfl⟩;rw [←hxx] at hf hx hS ⊢
 have hx0:0<x.data.toList.length:=by
  rcases Nat.eq_zero_or_pos x.data.toList.length with h|h
  ·exact absurd (ByteArray.ext (Array.toList_inj.1 (ztK h))) hx
  ·exact h
 have hxs:x.data.toList.length=x.size:=zta;have hr:d.refuses ((a+U / 64:Nat):Int)=if d.dead then 7 else 0:=zbF hn (by omega)
 unfold zby;rw [hE,hS,if_neg (by simp),if_neg hx]
 cases hd:d.dead with
 | true =>
   by_cases h0:U % 64=0
   ·have hz:ahZ d a U=0:=by unfold ahZ;rw [if_pos h0]
    have hl:ahL d a U=[]:=by unfold ahL;rw [if_pos h0]
    rw [hz,hl,if_neg (by simp),ztt,zoR _ hd hx0];rfl
   ·have hz:ahZ d a U=7:=by unfold ahZ;rw [if_neg h0,hr,hd];rfl
    rw [hz,if_pos (by decide)];rfl
 | false =>
   have hz:ahZ d a U=0:=by
    unfold ahZ
    split
    ·rfl
    ·rw [hr,hd];rfl
   have hl:ahL d a U=(d.now (a+U / 64)).take (U % 64):=by
    unfold ahL
    split
    ·rename_i h0;rw [h0,List.take_zero]
    ·rw [hr,hd];rfl
   have hlen:((d.now (a+U / 64)).take (U % 64)).length=U % 64:=by rw [zsU,hok.now];omega
   rw [hz,hl,hlen,if_neg (by simp),show a+(U-U % 64) / 64=a+U / 64 by omega];rfl
theorem ziD (b:ByteArray) (k:Nat):b.extract (64*k) (min (64*k+64) b.size)=txt ((b.data.toList.drop (k*64)).take 64):=by
 have hl:b.data.toList.length=b.size:=zta;apply ByteArray.ext;apply Array.toList_inj.1;rw [ztm,zts,zal,ztz,show 64*k=k*64 by omega,List.take_eq_take_iff,zs4];omega
theorem zoS (B gr:Nat) (L:List Nat) (d:St) (a M U:Nat) (v:Int) (A:Option Addr) (n c:Nat) (es:List En) (w:World) (h:Rf w B gr L d)
 (hE:zcJ w.heap.size A n es w) (hn:n≤64) (ok:∀ e∈es,e.Ok) (hon:onB d.n a M v=true) (hU:U≤M*64) (hbg:¬ (v=1∧U % 64≠0)) (hO:rcO v (pO v) es=true) :
 Calls Tryz.prog 137 #[ptr gr,RG a M v,.int .i64 U,.slice A n c] w fun e w'=>e=.returned (.tuple #[.int .i64 (zby d a M v U es).2.1,.int .i64 (zby d a M v U es).2.2])∧zaA B gr L (zby d a M v U es).1 w w':=by
 have n2:=h.1.n2;obtain ⟨hm1,hn1,hv⟩:=zjO n2 hon;obtain ⟨W,hW⟩:∃ W,W=w.alloc (.cells (rgc a M v) 107):=⟨_,rfl⟩;have hB:Below w.heap.size w W:=by rw [hW];exact (Below.refl _ w).alloc (zsy _) _
 have hc:W.heap[w.heap.size]?=some (.cells (rgc a M v) 107 (0,0)):=by rw [hW];exact zsz w _
 have K1:=zh (zbQ B gr L d a M v W (h.below hB) (by omega));rw [zjP hon hn1] at K1;have HE:=zh ((hE.below hB).mr hB.size);have K2:=zh (fun (W:World) (hW:zcJ W.heap.size A n es W)=>zbZ v (pS v) (pO v) A n c es W hW hn (fun e _=>zsB (zfA v e) (by omega)) (zeR v es ok));rw [hO] at K2
 have hsz:(rcS v (pS v) (pO v) es).size≤134217728:=by
  have h1:(rcS v (pS v) (pO v) es).size≤es.length*1048663:=by
   unfold rcS
   split
   ·exact zfC v (pS v) 1048600 es fun e _=>zfA v e
   ·exact zsE _
  rw [hE.len] at h1;omega
 have HGO:Hid (U+(rcS v (pS v) (pO v) es).size≤M*64→rcS v (pS v) (pO v) es≠⟨#[]⟩→zby d a M v U es=_):=fun h1 h2=>zqG d h.1 a M U v es hn1 hO h1 h2
 have HG1:Hid (¬ U+(rcS v (pS v) (pO v) es).size≤M*64→zby d a M v U es=(d,0,4)):=fun h1=>by
  have e1:rgE v M U es=4:=by unfold rgE;rw [if_pos hO,if_neg (by omega)]
  unfold zby;rw [e1,if_pos (by decide)]
 have HG2:Hid (U+(rcS v (pS v) (pO v) es).size≤M*64→rcS v (pS v) (pO v) es=⟨#[]⟩→zby d a M v U es=(d,(U:Int),0)):=fun h1 h2=>by
  have e1:rgE v M U es=0:=by unfold rgE;rw [if_pos hO,if_pos (by omega)]
  have e2:rgS v M U es=⟨#[]⟩:=by
   unfold rgS;rw [h2]
   split<;>rfl
  unfold zby;rw [e1,e2,if_neg (by simp),if_pos rfl]
 have HN:Hid (a+M≤d.n∧d.n≤4096):=⟨hn1,n2⟩;have HNW:=zh (h.1.now (a+U / 64));have HM0:Hid (∀ W',Below w.heap.size w W'→zaA B gr L d w W'):=fun W' hb=>⟨h.below hb,zau.of_below hb⟩;have HLT:=zh h.lt;have HB:=zh hB;have HW:=zh hW;have HC:=zh hc;have HR:=zh (h.below hB);obtain ⟨X,hX⟩:∃ X,X=zby d a M v U es:=⟨_,rfl⟩;rw [←hX] at HGO HG1 HG2 ⊢;obtain ⟨x,hx⟩:∃ x,x=rcS v (pS v) (pO v) es:=⟨_,rfl⟩;rw [←hx] at K2 HGO HG1 HG2 hsz;obtain ⟨c0,c1,c2⟩:=zas hc;have hw:wrap64 (64*(M:Int))=64*(M:Int):=by unfold wrap64;omega
 have t0:decide ((U:Int)<0)=false:=zsC (by omega);have t1:decide (64*(M:Int)<(U:Int))=false:=zsC (by omega)
 have hvv:(v=1∧((U:Int) % 64==0)=true)∨(v==1)=false:=by
  by_cases h:v=1
  ·left
   refine ⟨h,?_⟩
   have:U % 64=0:=Nat.eq_zero_of_not_pos fun h2=>hbg ⟨h,by omega⟩
   rw [show (U:Int) % 64=((U % 64:Nat):Int) by omega,this];rfl
  ·right;exact zcG h
 have HBD:Hid (a≤4096∧M≤4096∧U≤M*64):=⟨by omega,by omega,hU⟩;clear hB hc hW h hE ok hx hX hon hbg hO hv hn1 n2 hm1;unfold ptr at *;rcases hvv with ⟨rfl,t2⟩|t2
 all_goals
  go_enter Tryz.func137,Tryz.ntmps137
  go_upto_region 1 with fail
  refine zaf (w:=W) HW.out.symm ?_
  go_upto_region 2 with (go_at_call 114;(with_reducible refine K1.out.mono ?_);rintro q w1 ⟨rfl,b1⟩)
  have HB1:=zh (HB.out.trans (b1.mono HB.out.size));have HE1:=zh ((HE.out.below b1).mr b1.size);have HC1:=zh ((b1.block _ (zgx HC.out)).trans HC.out);obtain ⟨e0,e1,e2⟩:=zas HC1.out;have HR1:=zh (HR.out.below b1);clear b1 c0 c1 c2
  go_upto_region 3 with (go_at_call 115;(with_reducible refine (K2.out _ HE1.out).mono ?_);rintro q w2 ⟨rfl,b2⟩)
  have HB2:=zh (HB1.out.trans (b2.mono HB1.out.size));have HC2:=zh ((b2.block _ (zgx HC1.out)).trans HC1.out);obtain ⟨f0,f1,f2⟩:=zas HC2.out;have HR2:=zh (HR1.out.below b2);clear b2 e0 e1 e2 HB HB1 HC HC1 HR HR1 HE HE1 K1 K2 HW
  go_upto_region 5 with fail
  obtain ⟨hb1,hb2,hb3⟩:=HBD.out;have hl1:wrap64 ((U:Int)+(x.size:Int))=(U:Int)+(x.size:Int):=by unfold wrap64;omega
  by_cases hf:U+x.size≤M*64
  rotate_left
  ·obtain rfl:X=(d,0,4):=HG1.out hf;have t3:decide (64*(M:Int)<(U:Int)+(x.size:Int))=true:=zsD (by omega);clear hf hb1 hb2 hb3 HGO HG1 HG2;go_wp2;go_ret2;exact ⟨rfl,HM0.out _ HB2.out⟩
  have t3:decide (64*(M:Int)<(U:Int)+(x.size:Int))=false:=zsC (by omega)
  by_cases hx0:x=⟨#[]⟩
  ·obtain rfl:X=(d,(U:Int),0):=HG2.out hf hx0;have t4:x.toList.isEmpty=true:=by rw [ztf,hx0];rfl
   clear hf hb1 hb2 hb3 HGO HG1 HG2 hx0;go_wp2;go_ret2;exact ⟨rfl,HM0.out _ HB2.out⟩
  have HX:=zh (HGO.out hf hx0)
  have t4:x.toList.isEmpty=false:=by
   rw [ztf,List.isEmpty_eq_false_iff];intro e;exact hx0 (ByteArray.ext (Array.toList_inj.1 e))
  have hxz:0<x.size:=by
   rcases Nat.eq_zero_or_pos x.size with h|h
   ·exact absurd (ByteArray.ext (Array.toList_inj.1 (ztK (zta.trans h)))) hx0
   ·exact h
  have HUM:Hid (U / 64<M):=by show _<_;omega
  have KR:=zh (zcm B gr L d ((a+U / 64:Nat):Int) w2 HR2.out);rw [zbF HN.out.1 HUM.out] at KR;rw [show ((a+U / 64:Nat):Int)=(a:Int)+(U:Int) / 64 by omega] at KR;have HBX:Hid (x.size≤134217728∧U+x.size≤M*64):=⟨hsz,hf⟩;have hl3:wrap64 ((U:Int) / 64)=(U:Int) / 64:=by unfold wrap64;omega
  have hl2:wrap64 ((a:Int)+(U:Int) / 64)=(a:Int)+(U:Int) / 64:=by unfold wrap64;omega
  clear hf hb1 hb2 hb3 HGO HG1 HG2 hsz
  cases hdd:d.dead with
  | true =>
    rw [hdd,if_pos rfl] at KR;have hX:=HX.out;rw [hdd,if_pos rfl] at hX;subst hX;obtain ⟨RS,hRS⟩:∃ s,s=txt (d.readS ((a:Int)+(U:Int) / 64)):=⟨_,rfl⟩;rw [←hRS] at KR;clear hRS HX hdd;unfold ptr at *
    go_wp2_with (go_at_call 128;(with_reducible refine KR.out.mono ?_);rintro q w5 ⟨rfl,rfl⟩)
    go_ret2;exact ⟨rfl,HM0.out _ HB2.out⟩
  | false =>
    have hrs:=zey HN.out.1 HUM.out hdd;rw [show ((a+U / 64:Nat):Int)=(a:Int)+(U:Int) / 64 by omega] at hrs;rw [hdd,if_neg (by decide),hrs] at KR;have hX:=HX.out;rw [hdd,if_neg (by decide)] at hX;have hS:=HNW.out;obtain ⟨nw,hnw⟩:∃ nw,nw=d.now (a+U / 64):=⟨_,rfl⟩;rw [←hnw] at KR hX hS;have hcut:=zeQ nw (U % 64);have hzs:(txt nw).size=64:=by rw [zah];exact hS
    have hT:txt (nw.take (U % 64))++x=txt (nw.take (U % 64)++x.data.toList):=by
     apply ByteArray.ext;apply Array.toList_inj.1;rw [ztb,ztn,zal,zal]
    obtain ⟨T,hTT⟩:∃ T,T=nw.take (U % 64)++x.data.toList:=⟨_,rfl⟩;rw [←hTT] at hT hX;have hTl:T.length=U % 64+x.size:=by rw [hTT,zsS,zsU,hS,zta];show _+x.size=_;omega
    have hpz:(txt (nw.take (U % 64))).size=U % 64:=by rw [zah,zsU,hS];omega
    obtain ⟨S,hSS⟩:∃ S,S=txt nw:=⟨_,rfl⟩;rw [←hSS] at KR hcut hzs;obtain ⟨P,hP⟩:∃ P,P=txt (nw.take (U % 64)):=⟨_,rfl⟩;rw [←hP] at hcut hpz hT;have q1:((U:Int) % 64).toNat=U % 64:=by omega
    have q2:(U:Int) % 64≤(S.size:Int):=by omega
    have q3:(0:Int)≤(U:Int) % 64:=by omega
    have hadd:¬ 9223372036854775807<P.size+x.size:=by have:=HBX.out;omega
    have HX2:=zh hX;have HTL:=zh hTl;clear hX hTl hTT hnw hS hSS hP HX hdd hrs HNW;unfold ptr at *
    go_upto_region 13 with (go_at_call 128;(with_reducible refine KR.out.mono ?_);rintro q w5 ⟨rfl,rfl⟩)
    obtain ⟨b,hb⟩:∃ b,b=P++x:=⟨_,rfl⟩;rw [←hb] at hT;have hbl:b.data.toList=T:=by rw [hT,zal]
    have hbz:b.size=U % 64+x.size:=by rw [hT,zah];exact HTL.out
    go_upto_region 14 with fail
    rw [←hb]
    have HX3:Hid (X=if (wrL (a+U / 64) b.data.toList ((b.size+63) / 64) 0 d).2≠0 then ((wrL (a+U / 64) b.data.toList ((b.size+63) / 64) 0 d).1,0,(wrL (a+U / 64) b.data.toList ((b.size+63) / 64) 0 d).2) else ((wrL (a+U / 64) b.data.toList ((b.size+63) / 64) 0 d).1,((U+x.size:Nat):Int),0)):=by
     have e:wrS d (a+U / 64) T=wrL (a+U / 64) b.data.toList ((b.size+63) / 64) 0 d:=by
      unfold wrS;rw [hbl,show T.length=b.size by rw [←hbl];exact zta]
     rw [←e];exact HX2.out
    obtain ⟨X0,hX0⟩:∃ X0,X0=wrL (a+U / 64) b.data.toList ((b.size+63) / 64) 0 d:=⟨_,rfl⟩;rw [←hX0] at HX3;obtain ⟨R,hR⟩:∃ R,R=(b.size+63) / 64:=⟨_,rfl⟩;rw [←hR] at hX0;have HX0:=zh hX0
    have HRB:Hid (R=(b.size+63) / 64∧b.size≤134217791∧U+x.size≤M*64∧x.size≤134217728):=by
     have:=HBX.out
     exact ⟨hR,by omega,this.2,this.1⟩
    clear hb hbl hbz hT hX0 hR HX2 HTL HBX KR hcut hzs hpz q1 q2 q3 hadd hl2 hl3 t3 t4 t0 t1 t2 hw f1 f2 f0;obtain ⟨Fi,hFi⟩:∃ Fi:Int,Fi=(U:Int) / 64:=⟨_,rfl⟩;rw [←hFi]
    have HFI:Hid (((a+U / 64:Nat):Int)=(a:Int)+Fi∧0≤Fi∧Fi≤4096):=by
     have:=HBD.out
     exact ⟨by omega,by omega,by omega⟩
    clear hFi
    go_wp2_with fail
    go_loopw [17] (fun i wr=>∃ (k:Nat) (d':St),i=.int .i64 k∧k≤R∧Hid (zaA B gr L d' w wr∧wrL (a+U / 64) b.data.toList (R-k) k d'=X0)∧Hid (wr.heap[w.heap.size]?=some (.cells (rgc a M _) 107 (0,0)))) (fun i _=>R-(Go.RowKit.intOf i).toNat)
    case atStart=>exact ⟨0,d,rfl,zsE _,⟨HM0.out _ HB2.out,HX0.out.symm⟩,HC2⟩
    case round =>
     obtain ⟨k,d',rfl,hk,hP,hcc⟩:=hrel;obtain ⟨f0,f1,f2⟩:=zas hcc.out
     by_cases hlt:k<R
     ·have hr:=HRB.out;have hfi:=HFI.out;have t1:decide (64*(k:Int)<(b.size:Int))=true:=zsD (by omega);have ham1:=HBD.out.1
      have hst:wrL (a+U / 64) b.data.toList (R-k) k d'=if (d'.write ((a+U / 64+k:Nat):Int) ((b.data.toList.drop (k*64)).take 64)).2=0 then wrL (a+U / 64) b.data.toList (R-(k+1)) (k+1) (d'.write ((a+U / 64+k:Nat):Int) ((b.data.toList.drop (k*64)).take 64)).1 else d'.write ((a+U / 64+k:Nat):Int) ((b.data.toList.drop (k*64)).take 64):=by
       rw [show R-k=(R-(k+1))+1 by omega];rfl
      rw [hP.out.2] at hst;have HST:=zh hst;have hx:=ziD b k;have KW:=zh (zco B gr L d' ((a+U / 64+k:Nat):Int) ((b.data.toList.drop (k*64)).take 64) wr.drew (hP.out.1.1.below (Below.refl _ wr).drew));rw [←hx] at KW;rw [show ((a+U / 64+k:Nat):Int)=(a:Int)+Fi+k by omega] at KW HST;obtain ⟨DD,hDD⟩:∃ D,D=d'.write ((a:Int)+Fi+k) ((b.data.toList.drop (k*64)).take 64):=⟨_,rfl⟩;rw [←hDD] at KW HST;obtain ⟨r,hr2⟩:∃ r,r=min (64*k+64) b.size:=⟨_,rfl⟩;rw [←hr2] at KW;have hm2:min (64*(k:Int)+64) (b.size:Int)=(r:Int):=by omega
      have hpr:64*(k:Int)≤(r:Int):=by omega
      have hp0:(0:Int)≤64*(k:Int):=by omega
      have hpn:(64*(k:Int)).toNat=64*k:=by omega
      have hrb:(r:Int)≤(b.size:Int):=by omega
      have hl1:IntKind.i64.wrap ((a:Int)+Fi)=(a:Int)+Fi:=IntWalk.i64_in _ (by omega);have hl2:IntKind.i64.wrap ((a:Int)+Fi+k)=(a:Int)+Fi+k:=IntWalk.i64_in _ (by omega);have hl3:IntKind.i64.wrap (64*(k:Int))=64*(k:Int):=IntWalk.i64_in _ (by omega);have hl4:IntKind.i64.wrap (64*(k:Int)+64)=64*(k:Int)+64:=IntWalk.i64_in _ (by omega);have g0:wr.drew.cell? ⟨w.heap.size,0,none⟩=some (.int .i64 a):=f0;have HLB:Hid (w.heap.size<wr.heap.size):=(zgx hcc.out);clear hst hx hDD hr2 ham1 hr hfi;unfold ptr at *
      go_upto_region 17 with fail
      go_region_law (go_simp;go_at_call 70;(with_reducible refine KW.out.mono ?_);rintro q w5 ⟨rfl,hM5⟩)
      all_goals
       have HM5:Hid (zaA B gr L DD.1 w w5):=⟨hM5.1,hP.out.1.2.trans ((zau.of_below (Below.refl _ wr).drew).trans hM5.2)⟩;have HC5:Hid (w5.heap[w.heap.size]?=some (.cells (rgc a M _) 107 (0,0))):=(hM5.2.block _ HLB.out (fun hm=>Nat.lt_irrefl _ (HLT.out _ hm))).trans hcc.out;obtain ⟨z,hz⟩:∃ z,z=DD.2:=⟨_,rfl⟩;rw [←hz] at HST ⊢;clear hM5 hP KW hm2 hpr hp0 hpn hrb hl1 hl2 hl3 hl4 g0 f0 f1 f2 hcc
       by_cases hz0:z=0
       ·have hst:=HST.out;rw [if_pos hz0] at hst;have HST2:=zh hst;have hkk:(k:Int)≤4194304:=by have:=HRB.out;omega
        subst hz0;clear hst HST hz;go_wp2
        go_roundw
        case rel=>exact ⟨k+1,DD.1,by go_num,by omega,⟨HM5.out,HST2.out.symm⟩,HC5⟩
        case measure=>simp [Go.RowKit.intOf];omega
       ·have hst:=HST.out;rw [if_neg hz0] at hst;have hX:X=(DD.1,0,z):=by rw [HX3.out,hst,if_pos (by rw [←hz];exact hz0),hz]
        have e1:(z==0)=false:=zcG hz0;have e2:(z != 0)=true:=by unfold bne;rw [e1];rfl
        subst hX;clear hst HST hz HX3;go_wp2;go_ret2;exact ⟨rfl,HM5.out⟩
     ·have hr:=HRB.out;have hkm:k=R:=by omega
      have t1:decide (64*(k:Int)<(b.size:Int))=false:=zsC (by omega);have hl3:wrap64 (64*(k:Int))=64*(k:Int):=by unfold wrap64;omega
      obtain ⟨h1,h2⟩:=hP.out;rw [hkm,Nat.sub_self] at h2;have hX0:X0=(d',0):=h2.symm;have hX:X=(d',((U+x.size:Nat):Int),0):=by rw [HX3.out,hX0];rfl
      rw [show ((U+x.size:Nat):Int)=(U:Int)+(x.size:Int) by omega] at hX;have H1:=zh h1;subst hX;clear h1 h2 HX3 hP hX0 hr f0 f1 f2 hcc HX0 hkm hlt hk;go_wp2;go_ret2;exact ⟨rfl,H1.out⟩
end
section
open Dk
theorem zmV (first:Nat) (l:List UInt8) (z:Nat):∀ (r k:Nat) (d:St),wrL first (l++List.replicate z 0) r k d=wrL first l r k d
 | 0,k,d=>rfl
 | r+1,k,d=>by
   have e:d.write ((first+k:Nat):Int) (((l++List.replicate z 0).drop (k*64)).take 64)=d.write ((first+k:Nat):Int) ((l.drop (k*64)).take 64) :=
    zg5 d _ _ _ (by rw [zsU];omega) (by rw [zsU];omega) (zeU _ _ _)
   rw [wrL,wrL,e,zmV first l z r (k+1)]
theorem zqH {d:St} {a M:Nat} {v:Int} {es:List En} (hon:onB d.n a M v=true) (ho:rcO v (pO v) es=true) (hf:(rcS v (pS v) (pO v) es).size≤M*64) :
 zdr d a M v es=wrL a (rcS v (pS v) (pO v) es).data.toList M 0 d:=by
 have hle:((rcS v (pS v) (pO v) es).size:Int)≤((M*64:Nat):Int)-(0:Nat):=by omega
 have hE:rgE v M 0 es=0:=by unfold rgE;rw [if_pos ho,if_pos hle]
 have hS:rgS v M 0 es=rcS v (pS v) (pO v) es:=by unfold rgS;rw [ho,zsD hle];rfl
 unfold zdr;rw [if_pos hon,hE,hS,if_neg (by simp)];obtain ⟨x,hx⟩:∃ x,x=rcS v (pS v) (pO v) es:=⟨_,rfl⟩;rw [←hx] at hf ⊢
 have hl:(x.data.toList++List.replicate (M*64-x.size) (0:UInt8)).length=M*64:=by
  rw [zsS,ztj,zta];show x.size+_=_;omega
 unfold wrS;rw [hl,show (M*64+63) / 64=M by omega,zmV]
theorem zoT {d:St} {a M:Nat} {v:Int} {es:List En} (hon:onB d.n a M v=true) (ho:rcO v (pO v) es=true) (hf:¬ (rcS v (pS v) (pO v) es).size≤M*64):zdr d a M v es=(d,4):=by
 have hE:rgE v M 0 es=4:=by unfold rgE;rw [if_pos ho,if_neg (by omega)]
 unfold zdr;rw [if_pos hon,hE,if_pos (by decide)]
theorem zoU (b:ByteArray) (k:Nat):b.extract (min (64*k) b.size) (min (64*k+64) b.size)=txt ((b.data.toList.drop (k*64)).take 64):=by
 have hl:b.data.toList.length=b.size:=zta;apply ByteArray.ext;apply Array.toList_inj.1;rw [ztm,zts,zal,ztz]
 by_cases h:64*k≤b.size
 ·rw [show min (64*k) b.size=k*64 by omega,List.take_eq_take_iff,zs4];omega
 ·rw [zti (by omega),zti (by omega)]
  simp
theorem zrN (B gr:Nat) (L:List Nat) (d:St) (at_ m v:Int) (A:Option Addr) (n c:Nat) (es:List En) (w:World) (h:Rf w B gr L d) (ha:at_≤9223372036854775807)
 (hE:zcJ w.heap.size A n es w) (hn:n≤64) (ok:∀ e∈es,e.Ok) (hno:onI d.n at_ m v=false∨rcO v (pO v) es=false) :
 Calls Tryz.prog 51 #[ptr gr,RG at_ m v,.slice A n c] w fun e w'=>e=.returned (.int .i64 1)∧Below w.heap.size w w':=by
 obtain ⟨W,hW⟩:∃ W,W=w.alloc (.cells (rgc at_ m v) 107):=⟨_,rfl⟩;have hB:Below w.heap.size w W:=by rw [hW];exact (Below.refl _ w).alloc (zsy _) _
 have hc:W.heap[w.heap.size]?=some (.cells (rgc at_ m v) 107 (0,0)):=by rw [hW];exact zsz w _
 have K1:=zh (zbQ B gr L d at_ m v W (h.below hB) ha);have HE:=zh ((hE.below hB).mr hB.size);have K2:=zh (fun (W:World) (hW:zcJ W.heap.size A n es W)=>zbZ v (pS v) (pO v) A n c es W hW hn (fun e _=>zsB (zfA v e) (by omega)) (zeR v es ok));have HB:=zh hB;have HW:=zh hW;have HC:=zh hc;obtain ⟨x,hx⟩:∃ x,x=rcS v (pS v) (pO v) es:=⟨_,rfl⟩;obtain ⟨o,ho⟩:∃ o,o=rcO v (pO v) es:=⟨_,rfl⟩;obtain ⟨on,hon⟩:∃ b,b=onI d.n at_ m v:=⟨_,rfl⟩;rw [←hx,←ho] at K2;rw [←ho,←hon] at hno;rw [←hon] at K1;obtain ⟨c0,c1,c2⟩:=zas hc
 have hoo:on=false∨(on=true∧o=false):=by
  cases on
  ·exact .inl rfl
  ·exact .inr ⟨rfl,by rcases hno with h|h;cases h;exact h⟩
 clear hB hc hW h hE ok hx ho hon hno;unfold ptr at *;rcases hoo with rfl|⟨rfl,rfl⟩
 all_goals
  go_enter Tryz.func51,Tryz.ntmps51
  go_upto_region 1 with fail
  refine zaf (w:=W) HW.out.symm ?_
  go_upto_region 2 with (go_at_call 114;(with_reducible refine K1.out.mono ?_);rintro q w1 ⟨rfl,b1⟩)
  have HB1:=zh (HB.out.trans (b1.mono HB.out.size));have HE1:=zh ((HE.out.below b1).mr b1.size);obtain ⟨e0,e1,e2⟩:=zas ((b1.block _ (zgx HC.out)).trans HC.out);clear b1 c0 c1 c2
  go_upto_region 3 with (go_at_call 115;(with_reducible refine (K2.out _ HE1.out).mono ?_);rintro q w2 ⟨rfl,b2⟩)
  have HB2:=zh (HB1.out.trans (b2.mono HB1.out.size));clear b2 e0 e1 e2;go_wp2;go_ret;exact ⟨rfl,HB2.out⟩
theorem zh6 (B gr:Nat) (L:List Nat) (d:St) (a M:Nat) (v:Int) (A:Option Addr) (n c:Nat) (es:List En) (w:World) (h:Rf w B gr L d)
 (hE:zcJ w.heap.size A n es w) (hn:n≤64) (ok:∀ e∈es,e.Ok) (hon:onB d.n a M v=true) (hO:rcO v (pO v) es=true) :
 Calls Tryz.prog 51 #[ptr gr,RG a M v,.slice A n c] w fun e w'=>e=.returned (.int .i64 (zdr d a M v es).2)∧zaA B gr L (zdr d a M v es).1 w w':=by
 have n2:=h.1.n2;obtain ⟨hm1,hn1,hv⟩:=zjO n2 hon;obtain ⟨W,hW⟩:∃ W,W=w.alloc (.cells (rgc a M v) 107):=⟨_,rfl⟩;have hB:Below w.heap.size w W:=by rw [hW];exact (Below.refl _ w).alloc (zsy _) _
 have hc:W.heap[w.heap.size]?=some (.cells (rgc a M v) 107 (0,0)):=by rw [hW];exact zsz w _
 have K1:=zh (zbQ B gr L d a M v W (h.below hB) (by omega));rw [zjP hon hn1] at K1;have HE:=zh ((hE.below hB).mr hB.size);have K2:=zh (fun (W:World) (hW:zcJ W.heap.size A n es W)=>zbZ v (pS v) (pO v) A n c es W hW hn (fun e _=>zsB (zfA v e) (by omega)) (zeR v es ok));rw [hO] at K2
 have hsz:(rcS v (pS v) (pO v) es).size≤134217728:=by
  have h1:(rcS v (pS v) (pO v) es).size≤es.length*1048663:=by
   unfold rcS
   split
   ·exact zfC v (pS v) 1048600 es fun e _=>zfA v e
   ·exact zsE _
  rw [hE.len] at h1;omega
 have HG0:Hid ((rcS v (pS v) (pO v) es).size≤M*64→zdr d a M v es=wrL a (rcS v (pS v) (pO v) es).data.toList M 0 d):=fun h1=>zqH hon hO h1;have HG1:Hid (¬ (rcS v (pS v) (pO v) es).size≤M*64→zdr d a M v es=(d,4)):=fun h1=>zoT hon hO h1;have HM0:Hid (∀ W',Below w.heap.size w W'→zaA B gr L d w W'):=fun W' hb=>⟨h.below hb,zau.of_below hb⟩;have HLT:=zh h.lt;have HB:=zh hB;have HW:=zh hW;have HC:=zh hc;have HR:=zh (h.below hB);obtain ⟨X,hX⟩:∃ X,X=zdr d a M v es:=⟨_,rfl⟩;rw [←hX] at HG0 HG1 ⊢;obtain ⟨b,hb⟩:∃ b,b=rcS v (pS v) (pO v) es:=⟨_,rfl⟩;rw [←hb] at K2 HG0 HG1 hsz;obtain ⟨c0,c1,c2⟩:=zas hc;have hw:wrap64 (64*(M:Int))=64*(M:Int):=by unfold wrap64;omega
 have HBD:Hid (a≤4096∧M≤4096∧b.size≤134217728):=⟨by omega,by omega,hsz⟩;have hng:(¬ b.size≤M*64∧64*(M:Int)<(b.size:Int))∨(b.size≤M*64∧¬ 64*(M:Int)<(b.size:Int)):=by omega
 clear hB hc hW h hE ok hb hX hon hO hv hn1 n2 hm1 hsz;unfold ptr at *;go_enter Tryz.func51,Tryz.ntmps51
 go_upto_region 1 with fail
 refine zaf (w:=W) HW.out.symm ?_
 go_upto_region 2 with (go_at_call 114;(with_reducible refine K1.out.mono ?_);rintro q w1 ⟨rfl,b1⟩)
 have HB1:=zh (HB.out.trans (b1.mono HB.out.size));have HE1:=zh ((HE.out.below b1).mr b1.size);have HC1:=zh ((b1.block _ (zgx HC.out)).trans HC.out);obtain ⟨e0,e1,e2⟩:=zas HC1.out;have HR1:=zh (HR.out.below b1);clear b1 c0 c1 c2
 go_upto_region 3 with (go_at_call 115;(with_reducible refine (K2.out _ HE1.out).mono ?_);rintro q w2 ⟨rfl,b2⟩)
 have HB2:=zh (HB1.out.trans (b2.mono HB1.out.size));have HC2:=zh ((b2.block _ (zgx HC1.out)).trans HC1.out);obtain ⟨f0,f1,f2⟩:=zas HC2.out;clear b2 e0 e1 e2 HB HB1 HC HC1 HR HR1 HE HE1 K1 K2 HW;rcases hng with ⟨hf,hng⟩|⟨hf,hng⟩
 ·obtain rfl:X=(d,4):=HG1.out hf;clear hf HG0 HG1;go_wp2;go_ret;exact ⟨rfl,HM0.out _ HB2.out⟩
 have HX:=zh (HG0.out hf);clear HG0 HG1 hf
 go_upto_region 8 with fail
 clear hng hw f0 f1 f2
 go_loopw [10] (fun i wr=>∃ (k:Nat) (d':St),i=.int .i64 k∧k≤M∧Hid (zaA B gr L d' w wr∧wrL a b.data.toList (M-k) k d'=X)∧Hid (wr.heap[w.heap.size]?=some (.cells (rgc a M v) 107 (0,0)))) (fun i _=>M-(Go.RowKit.intOf i).toNat)
 case atStart=>exact ⟨0,d,rfl,zsE _,⟨HM0.out _ HB2.out,HX.out.symm⟩,HC2⟩
 case round =>
  obtain ⟨k,d',rfl,hk,hP,hcc⟩:=hrel;obtain ⟨f0,f1,f2⟩:=zas hcc.out
  by_cases hlt:k<M
  ·have t1:decide ((k:Int)<(M:Int))=true:=zsD (by omega);obtain ⟨ham1,ham2,ham3⟩:=HBD.out
   have hst:wrL a b.data.toList (M-k) k d'=if (d'.write ((a+k:Nat):Int) ((b.data.toList.drop (k*64)).take 64)).2=0 then wrL a b.data.toList (M-(k+1)) (k+1) (d'.write ((a+k:Nat):Int) ((b.data.toList.drop (k*64)).take 64)).1 else d'.write ((a+k:Nat):Int) ((b.data.toList.drop (k*64)).take 64):=by
    rw [show M-k=(M-(k+1))+1 by omega];rfl
   rw [hP.out.2] at hst;have HST:=zh hst;have hx:=zoU b k;have KW:=zh (zco B gr L d' ((a+k:Nat):Int) ((b.data.toList.drop (k*64)).take 64) wr.drew (hP.out.1.1.below (Below.refl _ wr).drew));rw [←hx] at KW;rw [show ((a+k:Nat):Int)=(a:Int)+k by omega] at KW HST;obtain ⟨DD,hDD⟩:∃ D,D=d'.write ((a:Int)+k) ((b.data.toList.drop (k*64)).take 64):=⟨_,rfl⟩;rw [←hDD] at KW HST;obtain ⟨p,hp⟩:∃ p,p=min (64*k) b.size:=⟨_,rfl⟩;obtain ⟨r,hr⟩:∃ r,r=min (64*k+64) b.size:=⟨_,rfl⟩;rw [←hp,←hr] at KW;have hm1:min (64*(k:Int)) (b.size:Int)=(p:Int):=by omega
   have hm2:min (64*(k:Int)+64) (b.size:Int)=(r:Int):=by omega
   have hpr:(p:Int)≤(r:Int):=by omega
   have hrb:(r:Int)≤(b.size:Int):=by omega
   have hl2:IntKind.i64.wrap ((a:Int)+k)=(a:Int)+k:=IntWalk.i64_in _ (by omega);have hl3:IntKind.i64.wrap (64*(k:Int))=64*(k:Int):=IntWalk.i64_in _ (by omega);have hl4:IntKind.i64.wrap (64*(k:Int)+64)=64*(k:Int)+64:=IntWalk.i64_in _ (by omega);have g0:wr.drew.cell? ⟨w.heap.size,0,none⟩=some (.int .i64 a):=f0;have HLB:Hid (w.heap.size<wr.heap.size):=(zgx hcc.out);clear hst hx hDD hp hr ham1 ham2 ham3;unfold ptr at *
   go_upto_region 10 with fail
   go_region_law (go_simp;go_at_call 70;(with_reducible refine KW.out.mono ?_);rintro q w5 ⟨rfl,hM5⟩)
   all_goals
    have HM5:Hid (zaA B gr L DD.1 w w5):=⟨hM5.1,hP.out.1.2.trans ((zau.of_below (Below.refl _ wr).drew).trans hM5.2)⟩;have HC5:Hid (w5.heap[w.heap.size]?=some (.cells (rgc a M v) 107 (0,0))):=(hM5.2.block _ HLB.out (fun hm=>Nat.lt_irrefl _ (HLT.out _ hm))).trans hcc.out;obtain ⟨z,hz⟩:∃ z,z=DD.2:=⟨_,rfl⟩;rw [←hz] at HST ⊢;clear hM5 hP KW hm1 hm2 hpr hrb hl2 hl3 hl4 g0 f0 f1 f2 hcc;have hMM:=HBD.out.2.1
    by_cases hz0:z=0
    ·have hst:=HST.out;rw [if_pos hz0] at hst;have HST2:=zh hst;subst hz0;clear hst HST hz;go_wp2
     go_roundw
     case rel=>exact ⟨k+1,DD.1,by go_num,by omega,⟨HM5.out,HST2.out.symm⟩,HC5⟩
     case measure=>simp [Go.RowKit.intOf];omega
    ·have hst:=HST.out;rw [if_neg hz0] at hst;have hX:X=(DD.1,z):=by rw [hst,hz]
     have e1:(z==0)=false:=zcG hz0;have e2:(z != 0)=true:=by unfold bne;rw [e1];rfl
     subst hX;clear hst HST hz HX;go_wp2;go_ret;exact ⟨rfl,HM5.out⟩
  ·have hkm:k=M:=by omega
   have t1:decide ((k:Int)<(M:Int))=false:=zsC (by omega);obtain ⟨h1,h2⟩:=hP.out;rw [hkm,Nat.sub_self] at h2;have hX:X=(d',0):=h2.symm;have H1:=zh h1;subst hX;clear h1 h2 HX hP hkm hk;go_wp2;go_ret;exact ⟨rfl,H1.out⟩
end
section
open Dk
theorem zqI (a c:List UInt8):((txt a).toList==(txt c).toList)=decide (a=c):=by
 rw [ztf,ztf,zal,zal]
 by_cases h:a=c
 ·rw [h];simp
 ·rw [zsC h];exact beq_eq_false_iff_ne.2 h
theorem zkA (l:List UInt8) (w:World) (hl:l.length≤64) :
 Calls Tryz.prog 132 #[.string (txt l)] w fun e w'=>e=.returned (.bool (decide (l=List.replicate l.length 0)))∧Below w.heap.size w w':=by
 have hmk:=zgY w l.length (by omega);have hcv:=zgZ (w.alloc (.cells (Lib.byteCells (zeros l.length)).toArray 5)) w.heap.size l.length (zsz w _);have B2:=(Below.refl w.heap.size w).alloc (zsy _) (.cells (Lib.byteCells (zeros l.length)).toArray 5);have hcmp:=zqI l (List.replicate l.length 0);have hz:zz l.length=txt (List.replicate l.length 0):=rfl;rw [←hz] at hcmp;have hs:=zah l;obtain ⟨b,hb⟩:∃ b,b=decide (l=List.replicate l.length 0):=⟨_,rfl⟩;rw [←hb] at hcmp ⊢;obtain ⟨m,hm⟩:∃ m,m=l.length:=⟨_,rfl⟩;rw [←hm] at hmk hcv B2 hcmp hs;obtain ⟨M,hM⟩:∃ M,M=(Lib.byteCells (zeros m)).toArray:=⟨_,rfl⟩;rw [←hM] at hmk hcv B2;obtain ⟨S,hS⟩:∃ S,S=txt l:=⟨_,rfl⟩;rw [←hS] at hcmp hs ⊢;obtain ⟨Z,hZ⟩:∃ Z,Z=zz m:=⟨_,rfl⟩;rw [←hZ] at hcmp hcv;have HB2:=zh B2;clear hM hS hZ hb hm hz B2
 cases b
 all_goals
  go_enter Tryz.func132,Tryz.ntmps132;go_wp2;go_ret;exact ⟨rfl,HB2.out⟩
theorem zmW (B gr:Nat) (L:List Nat) (d:St) (a M U:Nat) (v:Int) (w:World) (h:Rf w B gr L d) (hon:onB d.n a M v=true) (hU:U≤M*64) :
 Calls Tryz.prog 63 #[ptr gr,RG a M v,.int .i64 U] w fun e w'=>e=.returned (.int .i64 (wipG d a M U).2)∧zaA B gr L (wipG d a M U).1 w w':=by
 have n2:=h.1.n2;obtain ⟨hm1,hn1,hv⟩:=zjO n2 hon;obtain ⟨W,hW⟩:∃ W,W=w.alloc (.cells (rgc a M v) 107):=⟨_,rfl⟩;have hB:Below w.heap.size w W:=by rw [hW];exact (Below.refl _ w).alloc (zsy _) _
 have hc:W.heap[w.heap.size]?=some (.cells (rgc a M v) 107 (0,0)):=by rw [hW];exact zsz w _
 have K1:=zh (zbQ B gr L d a M v W (h.below hB) (by omega));rw [zjP hon hn1] at K1;have HM0:Hid (∀ W',Below w.heap.size w W'→zaA B gr L d w W'):=fun W' hb=>⟨h.below hb,zau.of_below hb⟩;have HLT:=zh h.lt;have HB:=zh hB;have HW:=zh hW;have HC:=zh hc;obtain ⟨c0,c1,c2⟩:=zas hc;obtain ⟨T,hT⟩:∃ T,T=wiL a U (M-U / 64) (U / 64) d false:=⟨_,rfl⟩;have hX:wipG d a M U=if T.2.1≠0∨T.2.2=false then (T.1,T.2.1) else T.1.flush:=by rw [hT];rfl
 obtain ⟨X,hXX⟩:∃ X,X=wipG d a M U:=⟨_,rfl⟩;rw [←hXX] at hX ⊢;have HX:=zh hX;have HT:=zh hT;have hw:wrap64 (64*(M:Int))=64*(M:Int):=by unfold wrap64;omega
 have t0:decide ((U:Int)<0)=false:=zsC (by omega);have t1:decide (64*(M:Int)<(U:Int))=false:=zsC (by omega);have hdv:wrap64 ((U:Int) / 64)=(U:Int) / 64:=by unfold wrap64;omega
 have HBD:Hid (a≤4096∧M≤4096∧U≤M*64):=⟨by omega,by omega,hU⟩;clear hB hc hW h hX hXX hT hon hv hn1 n2 hm1;unfold ptr at *;go_enter Tryz.func63,Tryz.ntmps63
 go_upto_region 1 with fail
 refine zaf (w:=W) HW.out.symm ?_
 go_upto_region 2 with (go_at_call 114;(with_reducible refine K1.out.mono ?_);rintro q w1 ⟨rfl,b1⟩)
 have HB1:=zh (HB.out.trans (b1.mono HB.out.size));have HC1:=zh ((b1.block _ (zgx HC.out)).trans HC.out);obtain ⟨e0,e1,e2⟩:=zas HC1.out;clear b1 c0 c1 c2 HB HC K1 HW
 go_upto_region 6 with fail
 simp only [hdv];clear hw t0 t1 e0 e1 e2 hdv
 go_loopw [8,9] (fun s i wr=>∃ (k:Nat) (d':St) (b:Bool),i=.int .i64 k∧s=.bool b∧Hid (U / 64≤k∧k≤M)∧Hid (zaA B gr L d' w wr∧wiL a U (M-k) k d' b=T)∧Hid (wr.heap[w.heap.size]?=some (.cells (rgc a M v) 107 (0,0)))) (fun _ i _=>M-(Go.RowKit.intOf i).toNat)
 case atStart=>exact ⟨U / 64,d,false,by first|rfl|congr 1,rfl,(by have:=HBD.out;exact ⟨zsy _,by omega⟩),⟨HM0.out _ HB1.out,HT.out.symm⟩,HC1⟩
 case round =>
  obtain ⟨k,d',b,rfl,rfl,hkk,hP,hcc⟩:=hrel;obtain ⟨f0,f1,f2⟩:=zas hcc.out
  by_cases hlt:k<M
  ·have t1:decide ((k:Int)<(M:Int))=true:=zsD (by omega);obtain ⟨ham1,ham2,ham3⟩:=HBD.out;obtain ⟨hk1,hk2⟩:=hkk.out
   have hst:wiL a U (M-k) k d' b=if (zaS d' a U k).2.1=0 then wiL a U (M-(k+1)) (k+1) (zaS d' a U k).1 (b||(zaS d' a U k).2.2) else ((zaS d' a U k).1,(zaS d' a U k).2.1,b||(zaS d' a U k).2.2):=by
    rw [show M-k=(M-(k+1))+1 by omega];rfl
   rw [hP.out.2] at hst;obtain ⟨WS,hWS⟩:∃ x,x=zaS d' a U k:=⟨_,rfl⟩;rw [←hWS] at hst;have HST:=zh hst;unfold zaS at hWS;have KR:=zh (zcm B gr L d' ((a+k:Nat):Int) wr hP.out.1.1);have i1:((a+k:Nat):Int)=(a:Int)+k:=by omega
   have hl2:wrap64 ((a:Int)+k)=(a:Int)+k:=by unfold wrap64;omega
   by_cases hr:d'.refuses ((a+k:Nat):Int)=0
   rotate_left
   ·rw [if_pos hr] at hWS;obtain ⟨Z,hZ⟩:∃ Z,Z=d'.refuses ((a+k:Nat):Int):=⟨_,rfl⟩;rw [←hZ,i1] at KR;rw [←hZ] at hWS hr;subst hWS;have hst:=HST.out;rw [if_neg hr] at hst
    have hX:X=(d',Z):=by
     have:=HX.out
     rw [hst] at this;rw [this,if_pos (.inl hr)]
    have HP1:=zh hP.out.1;have t2:(Z==0)=false:=zcG hr;have t3:(Z != 0)=true:=by unfold bne;rw [t2];rfl
    obtain ⟨RS,hRS⟩:∃ s,s=txt (d'.readS ((a:Int)+k)):=⟨_,rfl⟩;rw [←hRS] at KR;subst hX;clear hr hZ i1 hst HST HX hP hRS ham1 ham2 ham3 hk1 hk2;unfold ptr at *
    go_wp2_with (go_at_call 128;(with_reducible refine KR.out.mono ?_);rintro q w5 ⟨rfl,rfl⟩)
    go_ret;exact ⟨rfl,HP1.out⟩
   have e1:d'.readS ((a+k:Nat):Int)=d'.now (a+k):=by unfold St.readS;rw [if_pos hr,zsK]
   rw [if_neg (fun h=>h hr)] at hWS;rw [e1,hr,i1] at KR;have hn64:(d'.now (a+k)).length=64:=hP.out.1.1.1.now _;obtain ⟨st,hst2⟩:∃ st,st=U-k*64:=⟨_,rfl⟩;have hstI:max ((U:Int)-64*(k:Int)) (0:Int)=(st:Int):=by omega
   have hst63:st≤63:=by omega
   have hl3:wrap64 (64*(k:Int))=64*(k:Int):=by unfold wrap64;omega
   have hl4:wrap64 ((U:Int)-64*(k:Int))=(U:Int)-64*(k:Int):=by unfold wrap64;omega
   have hkb:k≤4096:=by omega
   rw [←hst2] at hWS;obtain ⟨nw,hnw⟩:∃ nw,nw=d'.now (a+k):=⟨_,rfl⟩;rw [←hnw] at hWS KR hn64;have KW:=zh (fun (W:World) (hW:Rf W B gr L d')=>zco B gr L d' ((a+k:Nat):Int) (nw.take st) W hW);rw [i1] at KW hWS;have hx1:=zjM nw st (by omega);have hx2:=zeQ nw st;rw [hn64] at hx1;have hs:(txt nw).size=64:=by rw [zah];exact hn64
   obtain ⟨S,hS⟩:∃ S,S=txt nw:=⟨_,rfl⟩;rw [←hS] at KR hx1 hx2 hs;have hdl:(nw.drop st).length=64-st:=by rw [zs4,hn64]
   have KZ:=zh (fun (W:World)=>zkA (nw.drop st) W (by rw [hdl];omega));rw [hdl] at KZ;rw [←hx1] at KZ;rw [←hx2] at KW;have hxs:S.extract st S.size=S.extract st 64:=by rw [hs]
   have q3:(st:Int)≤(S.size:Int):=by rw [hs];omega
   have q1:(st:Int)≤64:=by omega
   obtain ⟨D,hD⟩:∃ D,D=d'.write ((a:Int)+k) (nw.take st):=⟨_,rfl⟩;rw [←hD] at KW hWS;have HRW:=zh hP.out.1;obtain ⟨zb,hzb⟩:∃ z,z=decide (nw.drop st=List.replicate (64-st) 0):=⟨_,rfl⟩;rw [←hzb] at KZ
   have HWS:Hid (WS=if zb=true then (d',0,false) else (D.1,D.2,true)):=by
    show _=_;rw [hWS,hzb]
    by_cases hq:nw.drop st=List.replicate (64-st) 0
    ·rw [if_pos hq,zsD hq,if_pos rfl]
    ·rw [if_neg hq,zsC hq,if_neg (by decide)]
   have HLB:Hid (w.heap.size<wr.heap.size):=(zgx hcc.out);have HK:=zh hk2;clear hWS hzb hD hx1 hx2 hS hnw hst2 e1 hr i1 hP ham1 ham2 ham3 hk1 hk2 hn64 hdl hst;unfold ptr at *
   go_upto_region 12 with (go_at_call 128;(with_reducible refine KR.out.mono ?_);rintro q w5 ⟨rfl,rfl⟩)
   have hx0:S.extract 0 st=S.extract 0 st:=rfl
   cases zb with
   | true =>
     have hst:=HST.out;have hW2:WS=(d',0,false):=by rw [HWS.out];rfl
     rw [hW2,if_pos rfl,Bool.or_false] at hst;have HST2:=zh hst;clear hst HST HWS KW hW2
     go_wp2_with (go_at_call 132;(with_reducible refine (KZ.out _).mono ?_);rintro q w6 ⟨rfl,b6⟩)
     go_roundw
     case rel=>exact ⟨k+1,d',b,by go_num,rfl,(by have:=HK.out;have:=hkk.out;exact ⟨by omega,by omega⟩),⟨⟨HRW.out.1.below b6,HRW.out.2.trans (zau.of_below b6)⟩,HST2.out.symm⟩,(b6.block _ HLB.out).trans hcc.out⟩
     case measure=>have:=HK.out;simp [Go.RowKit.intOf];omega
   | false =>
     have hst:=HST.out;have hW2:WS=(D.1,D.2,true):=by rw [HWS.out];rfl
     rw [hW2,ztg] at hst;have HST2:Hid (T=if D.2=0 then wiL a U (M-(k+1)) (k+1) D.1 true else (D.1,D.2,true)):=hst.symm▸rfl;clear hst HST HWS hW2
     go_upto_region 13 with (go_at_call 132;(with_reducible refine (KZ.out _).mono ?_);rintro q w6 ⟨rfl,b6⟩)
     have HB6:=zh b6;have KW6:=zh (KW.out w6.drew ((HRW.out.1.below b6).below (Below.refl _ w6).drew));have hc6:Hid (w6.heap[w.heap.size]?=some (.cells (rgc a M v) 107 (0,0))):=(b6.block _ HLB.out).trans hcc.out;obtain ⟨g0,g1,g2⟩:=zas hc6.out;have g0d:w6.drew.cell? ⟨w.heap.size,0,none⟩=some (.int .i64 a):=g0;have hw2:IntKind.i64.wrap ((a:Int)+k)=(a:Int)+k:=IntWalk.i64_in _ (by have:=HBD.out;omega);obtain ⟨TT,hTT⟩:∃ x,x=S.extract 0 st:=⟨_,rfl⟩;rw [←hTT] at KW6;have hx0:S.extract 0 st=TT:=hTT.symm;clear b6 KW hTT f0 f1 f2 hl2 hl3 hl4 hstI
     go_upto_region 14 with fail
     go_region_law (go_simp;go_at_call 70;(with_reducible refine KW6.out.mono ?_);rintro q w7 ⟨rfl,hM7⟩)
     all_goals
      have HM7:Hid (zaA B gr L D.1 w w7):=⟨hM7.1,HRW.out.2.trans ((zau.of_below HB6.out).trans ((zau.of_below (Below.refl _ w6).drew).trans hM7.2))⟩;have HC7:Hid (w7.heap[w.heap.size]?=some (.cells (rgc a M v) 107 (0,0))):=(hM7.2.block _ (zs8 HLB.out HB6.out.size) (fun hm=>Nat.lt_irrefl _ (HLT.out _ hm))).trans hc6.out;obtain ⟨z,hz⟩:∃ z,z=D.2:=⟨_,rfl⟩;rw [←hz] at HST2 ⊢;clear hM7 KW6 g0 g1 g2 g0d hw2 hx0
      by_cases hz0:z=0
      ·have hst:=HST2.out;rw [if_pos hz0] at hst;have HST3:=zh hst;subst hz0;clear hst HST2 hz;go_wp2
       go_roundw
       case rel=>exact ⟨k+1,D.1,true,by go_num,rfl,(by have:=HK.out;have:=hkk.out;exact ⟨by omega,by omega⟩),⟨HM7.out,HST3.out.symm⟩,HC7⟩
       case measure=>have:=HK.out;simp [Go.RowKit.intOf];omega
      ·have hst:=HST2.out;rw [if_neg hz0] at hst
       have hX:X=(D.1,z):=by
        have:=HX.out
        rw [hst] at this;rw [this,if_pos (.inl hz0)]
       have e1:(z==0)=false:=zcG hz0;have e2:(z != 0)=true:=by unfold bne;rw [e1];rfl
       subst hX;clear hst HST2 hz HX;go_wp2;go_ret;exact ⟨rfl,HM7.out⟩
  ·have t1:decide ((k:Int)<(M:Int))=false:=zsC (by omega);obtain ⟨h1,h2⟩:=hP.out;have hkM:k=M:=by have:=hkk.out;omega
   rw [hkM,Nat.sub_self] at h2;have hT:T=(d',0,b):=h2.symm;have H1:=zh h1;clear hkM h2
   cases b with
   | false =>
     have hX:X=(d',0):=by
      have:=HX.out
      rw [hT] at this;rw [this,if_pos (.inr rfl)]
     subst hX;clear h1 HX hP hT;go_wp2;go_ret;exact ⟨rfl,H1.out⟩
   | true =>
     have hX:X=d'.flush:=by
      have:=HX.out
      rw [hT] at this;rw [this,if_neg (by simp)]
     have KF:=zh (zcn B gr L d' wr h1.1);rw [←hX] at KF;clear h1 HX hP hT hX;unfold ptr at *
     go_wp2_with (go_at_call 53;(with_reducible refine KF.out.mono ?_);rintro q w8 ⟨rfl,hM8⟩)
     go_ret;exact ⟨rfl,hM8.1,H1.out.2.trans hM8.2⟩
end
end Go.Proofs.YtidndekacnmihaaGreat
