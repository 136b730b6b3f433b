/-
  WalPlays: WZf.
  Conditions: named in each theorem.
-/
import Derived.Test.YtnobeoppffoomaaGreatP39
import Derived.Test.YtnobeoppffoomaaGreatP33
import Derived.Test.YtnobeoppffoomaaGreatP0
set_option linter.unusedVariables false
set_option linter.unusedSimpArgs false
set_option maxHeartbeats 8000000
set_option maxRecDepth 100000
namespace Go.Proofs.YtnobeoppffoomaaGreat
open Go.RowKit
open Dk
theorem write_pad (d:St) (i:Int) (a b:List UInt8) (ha:a.length≤64) (hb:b.length≤64) (h:pad a=pad b):d.write i a=d.write i b:=by
 unfold St.write
 rw [h,if_neg (show ¬ 64<a.length by omega),if_neg (show ¬ 64<b.length by omega)]
theorem pad_zeros (l:List UInt8) (r k:Nat):pad (((l++List.replicate r 0).drop k).take 64)=pad ((l.drop k).take 64):=by
 unfold pad
 apply List.ext_getElem?
 intro i
 simp only [List.getElem?_append,List.length_take,List.length_drop,List.length_append,List.length_replicate,List.getElem?_take,List.getElem?_drop,List.getElem?_replicate]
 repeat' split
 all_goals first
  | rfl
  | omega
  | (exfalso;omega)
theorem wrL_pad (first:Nat) (l:List UInt8) (z:Nat):∀ (r k:Nat) (d:St),wrL first (l++List.replicate z 0) r k d=wrL first l r k d
 | 0,k,d=>rfl
 | r+1,k,d=>by
   have e:d.write ((first+k:Nat):Int) (((l++List.replicate z 0).drop (k*64)).take 64)=d.write ((first+k:Nat):Int) ((l.drop (k*64)).take 64) :=
    write_pad d _ _ _ (by rw [List.length_take];omega) (by rw [List.length_take];omega) (pad_zeros _ _ _)
   rw [wrL,wrL,e,wrL_pad first l z r (k+1)]
theorem filS_go {d:St} {a M:Nat} {v:Int} {es:List En} (hon:onB d.n a M v=true) (ho:rcO v (pO v) es=true) (hf:(rcS v (pS v) (pO v) es).size≤M*64) :
 filS d a M v es=wrL a (rcS v (pS v) (pO v) es).data.toList M 0 d:=by
 have hle:((rcS v (pS v) (pO v) es).size:Int)≤((M*64:Nat):Int)-(0:Nat):=by omega
 have hE:rgE v M 0 es=0:=by unfold rgE;rw [if_pos ho,if_pos hle]
 have hS:rgS v M 0 es=rcS v (pS v) (pO v) es:=by unfold rgS;rw [ho,decide_eq_true hle];rfl
 unfold filS
 rw [if_pos hon,hE,hS,if_neg (by simp)]
 obtain ⟨x,hx⟩:∃ x,x=rcS v (pS v) (pO v) es:=⟨_,rfl⟩
 rw [←hx] at hf ⊢
 have hl:(x.data.toList++List.replicate (M*64-x.size) (0:UInt8)).length=M*64:=by
  rw [List.length_append,List.length_replicate,Array.length_toList]
  show x.size+_=_
  omega
 unfold wrS
 rw [hl,show (M*64+63) / 64=M by omega,wrL_pad]
theorem filS_big {d:St} {a M:Nat} {v:Int} {es:List En} (hon:onB d.n a M v=true) (ho:rcO v (pO v) es=true) (hf:¬ (rcS v (pS v) (pO v) es).size≤M*64):filS d a M v es=(d,4):=by
 have hE:rgE v M 0 es=4:=by unfold rgE;rw [if_pos ho,if_neg (by omega)]
 unfold filS
 rw [if_pos hon,hE,if_pos (by decide)]
theorem filS_bad {d:St} {a M:Nat} {v:Int} {es:List En} (ho:rcO v (pO v) es=false):filS d a M v es=(d,1):=by
 have hE:rgE v M 0 es=1:=by unfold rgE;rw [ho];rfl
 unfold filS
 rw [hE]
 split
 ·exact if_pos (by decide)
 ·rfl
theorem ext_cut2 (b:ByteArray) (k:Nat):b.extract (min (64*k) b.size) (min (64*k+64) b.size)=txt ((b.data.toList.drop (k*64)).take 64):=by
 have hl:b.data.toList.length=b.size:=Array.length_toList
 apply ByteArray.ext
 apply Array.toList_inj.1
 rw [ByteArray.data_extract,Array.toList_extract,txt_list,List.extract_eq_take_drop]
 by_cases h:64*k≤b.size
 ·rw [show min (64*k) b.size=k*64 by omega,List.take_eq_take_iff,List.length_drop]
  omega
 ·rw [List.drop_eq_nil_of_le (by omega),List.drop_eq_nil_of_le (by omega)]
  simp
theorem rgfill_no (B gr:Nat) (L:List Nat) (d:St) (at_ m v:Int) (A:Option Addr) (n c:Nat) (es:List En) (w:World) (h:Rf w B gr L d) (ha:at_≤9223372036854775807)
 (hE:Ents w.heap.size A n es w) (hn:n≤64) (ok:∀ e∈es,e.Ok) (hno:onI d.n at_ m v=false∨rcO v (pO v) es=false) :
 Calls Tryz.prog 51 #[ptr gr,RG at_ m v,.slice A n c] w fun e w'=>e=.returned (.int .i64 1)∧Below w.heap.size w w':=by
 obtain ⟨W,hW⟩:∃ W,W=w.alloc (.cells (rgc at_ m v) 112):=⟨_,rfl⟩
 have hB:Below w.heap.size w W:=by rw [hW];exact (Below.refl _ w).alloc (Nat.le_refl _) _
 have hc:W.heap[w.heap.size]?=some (.cells (rgc at_ m v) 112 (0,0)):=by rw [hW];exact heap_alloc_new w _
 have K1:=zh (rgright_any B gr L d at_ m v W (h.below hB) ha)
 have HE:=zh ((hE.below hB).mr hB.size)
 have K2:=zh (fun (W:World) (hW:Ents W.heap.size A n es W)=>rrecords_any v (pS v) (pO v) A n c es W hW hn (fun e _=>Nat.le_trans (pS_le v e) (by omega)) (rputs_in v es ok))
 have HB:=zh hB
 have HW:=zh hW
 have HC:=zh hc
 obtain ⟨x,hx⟩:∃ x,x=rcS v (pS v) (pO v) es:=⟨_,rfl⟩
 obtain ⟨o,ho⟩:∃ o,o=rcO v (pO v) es:=⟨_,rfl⟩
 obtain ⟨on,hon⟩:∃ b,b=onI d.n at_ m v:=⟨_,rfl⟩
 rw [←hx,←ho] at K2
 rw [←ho,←hon] at hno
 rw [←hon] at K1
 obtain ⟨c0,c1,c2⟩:=rgc_cellsD hc
 have hoo:on=false∨(on=true∧o=false):=by
  cases on
  ·exact .inl rfl
  ·exact .inr ⟨rfl,by rcases hno with h|h;cases h;exact h⟩
 clear hB hc hW h hE ok hx ho hon hno
 unfold ptr at *
 rcases hoo with rfl|⟨rfl,rfl⟩
 all_goals
  go_enter Tryz.func51,Tryz.ntmps51
  go_upto_region 1 with fail
  refine wp_at (w:=W) HW.out.symm ?_
  go_upto_region 2 with (go_at_call 95;(with_reducible refine K1.out.mono ?_);rintro q w1 ⟨rfl,b1⟩)
  have HB1:Hid (Below w.heap.size w w1):=HB.out.trans (b1.mono HB.out.size)
  have HE1:=zh ((HE.out.below b1).mr b1.size)
  obtain ⟨e0,e1,e2⟩:=rgc_cellsD ((b1.block _ (zgx HC.out)).trans HC.out)
  clear b1 c0 c1 c2
  go_upto_region 3 with (go_at_call 13;(with_reducible refine (K2.out _ HE1.out).mono ?_);rintro q w2 ⟨rfl,b2⟩)
  have HB2:Hid (Below w.heap.size w w2):=HB1.out.trans (b2.mono HB1.out.size)
  clear b2 e0 e1 e2
  go_wp2
  go_ret
  exact ⟨rfl,HB2.out⟩
theorem rgfill_go (B gr:Nat) (L:List Nat) (d:St) (a M:Nat) (v:Int) (A:Option Addr) (n c:Nat) (es:List En) (w:World) (h:Rf w B gr L d)
 (hE:Ents w.heap.size A n es w) (hn:n≤64) (ok:∀ e∈es,e.Ok) (hon:onB d.n a M v=true) (hO:rcO v (pO v) es=true) :
 Calls Tryz.prog 51 #[ptr gr,RG a M v,.slice A n c] w fun e w'=>e=.returned (.int .i64 (filS d a M v es).2)∧RMoves B gr L (filS d a M v es).1 w w':=by
 have n2:=h.1.n2
 obtain ⟨hm1,hn1,hv⟩:=onB_in n2 hon
 obtain ⟨W,hW⟩:∃ W,W=w.alloc (.cells (rgc a M v) 112):=⟨_,rfl⟩
 have hB:Below w.heap.size w W:=by rw [hW];exact (Below.refl _ w).alloc (Nat.le_refl _) _
 have hc:W.heap[w.heap.size]?=some (.cells (rgc a M v) 112 (0,0)):=by rw [hW];exact heap_alloc_new w _
 have K1:=zh (rgright_any B gr L d a M v W (h.below hB) (by omega))
 rw [onI_of hon hn1] at K1
 have HE:=zh ((hE.below hB).mr hB.size)
 have K2:=zh (fun (W:World) (hW:Ents W.heap.size A n es W)=>rrecords_any v (pS v) (pO v) A n c es W hW hn (fun e _=>Nat.le_trans (pS_le v e) (by omega)) (rputs_in v es ok))
 rw [hO] at K2
 have hsz:(rcS v (pS v) (pO v) es).size≤134217728:=by
  have h1:(rcS v (pS v) (pO v) es).size≤es.length*1048663:=by
   unfold rcS
   split
   ·exact rcA_le v (pS v) 1048600 es fun e _=>pS_le v e
   ·exact Nat.zero_le _
  rw [hE.len] at h1
  omega
 have HG0:Hid ((rcS v (pS v) (pO v) es).size≤M*64→filS d a M v es=wrL a (rcS v (pS v) (pO v) es).data.toList M 0 d):=fun h1=>filS_go hon hO h1
 have HG1:Hid (¬ (rcS v (pS v) (pO v) es).size≤M*64→filS d a M v es=(d,4)):=fun h1=>filS_big hon hO h1
 have HM0:Hid (∀ W',Below w.heap.size w W'→RMoves B gr L d w W'):=fun W' hb=>⟨h.below hb,Keep.of_below hb⟩
 have HLT:=zh h.lt
 have HB:=zh hB
 have HW:=zh hW
 have HC:=zh hc
 have HR:=zh (h.below hB)
 obtain ⟨X,hX⟩:∃ X,X=filS d a M v es:=⟨_,rfl⟩
 rw [←hX] at HG0 HG1 ⊢
 obtain ⟨b,hb⟩:∃ b,b=rcS v (pS v) (pO v) es:=⟨_,rfl⟩
 rw [←hb] at K2 HG0 HG1 hsz
 obtain ⟨c0,c1,c2⟩:=rgc_cellsD hc
 have hw:wrap64 (64*(M:Int))=64*(M:Int):=by unfold wrap64;omega
 have HBD:Hid (a≤4096∧M≤4096∧b.size≤134217728):=⟨by omega,by omega,hsz⟩
 have hng:(¬ b.size≤M*64∧64*(M:Int)<(b.size:Int))∨(b.size≤M*64∧¬ 64*(M:Int)<(b.size:Int)):=by omega
 clear hB hc hW h hE ok hb hX hon hO hv hn1 n2 hm1 hsz
 unfold ptr at *
 go_enter Tryz.func51,Tryz.ntmps51
 go_upto_region 1 with fail
 refine wp_at (w:=W) HW.out.symm ?_
 go_upto_region 2 with (go_at_call 95;(with_reducible refine K1.out.mono ?_);rintro q w1 ⟨rfl,b1⟩)
 have HB1:Hid (Below w.heap.size w w1):=HB.out.trans (b1.mono HB.out.size)
 have HE1:=zh ((HE.out.below b1).mr b1.size)
 have HC1:Hid (w1.heap[w.heap.size]?=some (.cells (rgc a M v) 112 (0,0))):=(b1.block _ (zgx HC.out)).trans HC.out
 obtain ⟨e0,e1,e2⟩:=rgc_cellsD HC1.out
 have HR1:=zh (HR.out.below b1)
 clear b1 c0 c1 c2
 go_upto_region 3 with (go_at_call 13;(with_reducible refine (K2.out _ HE1.out).mono ?_);rintro q w2 ⟨rfl,b2⟩)
 have HB2:Hid (Below w.heap.size w w2):=HB1.out.trans (b2.mono HB1.out.size)
 have HC2:Hid (w2.heap[w.heap.size]?=some (.cells (rgc a M v) 112 (0,0))):=(b2.block _ (zgx HC1.out)).trans HC1.out
 obtain ⟨f0,f1,f2⟩:=rgc_cellsD HC2.out
 clear b2 e0 e1 e2 HB HB1 HC HC1 HR HR1 HE HE1 K1 K2 HW
 rcases hng with ⟨hf,hng⟩|⟨hf,hng⟩
 ·obtain rfl:X=(d,4):=HG1.out hf
  clear hf HG0 HG1
  go_wp2
  go_ret
  exact ⟨rfl,HM0.out _ HB2.out⟩
 have HX:=zh (HG0.out hf)
 clear HG0 HG1 hf
 go_upto_region 8 with fail
 clear hng hw f0 f1 f2
 go_loopw [10] (fun i wr=>∃ (k:Nat) (d':St),i=.int .i64 k∧k≤M∧Hid (RMoves B gr L d' w wr∧wrL a b.data.toList (M-k) k d'=X)∧Hid (wr.heap[w.heap.size]?=some (.cells (rgc a M v) 112 (0,0)))) (fun i _=>M-(Go.RowKit.intOf i).toNat)
 case atStart=>exact ⟨0,d,rfl,Nat.zero_le _,⟨HM0.out _ HB2.out,HX.out.symm⟩,HC2⟩
 case round =>
  obtain ⟨k,d',rfl,hk,hP,hcc⟩:=hrel
  obtain ⟨f0,f1,f2⟩:=rgc_cellsD hcc.out
  by_cases hlt:k<M
  ·have t1:decide ((k:Int)<(M:Int))=true:=decide_eq_true (by omega)
   obtain ⟨ham1,ham2,ham3⟩:=HBD.out
   have hst:wrL a b.data.toList (M-k) k d'=if (d'.write ((a+k:Nat):Int) ((b.data.toList.drop (k*64)).take 64)).2=0 then wrL a b.data.toList (M-(k+1)) (k+1) (d'.write ((a+k:Nat):Int) ((b.data.toList.drop (k*64)).take 64)).1 else d'.write ((a+k:Nat):Int) ((b.data.toList.drop (k*64)).take 64):=by
    rw [show M-k=(M-(k+1))+1 by omega]
    rfl
   rw [hP.out.2] at hst
   have HST:=zh hst
   have hx:=ext_cut2 b k
   have KW:=zh (rwrite_any B gr L d' ((a+k:Nat):Int) ((b.data.toList.drop (k*64)).take 64) wr.drew (hP.out.1.1.below (Below.refl _ wr).drew))
   rw [←hx] at KW
   rw [show ((a+k:Nat):Int)=(a:Int)+k by omega] at KW HST
   obtain ⟨DD,hDD⟩:∃ D,D=d'.write ((a:Int)+k) ((b.data.toList.drop (k*64)).take 64):=⟨_,rfl⟩
   rw [←hDD] at KW HST
   obtain ⟨p,hp⟩:∃ p,p=min (64*k) b.size:=⟨_,rfl⟩
   obtain ⟨r,hr⟩:∃ r,r=min (64*k+64) b.size:=⟨_,rfl⟩
   rw [←hp,←hr] at KW
   have hm1:min (64*(k:Int)) (b.size:Int)=(p:Int):=by omega
   have hm2:min (64*(k:Int)+64) (b.size:Int)=(r:Int):=by omega
   have hpr:(p:Int)≤(r:Int):=by omega
   have hrb:(r:Int)≤(b.size:Int):=by omega
   have hl2:IntKind.i64.wrap ((a:Int)+k)=(a:Int)+k:=IntWalk.i64_in _ (by omega)
   have hl3:IntKind.i64.wrap (64*(k:Int))=64*(k:Int):=IntWalk.i64_in _ (by omega)
   have hl4:IntKind.i64.wrap (64*(k:Int)+64)=64*(k:Int)+64:=IntWalk.i64_in _ (by omega)
   have g0:wr.drew.cell? ⟨w.heap.size,0,none⟩=some (.int .i64 a):=f0
   have HLB:Hid (w.heap.size<wr.heap.size):=(zgx hcc.out)
   clear hst hx hDD hp hr ham1 ham2 ham3
   unfold ptr at *
   go_upto_region 10 with fail
   go_region_law (go_simp;go_at_call 55;(with_reducible refine KW.out.mono ?_);rintro q w5 ⟨rfl,hM5⟩)
   all_goals
    have HM5:Hid (RMoves B gr L DD.1 w w5):=⟨hM5.1,hP.out.1.2.trans ((Keep.of_below (Below.refl _ wr).drew).trans hM5.2)⟩
    have HC5:Hid (w5.heap[w.heap.size]?=some (.cells (rgc a M v) 112 (0,0))):=(hM5.2.block _ HLB.out (fun hm=>Nat.lt_irrefl _ (HLT.out _ hm))).trans hcc.out
    obtain ⟨z,hz⟩:∃ z,z=DD.2:=⟨_,rfl⟩
    rw [←hz] at HST ⊢
    clear hM5 hP KW hm1 hm2 hpr hrb hl2 hl3 hl4 g0 f0 f1 f2 hcc
    have hMM:=HBD.out.2.1
    by_cases hz0:z=0
    ·have hst:=HST.out
     rw [if_pos hz0] at hst
     have HST2:=zh hst
     subst hz0
     clear hst HST hz
     go_wp2
     go_roundw
     case rel=>exact ⟨k+1,DD.1,by go_num,by omega,⟨HM5.out,HST2.out.symm⟩,HC5⟩
     case measure=>simp [Go.RowKit.intOf];omega
    ·have hst:=HST.out
     rw [if_neg hz0] at hst
     have hX:X=(DD.1,z):=by rw [hst,hz]
     have e1:(z==0)=false:=beqF hz0
     have e2:(z != 0)=true:=by unfold bne;rw [e1];rfl
     subst hX
     clear hst HST hz HX
     go_wp2
     go_ret
     exact ⟨rfl,HM5.out⟩
  ·have hkm:k=M:=by omega
   have t1:decide ((k:Int)<(M:Int))=false:=decide_eq_false (by omega)
   obtain ⟨h1,h2⟩:=hP.out
   rw [hkm,Nat.sub_self] at h2
   have hX:X=(d',0):=h2.symm
   have H1:=zh h1
   subst hX
   clear h1 h2 HX hP hkm hk
   go_wp2
   go_ret
   exact ⟨rfl,H1.out⟩
end Go.Proofs.YtnobeoppffoomaaGreat
