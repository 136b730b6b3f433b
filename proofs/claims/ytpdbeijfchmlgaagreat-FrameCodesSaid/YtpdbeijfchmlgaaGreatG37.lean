/-
  FrameCodes: part G37.
  Conditions: named in each theorem.
-/
import Derived.Deep.CutRange
import Derived.Test.YtpdbeijfchmlgaaGreatZ0
import Derived.Test.YtpdbeijfchmlgaaGreatG35
import Derived.Test.YtpdbeijfchmlgaaGreatG36
set_option linter.unusedVariables false
set_option linter.unusedSimpArgs false
set_option maxHeartbeats 16000000
set_option maxRecDepth 100000
namespace Go.Proofs.YtpdbeijfchmlgaaGreat.D
open Go.RowKit
open Vi
theorem heap_wrm (w:World) (g k:Nat) (E:Ms) (h:k≠g):(wrm w g E).heap[k]?=w.heap[k]?:=by
 have hs:∀ (w:World) (i:Nat) (u:Value),(w.setCell ⟨g,i,none⟩ u).heap[k]?=w.heap[k]?:=fun w i u=>Below.heap_setCell w _ _ k (by simp;omega);unfold wrm;rw [hs,hs,hs,hs,hs,hs,hs,hs,hs,hs,hs]
theorem gb_wrm {w0 w:World} {g r:Nat} (E:Ms) (h:w0.grownBy w (some g)) (hr:w0.heap.size≤r):w0.grownBy (wrm w r E) (some g) :=
 gb_set_b (gb_set_b (gb_set_b (gb_set_b (gb_set_b (gb_set_b (gb_set_b (gb_set_b (gb_set_b (gb_set_b (gb_set_b h hr) hr) hr) hr) hr) hr) hr) hr) hr) hr) hr
theorem set_mid (a b c:List Value) (j:Nat) (v:Value) (hj:j<b.length):(a++(b++c)).set (a.length+j) v=a++(b.set j v++c):=by
 rw [List.set_append_right _ _ (by omega),show a.length+j-a.length=j by omega,List.set_append_left _ _ hj]
theorem flat_mid (l1 l2:List En) (e:En):flat (l1++e :: l2)=flat l1++((ec e).toList++flat l2):=by
 unfold flat;rw [List.flatMap_append,List.flatMap_cons]
abbrev wst (w:World) (g o:Nat) (E:En):World:=(((((((((((w.setCell ⟨g,o,none⟩ (.int .u64 E.term)).setCell ⟨g,o+1,none⟩ (.int .u64 E.index)).setCell ⟨g,o+2,none⟩ (.int .i64 E.kind)).setCell ⟨g,o+3,none⟩ (.int .u64 E.client)).setCell ⟨g,o+4,none⟩ (.int .u64 E.seq)).setCell ⟨g,o+5,none⟩ (.int .u64 E.block)).setCell ⟨g,o+6,none⟩ (.int .u64 E.many)).setCell ⟨g,o+7,none⟩ (.int .i64 E.node)).setCell ⟨g,o+8,none⟩ (.int .i64 E.level)).setCell ⟨g,o+9,none⟩ (.string E.data)).setCell ⟨g,o+10,none⟩ (.string E.old))
theorem heap_wst (w:World) (g o k:Nat) (E:En) (h:k≠g):(wst w g o E).heap[k]?=w.heap[k]?:=by
 have hs:∀ (w:World) (i:Nat) (u:Value),(w.setCell ⟨g,i,none⟩ u).heap[k]?=w.heap[k]?:=fun w i u=>Below.heap_setCell w _ _ k (by simp;omega);unfold wst;rw [hs,hs,hs,hs,hs,hs,hs,hs,hs,hs,hs]
theorem set_row {w:World} {g:Nat} {X:List Value} (h:w.heap[g]?=some (.cells X.toArray 24 (0,0))) (i:Nat) (v:Value):(w.setCell ⟨g,i,none⟩ v).heap[g]?=some (.cells (X.set i v).toArray 24 (0,0)):=by
 have h2:=set_blk h i v;rw [List.setIfInBounds_toArray] at h2;exact h2
theorem row_wst {w:World} {g k:Nat} {l1 l2:List En} {e0:En} (E:En) (h:w.heap[g]?=some (.cells (flat (l1++e0 :: l2)).toArray 24 (0,0))) (hk:l1.length=k):(wst w g (k*11) E).heap[g]?=some (.cells (flat (l1++E :: l2)).toArray 24 (0,0)):=by
 have hl:(flat l1).length=k*11:=by rw [flat_length,hk]
 rw [flat_mid] at h ⊢
 have key:∀ (X:List Value),X.length=11→∀ (w:World),w.heap[g]?=some (.cells (flat l1++(X++flat l2)).toArray 24 (0,0))→∀ j,j<11→∀ v,(w.setCell ⟨g,k*11+j,none⟩ v).heap[g]?=some (.cells (flat l1++(X.set j v++flat l2)).toArray 24 (0,0)):=by
  intro X hX w h j hj v;have h2:=set_row h (k*11+j) v;rw [←hl,set_mid _ _ _ _ _ (by omega),hl] at h2;exact h2
 have h0:=key _ (by rfl) _ h 0 (by omega) (.int .u64 E.term);have h1:=key _ (by simp) _ h0 1 (by omega) (.int .u64 E.index);have h2:=key _ (by simp) _ h1 2 (by omega) (.int .i64 E.kind);have h3:=key _ (by simp) _ h2 3 (by omega) (.int .u64 E.client);have h4:=key _ (by simp) _ h3 4 (by omega) (.int .u64 E.seq);have h5:=key _ (by simp) _ h4 5 (by omega) (.int .u64 E.block);have h6:=key _ (by simp) _ h5 6 (by omega) (.int .u64 E.many);have h7:=key _ (by simp) _ h6 7 (by omega) (.int .i64 E.node);have h8:=key _ (by simp) _ h7 8 (by omega) (.int .i64 E.level);have h9:=key _ (by simp) _ h8 9 (by omega) (.string E.data);have h10:=key _ (by simp) _ h9 10 (by omega) (.string E.old);exact h10
theorem rep_snoc (n k:Nat) (h:k<n) (e:En):List.replicate (n-k) e=e :: List.replicate (n-(k+1)) e:=by
 rw [show n-k=(n-(k+1))+1 by omega,List.replicate_succ]
theorem emk (m:Nat) (W:World) (hm:m≤64):(Instr.makeSlice 27 (.int .u64 m) (.int .u64 m)).run Tryz.prog W=.ok (.slice (some ⟨W.heap.size,0,none⟩) m m) (W.alloc (.cells (flat (List.replicate m ezz)).toArray 24)):=by
 obtain ⟨i0,hi0,hz0,hz1,hz2⟩:=info_parts (show (Tryz.prog.info? 24).map (fun i=>(i.zero,i.size,i.bytes))=some (some (ev ezz),11,104) by kernel_rfl);have h1:=run_make (P:=Tryz.prog) W 27 24 i0 (ev ezz) Tryz.underlying27 hi0 hz0 .u64 .u64 m m (by omega) (by omega) (by rw [hz2];omega) (by omega)
 have e:madeCells (ev ezz).cells ((m:Int).toNat*i0.size)=(flat (List.replicate m ezz)).toArray:=by
  rw [hz1,Int.toNat_natCast];have hz:(ev ezz).cells=ec ezz:=rfl;rw [hz]
  apply Array.ext_getElem?
  intro i
  by_cases hi:i<m*11
  ·obtain ⟨q,r,hr,rfl⟩:∃ q r,r<11∧i=q*11+r:=⟨i / 11,i % 11,Nat.mod_lt _ (by omega),by omega⟩;have hq:q<m:=by omega
   have h2:=flat_get (List.replicate m ezz) q ezz (by rw [List.getElem?_replicate,if_pos hq]) r hr;have h3:(flat (List.replicate m ezz)).toArray[q*11+r]?=(ec ezz)[r]?:=by rw [List.getElem?_toArray];exact h2
   rw [h3];unfold madeCells;rw [Array.getElem?_map,Array.getElem?_range,if_pos hi]
   show some ((ec ezz)[(q*11+r) % 11]!)=(ec ezz)[r]?
   rw [show (q*11+r) % 11=r by omega];have h11:r=0∨r=1∨r=2∨r=3∨r=4∨r=5∨r=6∨r=7∨r=8∨r=9∨r=10:=by omega
   rcases h11 with rfl|rfl|rfl|rfl|rfl|rfl|rfl|rfl|rfl|rfl|rfl<;>rfl
  ·have h3:(flat (List.replicate m ezz)).toArray[i]?=none:=by rw [List.getElem?_toArray];exact List.getElem?_eq_none (by rw [flat_length,List.length_replicate];omega)
   rw [h3];exact Array.getElem?_eq_none (by rw [size_madeCells];omega)
 rw [e] at h1;exact h1
structure Te (w0:World) (g fb B:Nat) (L:List En) (T:ByteArray) (b:Bool) (w:World):Prop where
 hr:Rd 178 g T b w
 row:w.heap[B]?=some (.cells (flat L).toArray 24 (0,0))
 fr:w0.grownBy w (some g)
 fl:Flds fb w
 lg:g<w0.heap.size
 lb:w0.heap.size≤B
 sz:T.size≤140737488351232
 sn:Vi.Sane T b
section
variable {w0 w w1:World} {g fb B:Nat} {L L':List En} {T T':ByteArray} {b b':Bool}
theorem Te.lt (h:Te w0 g fb B L T b w):B<w.heap.size:=(zgx h.row)
theorem Te.step (h:Te w0 g fb B L T b w) (hx:Rd 178 g T' b' w1) (hf:w.grownBy w1 (some g)) (hs:Stab w w1) (hT:T'.size≤T.size) (hn:Vi.Sane T' b'):Te w0 g fb B L T' b' w1:=by
 have h1:=h.lg;have h2:=h.lb;exact ⟨hx,(hf.block _ h.lt (by simp;omega)).trans h.row,h.fr.trans hf,h.fl.on hs,h1,h2,Nat.le_trans hT h.sz,hn⟩
theorem Te.cell (h:Te w0 g fb B L T b w) (i:Nat):w.cell? ⟨B,i,none⟩=(flat L)[i]?:=by
 rw [zcr w B i _ 24 (0,0) h.row,List.getElem?_toArray]
theorem Te.fz (h:Te w0 g fb B L T b w) (i:Nat):w.frozen? ⟨B,i,none⟩=false:=Lib.frozen_of_heap h.row i
theorem stab_wst {w:World} {g o:Nat} (E:En) (hk:∃ cs,w.heap[g]?=some (.cells cs 24 (0,0))):Stab w (wst w g o E):=by
 intro k cs T h1 h2 h3 h4;obtain ⟨cs',hc⟩:=hk
 rw [heap_wst w g o k E (fun e=>by
  subst e;rw [hc] at h1
  injection h1 with h1
  injection h1 with _ h5
  exact tyno (T:=24) (.inl (by decide)) h2 h3 h4 h5)]
 exact h1
theorem gb_wst {o r:Nat} (E:En) (h:w0.grownBy w (some g)) (hr:w0.heap.size≤r):w0.grownBy (wst w r o E) (some g) :=
 gb_set_b (gb_set_b (gb_set_b (gb_set_b (gb_set_b (gb_set_b (gb_set_b (gb_set_b (gb_set_b (gb_set_b (gb_set_b h hr) hr) hr) hr) hr) hr) hr) hr) hr) hr) hr
theorem Te.store {l1 l2:List En} {e0:En} {k:Nat} (h:Te w0 g fb B (l1++e0 :: l2) T b w) (E:En) (hk:l1.length=k):Te w0 g fb B (l1++E :: l2) T b (wst w B (k*11) E):=by
 have h1:=h.lg;have h2:=h.lb;exact ⟨(heap_wst w B _ g E (by omega)).trans h.hr,row_wst E h.row hk,gb_wst E h.fr h2,h.fl.on (stab_wst E ⟨_,h.row⟩),h1,h2,h.sz,h.sn⟩
end
theorem ents_row {w:World} {B n:Nat} {L:List En} (h:w.heap[B]?=some (.cells (flat L).toArray 24 (0,0))) (hl:L.length=n):Ents w.heap.size (some ⟨B,0,none⟩) n L w :=
 ⟨hl,fun i e he=>⟨⟨B,0,none⟩,rfl,(zgx h),fun j hj=>by
  have e2:(Addr.add (Addr.add ⟨B,0,none⟩ (i*11)) j)=⟨B,i*11+j,none⟩:=by
   simp only [Addr.add]
   by_cases h1:i*11=0<;>by_cases h2:j=0<;>simp [h1,h2]
  rw [e2,zcr w B _ _ 24 (0,0) h,List.getElem?_toArray];exact flat_get L i e he j hj⟩⟩
theorem lst_next (n k:Nat) (s:ByteArray) (hk:k<n):lE k s++List.replicate (n-k) ezz=lE k s++ezz :: List.replicate (n-(k+1)) ezz∧lE k s++gE (lT k s) false :: List.replicate (n-(k+1)) ezz=lE (k+1) s++List.replicate (n-(k+1)) ezz:=by
 refine ⟨by rw [rep_snoc n k hk],?_⟩;rw [lE_snoc,List.append_assoc];rfl
theorem readE_any (g:Nat) (T:ByteArray) (r:Nat) (w:World) (hr:w.cell? ⟨r,0,none⟩=some (.pointer (some ⟨g,0,none⟩))) (hrg:r≠g) (h:Rd 178 g T false w) (hm:T.size≤140737488351232) :
 Calls Tryz.prog 186 #[.pointer (some ⟨r,0,none⟩)] w (RdE g T w):=by
 have hrl:r<w.heap.size:=by
  rcases Nat.lt_or_ge r w.heap.size with h2|h2
  ·exact h2
  ·rw [World.cell?,Array.getElem?_eq_none h2] at hr
   cases hr
 have HC:Hid (∀ W,w.grownBy W (some g)→W.cell? ⟨r,0,none⟩=some (.pointer (some ⟨g,0,none⟩))):=fun W hW=>(cell_blk (a:=⟨r,0,none⟩) (hW.block r hrl (by simp;omega))).trans hr
 have K98:Hid (Calls Tryz.prog 158 #[.pointer (some ⟨g,0,none⟩)] w fun e w'=>e=.returned (.int .u64 (varV T))∧Rd 178 g (varT T) (!varO T) w'∧w.grownBy w' (some g)):=by
  have h2:=var_any g T false w h (by omega);unfold rdp at h2;rw [Bool.false_or] at h2;exact h2
 have hsn:=Vi.sane_var T false (fun e=>by cases e);rw [Bool.false_or] at hsn;have hsz:=varT_size T;have hlt:=h.lt
 have HD:Hid ((64<varV T→rdE T=[]∧rdT T=⟨#[]⟩∧rdO T=false)∧(¬ 64<varV T→rdE T=lE (varV T) (varT T)∧rdT T=lT (varV T) (varT T)∧rdO T=(varO T&&lO (varV T) (varT T)))):=by
  unfold rdE rdT rdO;exact ⟨fun h=>⟨if_pos h,if_pos h,if_pos h⟩,fun h=>⟨if_neg h,if_neg h,if_neg h⟩⟩
 unfold RdE;obtain ⟨RE,hRE⟩:∃ RE,RE=rdE T:=⟨_,rfl⟩;obtain ⟨RT,hRT⟩:∃ RT,RT=rdT T:=⟨_,rfl⟩;obtain ⟨RO,hRO⟩:∃ RO,RO=rdO T:=⟨_,rfl⟩;obtain ⟨n,hn⟩:∃ n,n=varV T:=⟨_,rfl⟩;obtain ⟨s1,hs1⟩:∃ s1,s1=varT T:=⟨_,rfl⟩;obtain ⟨o,ho⟩:∃ o,o=varO T:=⟨_,rfl⟩;rw [←hRE,←hRT,←hRO] at HD ⊢;rw [←hn,←hs1,←ho] at HD K98;rw [←hs1,←ho] at hsn;rw [←hs1] at hsz;have HSN:=zh hsn;have HSZ:Hid (s1.size≤140737488351232):=by show _≤_;omega
 have HRL:=zh hrl;have HLT:=zh hlt;clear hr hrg h hm hsn hsz hlt hRE hRT hRO hn hs1 ho;have hc0:=HC.out w (World.grownBy.refl w _)
 by_cases h64:64<n
 ·obtain ⟨d1,d2,d3⟩:=HD.out.1 h64;clear HD
  go_enter Tryz.func186,Tryz.ntmps186
  go_wp2_with fail
  refine K98.out.mono ?_;rintro e w1 ⟨rfl,R1,g1⟩;have hc1:=HC.out w1 g1;have HR1:=zh R1;have HG1:=zh g1;clear R1 g1
  go_wp2_with fail
  refine (fail_any g s1 (!o) w1 HR1.out).mono ?_;rintro e w2 ⟨rfl,R2,g2⟩;go_wp2;go_ret;exact ⟨none,0,by rw [d1];rfl,by rw [d1];exact ⟨rfl,fun i e he=>(by cases he)⟩,fun a ha=>(by cases ha),by rw [d2,d3];exact R2,HG1.out.trans g2⟩
 ·obtain ⟨d1,d2,d3⟩:=HD.out.2 h64;have hn64:n≤64:=by omega
  have HEQ:=zh (And.intro d1 (And.intro d2 d3));have hmk:=fun W=>emk n W hn64;clear HD d1 d2 d3;have K32:=zh (fun (W:World)=>fields_any2 W)
  go_enter Tryz.func186,Tryz.ntmps186
  go_wp2_with fail
  refine K98.out.mono ?_;rintro e w1 ⟨rfl,R1,g1⟩;have HR1:=zh R1;have HG1:=zh g1;clear R1 g1 hc0
  go_wp2_with fail
  refine (K32.out _).mono ?_;rintro e w2 ⟨fb,rfl,F2,b2⟩;obtain ⟨W3,hW3⟩:∃ W3,W3=w2.alloc (.cells (flat (List.replicate n ezz)).toArray 24):=⟨_,rfl⟩;have b3:Below w2.heap.size w2 W3:=by rw [hW3];exact zba
  have k3:W3.heap[w2.heap.size]?=some (.cells (flat (List.replicate n ezz)).toArray 24 (0,0)):=by rw [hW3];exact heap_alloc_new w2 _
  have b13:Below w1.heap.size w1 W3:=b2.trans (b3.mono b2.size)
  have T3:Te w g fb w2.heap.size (lE 0 s1++List.replicate (n-0) ezz) (lT 0 s1) (!(o&&lO 0 s1)) W3:=by
   refine ⟨?_,k3,gb_below_b HG1.out b13,F2.on (Stab.below b3),HLT.out,Nat.le_trans HG1.out.size b2.size,HSZ.out,?_⟩
   ·have h2:=HR1.out.below b13 HR1.out.lt;rw [show lO 0 s1=true from rfl,Bool.and_true];exact h2
   ·rw [show lO 0 s1=true from rfl,Bool.and_true];exact HSN.out
  obtain ⟨B,hB⟩:∃ B,B=w2.heap.size:=⟨_,rfl⟩;rw [←hB] at T3;have HB:Hid (w.heap.size≤B):=by show _≤_;rw [hB];exact Nat.le_trans HG1.out.size b2.size
  have HT3:=zh T3;have HW3:=zh hW3;have HBB:=zh hB;clear b3 k3 b13 T3 F2 b2 hW3 hB
  go_wp2_with fail
  rw [←HW3.out]
  try rw [←HBB.out]
  clear HW3 hmk
  go_loopw [17] (fun i wr=>∃ k:Nat,k≤n∧i=.int .i64 k∧Te w g fb B (lE k s1++List.replicate (n-k) ezz) (lT k s1) (!(o&&lO k s1)) wr) (fun i _=>n-(intOf i).toNat)
  case atStart=>exact ⟨0,Nat.zero_le _,rfl,HT3.out⟩
  case round =>
   obtain ⟨k,hk,rfl,hr⟩:=hrel;clear HT3;have hcr:=HC.out wr hr.fr
   by_cases hlt:k<n
   ·have K37:Hid (Calls Tryz.prog 88 #[.slice (some ⟨fb,0,none⟩) 12 12,.pointer (some ⟨g,0,none⟩)] wr fun e w'=>e=.returned (ev (gE (lT k s1) false))∧Te w g fb B (lE k s1++List.replicate (n-k) ezz) (lT (k+1) s1) (!(o&&lO (k+1) s1)) w'):=by
     have hz:=hr.sz;refine (getEntry_any fb g (lT k s1) _ wr hr.fl hr.hr (by omega)).mono ?_;rintro e w' ⟨h1,h2,h3,h4,_,_⟩;obtain ⟨q1,q2,q3⟩:=gE_any (lT k s1) _ hr.sn;rw [q1] at h1;rw [q2,q3,Bool.not_not,←lT_snoc,Bool.and_assoc,←lO_snoc] at h2;refine ⟨h1,hr.step h2 h3 h4 (by rw [lT_snoc];exact gT_le _ _) ?_⟩;intro hb;rw [Bool.not_eq_true'] at hb;have hb2:=hb
     cases ho:o with
     | true=>rw [ho,Bool.true_and] at hb2;exact lT_no _ _ hb2
     | false =>
       have e1:s1=⟨#[]⟩:=HSN.out (by rw [ho];rfl);have hz2:=lT_le (k+1) s1;rw [e1] at hz2 ⊢;exact (size0 _).1 (Nat.le_zero.1 hz2)
    obtain ⟨L1,L2⟩:=lst_next n k s1 hlt;obtain ⟨E,hE⟩:∃ E,E=gE (lT k s1) false:=⟨_,rfl⟩;rw [←hE] at K37 L2;rw [L1] at K37;have HL2:=zh L2;clear hr hE L1 L2
    go_wp2_with fail
    refine K37.out.mono ?_;rintro e w3 ⟨rfl,h3⟩
    have HS:Hid (Te w g fb B (lE (k+1) s1++List.replicate (n-(k+1)) ezz) (lT (k+1) s1) (!(o&&lO (k+1) s1)) (wst w3 B (k*11) E)):=by
     show Te _ _ _ _ _ _ _ _
     rw [←HL2.out];exact h3.store E (lE_length k s1)
    have hrow:∀ j,j<11→w3.cell? ⟨B,k*11+j,none⟩=(ec ezz)[j]?:=fun j hj=>by
     rw [h3.cell];exact flat_get _ k ezz (by rw [List.getElem?_append_right (by rw [lE_length];omega),lE_length,Nat.sub_self];rfl) j hj
    have c0:w3.cell? ⟨B,k*11,none⟩=some (.int .u64 0):=hrow 0 (by omega);have c1:w3.cell? ⟨B,k*11+1,none⟩=some (.int .u64 0):=hrow 1 (by omega);have c2:w3.cell? ⟨B,k*11+2,none⟩=some (.int .i64 0):=hrow 2 (by omega);have c3:w3.cell? ⟨B,k*11+3,none⟩=some (.int .u64 0):=hrow 3 (by omega);have c4:w3.cell? ⟨B,k*11+4,none⟩=some (.int .u64 0):=hrow 4 (by omega);have c5:w3.cell? ⟨B,k*11+5,none⟩=some (.int .u64 0):=hrow 5 (by omega);have c6:w3.cell? ⟨B,k*11+6,none⟩=some (.int .u64 0):=hrow 6 (by omega);have c7:w3.cell? ⟨B,k*11+7,none⟩=some (.int .i64 0):=hrow 7 (by omega);have c8:w3.cell? ⟨B,k*11+8,none⟩=some (.int .i64 0):=hrow 8 (by omega);have c9:w3.cell? ⟨B,k*11+9,none⟩=some (.string ⟨#[]⟩):=hrow 9 (by omega);have c10:w3.cell? ⟨B,k*11+10,none⟩=some (.string ⟨#[]⟩):=hrow 10 (by omega);have fz:∀ i,w3.frozen? ⟨B,i,none⟩=false:=fun i=>h3.fz i;clear hrow h3 K37 HL2;go_wp2
    go_roundw
    case rel=>exact ⟨k+1,by omega,by go_num,HS.out⟩
    case measure=>simp [intOf];omega
   ·have hkn:k=n:=by omega
    subst hkn;rw [Nat.sub_self,List.replicate_zero,List.append_nil] at hr;obtain ⟨q1,q2,q3⟩:=HEQ.out;go_wp2;go_ret;exact ⟨some ⟨B,0,none⟩,k,by rw [q1,lE_length];rfl,by rw [q1,lE_length];exact ents_row hr.row (lE_length _ _),fun a ha=>(by cases ha;exact HB.out),by rw [q2,q3];exact hr.hr,hr.fr⟩
end Go.Proofs.YtpdbeijfchmlgaaGreat.D
