/-
  FrameCodes: part G45.
  Conditions: named in each theorem.
-/
import Derived.Test.YtpdbeijfchmlgaaGreatZ0
import Derived.Test.YtpdbeijfchmlgaaGreatG17
import Derived.Test.YtpdbeijfchmlgaaGreatG18
import Derived.Test.YtpdbeijfchmlgaaGreatG19
import Derived.Test.YtpdbeijfchmlgaaGreatG20
import Derived.Test.YtpdbeijfchmlgaaGreatG28
import Derived.Test.YtpdbeijfchmlgaaGreatG35
import Derived.Test.YtpdbeijfchmlgaaGreatG39
import Derived.Test.YtpdbeijfchmlgaaGreatG50
import Derived.Test.YtpdbeijfchmlgaaGreatG40
import Derived.Test.YtpdbeijfchmlgaaGreatG41
import Derived.Test.YtpdbeijfchmlgaaGreatG42
import Derived.Test.YtpdbeijfchmlgaaGreatG44
set_option linter.unusedVariables false
set_option linter.unusedSimpArgs false
set_option maxHeartbeats 16000000
set_option maxRecDepth 100000
namespace Go.Proofs.YtpdbeijfchmlgaaGreat
open Go.RowKit
theorem heap_wrm (W:World) (g k:Nat) (M:Ms) (h:k≠g):(wrm W g M).heap[k]?=W.heap[k]?:=by
 have hs:∀ (w:World) (i:Nat) (u:Value),(w.setCell ⟨g,i,none⟩ u).heap[k]?=w.heap[k]?:=fun w i u=>Below.heap_setCell w _ _ k (by simp;omega);unfold wrm;rw [hs,hs,hs,hs,hs,hs,hs,hs,hs,hs,hs]
end Go.Proofs.YtpdbeijfchmlgaaGreat
namespace Go.Proofs.YtpdbeijfchmlgaaGreat
open Go.RowKit
open Vi
theorem ents_off {w:World} {g B n:Nat} {A:Option Addr} {es:List En} {m:Ms} (h:Ents B A n es w) (hg:w.heap[g]?=some (.cells (mc m) 29 (0,0))) {i:Nat} {e:En} (he:es[i]?=some e):∀ a,A=some a→a.block≠g:=by
 intro a hA hb;obtain ⟨a',h1,h2,h3⟩:=h.at_ i e he;rw [hA] at h1
 injection h1 with h1
 subst h1;have p0:=h3 0 (by omega);have p10:=h3 10 (by omega)
 have key:∀ b:Addr,b.block=g→w.cell? b=if b.spot.isSome then none else (mc m)[b.off]?:=by
  intro b hb2;unfold World.cell?;rw [hb2,hg]
 rw [key _ (by rw [block_of_add,block_of_add];exact hb)] at p0 p10;have q0:(ec e)[0]?=some (.int .u64 e.term):=rfl;have q10:(ec e)[10]?=some (.string e.old):=rfl;rw [q0] at p0;rw [q10] at p10
 split at p0
 ·cases p0
 ·rename_i hs
  split at p10
  ·cases p10
  ·rename_i hs2
   have hoff:((((a.add (i*11)).add 10)).off:Nat)=((a.add (i*11)).add 0).off+10:=by
    unfold Addr.add at hs hs2 ⊢
    revert hs hs2
    cases a.spot<;>simp
   rw [hoff] at p10;obtain ⟨o,ho⟩:∃ o,o=((a.add (i*11)).add 0).off:=⟨_,rfl⟩;rw [←ho] at p0 p10
   have hlt:o+10<11:=by
    have:=(zgx p10)
    simpa using this
   have:o=0:=by omega
   subst this
   injection p0 with p0
   injection p0 with p0
   cases p0
theorem ents_wrm_off {w:World} {g B n:Nat} {A:Option Addr} {es:List En} {m:Ms} (M:Ms) (h:Ents B A n es w) (hg:w.heap[g]?=some (.cells (mc m) 29 (0,0))):Ents B A n es (wrm w g M) :=
 ⟨h.len,fun i e he=>by
  obtain ⟨a,h1,h2,h3⟩:=h.at_ i e he;refine ⟨a,h1,h2,fun j hj=>?_⟩;rw [←h3 j hj];exact World.cell?_of_block (heap_wrm5 w g _ M (by rw [block_of_add,block_of_add];exact ents_off h hg he a h1))⟩
theorem mask_of {m:Ms} (wd:m.Wide) (h:mrightB m=true):MAsk m:=by
 unfold mrightB at h;rw [Bool.and_eq_true] at h;exact (mask_iff m wd).1 h.1
theorem l5:hasL (mfl 5) 107=true:=by decide +kernel
theorem l6:hasL (mfl 6) 107=true:=by decide +kernel
end Go.Proofs.YtpdbeijfchmlgaaGreat
namespace Go.Proofs.YtpdbeijfchmlgaaGreat
open Go.RowKit
open Vi
theorem fGetE_any (s:ByteArray) (Y:En) (v:Int) (o:Bool) (w:World)
 (hK:∀ (g a1 a2:Nat) (W:World),W.heap[g]?=some (.map (two (whv a1) (whv a2)) 2)→W.heap[a1]?=some (.cells #[.func (.func 39) #[] #[]] 66 (0,0))→W.heap[a2]?=some (.cells #[.func (.func 40) #[] #[]] 66 (0,0)) →
   Calls Tryz.prog 37 #[.map (some g),.string s] W fun q w'=>q=.returned (.tuple #[ev Y,.int .i64 v,.bool o])∧Below W.heap.size W w') :
 Calls Tryz.prog 13 #[.string s] w fun q w'=>q=.returned (.tuple #[ev Y,.int .i64 v,.bool o])∧Below w.heap.size w w':=by
 have hmm:=@run_makeMap Tryz.prog;obtain ⟨W0,hW0⟩:∃ W0,W0=(w.alloc (Obj.cells (ec ezz) 24)).alloc (.map #[] 0):=⟨_,rfl⟩;have b0:Below w.heap.size w W0:=by rw [hW0];exact zba.alloc (by simp) _
 have k0:W0.heap[w.heap.size]?=some (.cells (ec ezz) 24 (0,0)):=by rw [hW0];exact (Lib.alloc_old _ _ _ (by simp)).trans (heap_alloc_new w _)
 have m0:W0.heap[w.heap.size+1]?=some (.map #[] 0):=by rw [hW0];have h:=heap_alloc_new (w.alloc (Obj.cells (ec ezz) 24)) (.map #[] 0);simpa using h
 have s0:W0.heap.size=w.heap.size+2:=by rw [hW0];simp
 obtain ⟨W1,hW1⟩:∃ W1,W1=W0.alloc (Obj.cells #[.func (.func 39) #[] #[]] 66):=⟨_,rfl⟩;have b1:Below w.heap.size w W1:=by rw [hW1];exact b0.alloc (by omega) _
 have m1:W1.heap[w.heap.size+1]?=some (.map #[] 0):=by rw [hW1];exact (Lib.alloc_old _ _ _ (by omega)).trans m0
 have a1:W1.heap[W0.heap.size]?=some (.cells #[.func (.func 39) #[] #[]] 66 (0,0)):=by rw [hW1];exact heap_alloc_new W0 _
 have k1:W1.heap[w.heap.size]?=some (.cells (ec ezz) 24 (0,0)):=by rw [hW1];exact (Lib.alloc_old _ _ _ (by omega)).trans k0
 have s1:W1.heap.size=w.heap.size+3:=by rw [hW1];simp;omega
 obtain ⟨w1,e1,h1,bb1,o1,z1⟩:=ins_step (T:=67) 1 (whv W0.heap.size) Tryz.underlying67 m1 rfl b1 (by omega);have ka1:w1.heap[W0.heap.size]?=some (.cells #[.func (.func 39) #[] #[]] 66 (0,0)):=(o1 _ (by omega)).trans a1;have kk1:w1.heap[w.heap.size]?=some (.cells (ec ezz) 24 (0,0)):=(o1 _ (by omega)).trans k1;obtain ⟨W2,hW2⟩:∃ W2,W2=w1.alloc (Obj.cells #[.func (.func 40) #[] #[]] 66):=⟨_,rfl⟩;have b2:Below w.heap.size w W2:=by rw [hW2];exact bb1.alloc (by omega) _
 have m2:=(by rw [hW2];exact (Lib.alloc_old _ _ _ (by omega)).trans h1:W2.heap[w.heap.size+1]?=some (.map (#[].push { key:=.int .i64 1,val:=whv W0.heap.size,born:=0 }) (0+1)));have a2:W2.heap[w1.heap.size]?=some (.cells #[.func (.func 40) #[] #[]] 66 (0,0)):=by rw [hW2];exact heap_alloc_new w1 _
 have aa1:W2.heap[W0.heap.size]?=some (.cells #[.func (.func 39) #[] #[]] 66 (0,0)):=by rw [hW2];exact (Lib.alloc_old _ _ _ (by omega)).trans ka1
 have k2:W2.heap[w.heap.size]?=some (.cells (ec ezz) 24 (0,0)):=by rw [hW2];exact (Lib.alloc_old _ _ _ (by omega)).trans kk1
 obtain ⟨w2,e2,h2,bb2,o2,z2⟩:=ins_step (T:=67) 2 (whv w1.heap.size) Tryz.underlying67 m2 rfl b2 (by omega);have HM:Hid (w2.heap[w.heap.size+1]?=some (.map (two (whv W0.heap.size) (whv w1.heap.size)) 2)):=h2;have HK2:Hid (w2.heap[w.heap.size]?=some (.cells (ec ezz) 24 (0,0))):=(o2 _ (by omega)).trans k2;have KG:=zh (hK _ _ _ w2 HM.out ((o2 _ (by omega)).trans aa1) ((o2 _ (by omega)).trans a2));have HB2:=zh bb2;have F1:Hid (Calls Tryz.prog 38 #[.func (.func 39) #[] #[]] W0 fun q w'=>q=.returned (whv W0.heap.size)∧w'=W1):=by rw [hW1];exact wholef1_any W0
 have F2:Hid (Calls Tryz.prog 38 #[.func (.func 40) #[] #[]] w1 fun q w'=>q=.returned (whv w1.heap.size)∧w'=W2):=by rw [hW2];exact wholef2_any w1
 have HW0:=zh hW0;clear hK b0 k0 m0 s0 b1 m1 a1 k1 s1 h1 bb1 o1 z1 ka1 kk1 b2 m2 a2 aa1 k2 h2 bb2 o2 z2 hW0 hW1 hW2
 go_enter Tryz.func13,Tryz.ntmps13
 go_wp2_with fail
 rw [←HW0.out];refine F1.out.mono ?_;rintro q u1 ⟨rfl,rfl⟩
 go_wp2_with fail
 refine F2.out.mono ?_;rintro q u2 ⟨rfl,rfl⟩
 go_wp2_with fail
 refine KG.out.mono ?_;rintro q w3 ⟨rfl,b3⟩;have HK3:Hid (w3.heap[w.heap.size]?=some (.cells (ec ezz) 24 (0,0))):=(b3.block _ (zgx HK2.out)).trans HK2.out;have HB3:Hid (Below w.heap.size w w3):=HB2.out.trans (b3.mono HB2.out.size);clear b3 e1 e2;obtain ⟨z0,z1,z2,z3,z4,z5,z6,z7,z8,z9,z10⟩:=zezl (w:=w3) (b:=w.heap.size) HK3.out;have fz:∀ i,w3.frozen? ⟨w.heap.size,i,none⟩=false:=fun i=>Lib.frozen_of_heap HK3.out i;obtain ⟨WF,hWF⟩:∃ WF,WF=wz w3 w.heap.size Y:=⟨_,rfl⟩;have hblk:WF.heap[w.heap.size]?=some (.cells (ec Y) 24 (0,0)):=by rw [hWF];exact store_all Y HK3.out
 have HBF:Hid (Below w.heap.size w WF):=by rw [hWF];exact below_all Y HB3.out (Nat.le_refl _)
 have HBK:=zh hblk;have HWF:=zh hWF;clear hblk hWF;go_wp2;have hWF:=HWF.out;unfold wz at hWF;rw [←hWF];obtain ⟨f0,f1,f2,f3,f4,f5,f6,f7,f8,f9,f10⟩:=zecl (w:=WF) (b:=w.heap.size) (e:=Y) HBK.out;exact bodyPost_ret (v:=.tuple #[ev Y,.int .i64 v,.bool o]) (by simp [results,Tryz.results13,go_sem,f0,f1,f2,f3,f4,f5,f6,f7,f8,f9,f10]) rfl ⟨rfl,HBF.out⟩
theorem fill_againm (E Z:Ms):((((((((((((mc Z).setIfInBounds 0 (.int .i64 E.kind)).setIfInBounds 1 (.int .i64 E.frm)).setIfInBounds 2 (.int .i64 E.dst)).setIfInBounds 3 (.int .u64 E.term)).setIfInBounds 4 (.int .u64 E.index)).setIfInBounds 5 (.int .u64 E.prev)).setIfInBounds 6 (.int .u64 E.commit)).setIfInBounds 7 (.int .u64 E.mark)).setIfInBounds 8 (.bool E.ok)).setIfInBounds 9 (.slice E.A E.n E.c)).setIfInBounds 10 (.string E.snap))=mc E:=by simp
theorem store_againm {wr:World} {g:Nat} {Z:Ms} (E:Ms) (h:wr.heap[g]?=some (.cells (mc Z) 29 (0,0))):(wrm wr g E).heap[g]?=some (.cells (mc E) 29 (0,0)):=by
 rw [←fill_againm E Z];exact set_blk (set_blk (set_blk (set_blk (set_blk (set_blk (set_blk (set_blk (set_blk (set_blk (set_blk h 0 _) 1 _) 2 _) 3 _) 4 _) 5 _) 6 _) 7 _) 8 _) 9 _) 10 _
end Go.Proofs.YtpdbeijfchmlgaaGreat
namespace Go.Proofs.YtpdbeijfchmlgaaGreat.D
open Go.RowKit
open Vi
theorem u_cases (s:ByteArray):(uO s=false∧uV s=0∧uB s=⟨#[]⟩)∨(uO s=true∧(uV s=1∨uV s=2)∧(uB s).size≤1048576):=by
 cases h:uO s with
 | false=>exact .inl ⟨rfl,by unfold uV;rw [h];rfl,by unfold uB;rw [h];rfl⟩
 | true =>
   have h1:nOk s=true:=by
    have h2:=h;unfold uO at h2;rw [Bool.and_eq_true] at h2;exact h2.1
   have hk:=(nOk_sound h1).1;obtain ⟨e1,e2,e3⟩:=nx_yes h1;refine .inr ⟨rfl,?_,?_⟩
   ·have hv:uV s=nV s:=by unfold uV;rw [if_pos h];exact e1
    rw [hv];unfold pkO at hk;simp only [Bool.and_eq_true,Bool.or_eq_true,decide_eq_true_eq] at hk;exact hk.1
   ·have hb:uB s=nBd s:=by unfold uB;rw [if_pos h];exact e2
    rw [hb];unfold pkO at hk;simp only [Bool.and_eq_true,Bool.or_eq_true,decide_eq_true_eq] at hk;exact hk.2
def aX (s:ByteArray):En:=if uV s=2 then gE (uB s) false else getE (uB s)
def aT (s:ByteArray):ByteArray:=if uV s=2 then gT (uB s) false else getT (uB s)
def aB (s:ByteArray):Bool:=if uV s=2 then !gO (uB s) false else !getO (uB s)
def aO (s:ByteArray):Bool:=rgO s (aB s) (aT s)
theorem first_get (g:Nat) (u:ByteArray) (w:World) (h:Rd 178 g u false w) (hm:u.size≤281474976710656) :
 Calls Tryz.prog 39 #[.pointer (some ⟨g,0,none⟩)] w fun q w'=>q=.returned (ev (getE u))∧Rd 178 g (getT u) (!getO u) w'∧w.grownBy w' (some g):=by
 have hg:=get_any g u false w h hm;have q1:getE' u false=getE u:=by unfold getE';rw [if_neg (by decide)]
 have q2:getT' u false=getT u:=by unfold getT';rw [if_neg (by decide)]
 rw [q1,q2,Bool.false_or] at hg;exact hg
theorem first_rget (g:Nat) (u:ByteArray) (w:World) (h:Rd 72 g u false w) (hm:u.size≤281474976710656) :
 Calls Tryz.prog 44 #[.pointer (some ⟨g,0,none⟩)] w fun q w'=>q=.returned (ev (getE u))∧Rd 72 g (getT u) (!getO u) w'∧w.grownBy w' (some g):=by
 have hg:=rget_any g u false w h (fun e=>by cases e) hm;rw [Bool.false_or] at hg;exact hg
theorem aGetE (s:ByteArray) (w:World) (hs:s.size≤140737488351232) :
 Calls Tryz.prog 13 #[.string s] w fun q w'=>q=.returned (.tuple #[ev (if aO s then aX s else ezz),.int .i64 (if aO s then uV s else 0),.bool (aO s)])∧Below w.heap.size w w':=by
 have hr:aO s=(uO s&&whO (aB s) (aT s)):=rfl
 rcases u_cases s with ⟨h1,h2,h3⟩|⟨h1,h2|h2,h3⟩
 ·rw [hr,h1,Bool.false_and];exact fGetE_any s ezz 0 false w fun g a1 a2 W _ _ _=>fgetE0_any s g W hs h1
 ·have hn:¬ uV s=2:=by omega
  have x1:aX s=getE (uB s):=if_neg hn;have x2:aT s=getT (uB s):=if_neg hn;have x3:aB s=!getO (uB s):=if_neg hn;rw [hr,h1,Bool.true_and,h2];refine fGetE_any s _ _ _ w fun g a1 a2 W hm k1 k2=>?_;have key:=fgetE1_any s g a1 a2 (aX s) (aT s) (aB s) W hm k1 hs h1 h2 (fun g' W' hR=>by rw [x1,x2,x3];exact first_get g' (uB s) W' hR (by omega));exact key
 ·have x1:aX s=gE (uB s) false:=if_pos h2;have x2:aT s=gT (uB s) false:=if_pos h2;have x3:aB s=!gO (uB s) false:=if_pos h2;rw [hr,h1,Bool.true_and,h2];refine fGetE_any s _ _ _ w fun g a1 a2 W hm k1 k2=>?_;have key:=fgetE2_any s g a1 a2 (aX s) (aT s) (aB s) W hm k2 hs h1 h2 (fun g' W' hR=>by rw [x1,x2,x3];exact getE_any g' (uB s) false W' hR (by omega));exact key
theorem aRGetE (s:ByteArray) (w:World) (hs:s.size≤140737488351232) :
 Calls Tryz.prog 14 #[.string s] w fun q w'=>q=.returned (.tuple #[ev (if aO s then aX s else ezz),.int .i64 (if aO s then uV s else 0),.bool (aO s)])∧Below w.heap.size w w':=by
 have hb:(uB s).size≤1048576:=by
  rcases u_cases s with ⟨h1,h2,h3⟩|⟨h1,h2,h3⟩
  ·rw [h3];decide
  ·exact h3
 by_cases h2:uV s=2
 ·have x1:aX s=gE (uB s) false:=if_pos h2;have x2:aT s=gT (uB s) false:=if_pos h2;have x3:aB s=!gO (uB s) false:=if_pos h2;have key:=rGetE2_any s (aX s) (aT s) (aB s) w hs h2 (fun g' W' hR=>by rw [x1,x2,x3];exact rgetE_any g' (uB s) false W' hR (by omega) (fun e=>by cases e) (eR_ok (uB s) false (by omega)));exact key
 ·have x1:aX s=getE (uB s):=if_neg h2;have x2:aT s=getT (uB s):=if_neg h2;have x3:aB s=!getO (uB s):=if_neg h2;have key:=rGetE1_any s (aX s) (aT s) (aB s) w hs h2 (fun g' W' hR=>by rw [x1,x2,x3];exact first_rget g' (uB s) W' hR (by omega));exact key
end Go.Proofs.YtpdbeijfchmlgaaGreat.D
namespace Go.Proofs.YtpdbeijfchmlgaaGreat
open Go.RowKit
open Vi
def GotP (o:Bool) (P:Ms→Prop) (M:Ms):Prop:=o=true→P M
def GotZ (o:Bool) (P:Ms→Prop) (M:Ms):Prop:=(o=true→P M)∧(o=false→M=mzz)
theorem rGetM1_any (s:ByteArray) (o1:Bool) (P1:Ms→Prop) (w:World) (hs:s.size≤140737488351232) (hv:uV s≠2) (hK1:∀ W,Calls Tryz.prog 48 #[.string (uB s)] W fun q w'=>∃ M:Ms,q=.returned (.tuple #[mv M,.bool o1])∧Ents w'.heap.size M.A M.n M.es w'∧M.Wide∧Below W.heap.size W w'∧GotP o1 P1 M) :
 Calls Tryz.prog 16 #[.string s] w fun q w'=>∃ M:Ms,q=.returned (.tuple #[mv M,.int .i64 (if (uO s&&o1)=true then uV s else 0),.bool (uO s&&o1)])∧Ents w'.heap.size M.A M.n M.es w'∧M.Wide∧Below w.heap.size w w'∧GotZ (uO s&&o1) P1 M:=by
 obtain ⟨W0,hW0⟩:∃ W0,W0=w.alloc (Obj.cells (mc mzz) 29):=⟨_,rfl⟩;have b0:Below w.heap.size w W0:=by rw [hW0];exact zba
 have k0:W0.heap[w.heap.size]?=some (.cells (mc mzz) 29 (0,0)):=by rw [hW0];exact heap_alloc_new w _
 have KU0:=runpack_any s W0 (by omega);obtain ⟨ou,hou⟩:∃ ou,ou=uO s:=⟨_,rfl⟩;obtain ⟨u,hu⟩:∃ u,u=uB s:=⟨_,rfl⟩;obtain ⟨v,hvv⟩:∃ v,v=uV s:=⟨_,rfl⟩;rw [←hou] at KU0 ⊢;rw [←hu] at KU0 hK1;rw [←hvv] at KU0 hv ⊢;have hv2:(v==2)=false:=by simpa using hv
 obtain ⟨o,ho⟩:∃ o,o=(ou&&o1):=⟨_,rfl⟩;rw [←ho];obtain ⟨vv,hw⟩:∃ vv:Int,vv=if o=true then v else 0:=⟨_,rfl⟩
 rw [←hw];have HO:=zh ho;have HD:Hid ((o=true→vv=v)∧(o=false→vv=0)):=⟨fun h=>by rw [hw,if_pos h],fun h=>by rw [hw,h];rfl⟩;clear ho hw;have KU:=zh KU0;have K1:=zh hK1;have HW0:=zh hW0;have HK0:=zh k0;have HB0:=zh b0;clear hW0 k0 b0 hK1 hou hu hvv hs hv KU0
 go_enter Tryz.func16,Tryz.ntmps16
 go_wp2_with fail
 rw [←HW0.out];refine KU.out.mono ?_;rintro q w1 ⟨rfl,b1⟩;have HK1:Hid (w1.heap[w.heap.size]?=some (.cells (mc mzz) 29 (0,0))):=(b1.block _ (zgx HK0.out)).trans HK0.out;have HB1:Hid (Below w.heap.size w w1):=HB0.out.trans (b1.mono HB0.out.size);clear b1
 go_wp2_with fail
 refine (K1.out _).mono ?_;rintro q w2 ⟨M,rfl,hE,hwd,b2,hp⟩;obtain ⟨W3,hW3⟩:∃ W3,W3=w2.alloc (Obj.cells (mc M) 29):=⟨_,rfl⟩;have bb:Below w2.heap.size w2 W3:=by rw [hW3];exact zba
 have b3:Below w1.heap.size w1 W3:=b2.trans (bb.mono b2.size);have HS2:Hid (w.heap.size<w2.heap.size):=Nat.lt_of_lt_of_le (zgx HK1.out) b2.size;have HK3:Hid (W3.heap[w.heap.size]?=some (.cells (mc mzz) 29 (0,0))):=(b3.block _ (zgx HK1.out)).trans HK1.out;have HM3:Hid (W3.heap[w2.heap.size]?=some (.cells (mc M) 29 (0,0))):=by show _=_;rw [hW3];exact heap_alloc_new w2 _
 have HB3:Hid (Below w.heap.size w W3):=HB1.out.trans (b3.mono HB1.out.size);have HE3:Hid (Ents W3.heap.size M.A M.n M.es W3):=(hE.below bb).mr bb.size;have HW3:=zh hW3;have HWD:=zh hwd;have HP:=zh hp;clear bb b3 b2 hW3 hE hwd hp HK0 HK1 HB0 HB1
 go_upto_region 5 with fail
 rw [←HW3.out];obtain ⟨z0,z1,z2,z3,z4,z5,z6,z7,z8,z9,z10⟩:=zmzl (w:=W3) (b:=w.heap.size) HK3.out;obtain ⟨x0,x1,x2,x3,x4,x5,x6,x7,x8,x9,x10⟩:=zmcl (w:=W3) (b:=w2.heap.size) (e:=M) HM3.out;have fz:∀ i,W3.frozen? ⟨w.heap.size,i,none⟩=false:=fun i=>Lib.frozen_of_heap HK3.out i
 cases ou with
 | false =>
   go_wp2;obtain ⟨WF,hWF⟩:∃ WF,WF=wrm W3 w.heap.size mzz:=⟨_,rfl⟩
   have HBK:Hid (WF.heap[w.heap.size]?=some (.cells (mc mzz) 29 (0,0))):=by
    show _=_
    rw [hWF];exact store_allm mzz HK3.out
   have HBF:Hid (Below w.heap.size w WF):=by rw [hWF];exact below_allm mzz HB3.out (Nat.le_refl _)
   unfold wrm at hWF;rw [←hWF];obtain ⟨f0,f1,f2,f3,f4,f5,f6,f7,f8,f9,f10⟩:=zmzl (w:=WF) (b:=w.heap.size) HBK.out;exact bodyPost_ret (v:=.tuple #[mv mzz,.int .i64 0,.bool false]) (by simp [results,Tryz.results16,go_sem,f0,f1,f2,f3,f4,f5,f6,f7,f8,f9,f10]) rfl ⟨mzz,by have ho:o=false:=HO.out;have hw:=HD.out.2 ho;rw [ho,hw],mzz_ents _ _,mzz_wide5,HBF.out,fun e=>(by rw [HO.out] at e;cases e),fun _=>rfl⟩
 | true =>
   cases o1 with
   | false =>
     go_wp2;obtain ⟨WF,hWF⟩:∃ WF,WF=wrm W3 w.heap.size mzz:=⟨_,rfl⟩
     have HBK:Hid (WF.heap[w.heap.size]?=some (.cells (mc mzz) 29 (0,0))):=by
      show _=_
      rw [hWF];exact store_allm mzz HK3.out
     have HBF:Hid (Below w.heap.size w WF):=by rw [hWF];exact below_allm mzz HB3.out (Nat.le_refl _)
     unfold wrm at hWF;rw [←hWF];obtain ⟨f0,f1,f2,f3,f4,f5,f6,f7,f8,f9,f10⟩:=zmzl (w:=WF) (b:=w.heap.size) HBK.out;exact bodyPost_ret (v:=.tuple #[mv mzz,.int .i64 0,.bool false]) (by simp [results,Tryz.results16,go_sem,f0,f1,f2,f3,f4,f5,f6,f7,f8,f9,f10]) rfl ⟨mzz,by have ho:o=false:=HO.out;have hw:=HD.out.2 ho;rw [ho,hw],mzz_ents _ _,mzz_wide5,HBF.out,fun e=>(by rw [HO.out] at e;cases e),fun _=>rfl⟩
   | true =>
     go_wp2;obtain ⟨WF,hWF⟩:∃ WF,WF=wrm W3 w.heap.size M:=⟨_,rfl⟩
     have HBK:Hid (WF.heap[w.heap.size]?=some (.cells (mc M) 29 (0,0))):=by
      show _=_
      rw [hWF];exact store_allm M HK3.out
     have HBF:Hid (Below w.heap.size w WF):=by rw [hWF];exact below_allm M HB3.out (Nat.le_refl _)
     have HEF:Hid (Ents WF.heap.size M.A M.n M.es WF):=by rw [hWF,size_wrm];exact ents_wrm_off M HE3.out HK3.out
     unfold wrm at hWF;rw [←hWF];obtain ⟨f0,f1,f2,f3,f4,f5,f6,f7,f8,f9,f10⟩:=zmcl (w:=WF) (b:=w.heap.size) (e:=M) HBK.out;exact bodyPost_ret (v:=.tuple #[mv M,.int .i64 v,.bool true]) (by simp [results,Tryz.results16,go_sem,f0,f1,f2,f3,f4,f5,f6,f7,f8,f9,f10]) rfl ⟨M,by have ho:o=true:=HO.out;have hw:=HD.out.1 ho;rw [ho,hw],HEF.out,HWD.out,HBF.out,fun _=>HP.out rfl,fun e=>by rw [HO.out] at e;cases e⟩
theorem rGetM2_any (s:ByteArray) (o1:Bool) (P1:Ms→Prop) (o2:Bool) (P2:Ms→Prop) (w:World) (hs:s.size≤140737488351232) (hv:uV s=2) (hK1:∀ W,Calls Tryz.prog 48 #[.string (uB s)] W fun q w'=>∃ M:Ms,q=.returned (.tuple #[mv M,.bool o1])∧Ents w'.heap.size M.A M.n M.es w'∧M.Wide∧Below W.heap.size W w'∧GotP o1 P1 M) (hK2:∀ W,Calls Tryz.prog 49 #[.string (uB s)] W fun q w'=>∃ M:Ms,q=.returned (.tuple #[mv M,.bool o2])∧Ents w'.heap.size M.A M.n M.es w'∧M.Wide∧Below W.heap.size W w'∧GotP o2 P2 M) :
 Calls Tryz.prog 16 #[.string s] w fun q w'=>∃ M:Ms,q=.returned (.tuple #[mv M,.int .i64 (if (uO s&&o2)=true then uV s else 0),.bool (uO s&&o2)])∧Ents w'.heap.size M.A M.n M.es w'∧M.Wide∧Below w.heap.size w w'∧GotZ (uO s&&o2) P2 M:=by
 obtain ⟨W0,hW0⟩:∃ W0,W0=w.alloc (Obj.cells (mc mzz) 29):=⟨_,rfl⟩;have b0:Below w.heap.size w W0:=by rw [hW0];exact zba
 have k0:W0.heap[w.heap.size]?=some (.cells (mc mzz) 29 (0,0)):=by rw [hW0];exact heap_alloc_new w _
 have KU0:=runpack_any s W0 (by omega);obtain ⟨ou,hou⟩:∃ ou,ou=uO s:=⟨_,rfl⟩;obtain ⟨u,hu⟩:∃ u,u=uB s:=⟨_,rfl⟩;obtain ⟨v,hvv⟩:∃ v,v=uV s:=⟨_,rfl⟩;rw [←hou] at KU0 ⊢;rw [←hu] at KU0 hK1 hK2;rw [←hvv] at KU0 hv ⊢;have hv2:(v==2)=true:=by simpa using hv
 obtain ⟨o,ho⟩:∃ o,o=(ou&&o2):=⟨_,rfl⟩;rw [←ho];obtain ⟨vv,hw⟩:∃ vv:Int,vv=if o=true then v else 0:=⟨_,rfl⟩
 rw [←hw];have HO:=zh ho;have HD:Hid ((o=true→vv=v)∧(o=false→vv=0)):=⟨fun h=>by rw [hw,if_pos h],fun h=>by rw [hw,h];rfl⟩;clear ho hw;have KU:=zh KU0;have K1:=zh hK1;have K2:=zh hK2;have HW0:=zh hW0;have HK0:=zh k0;have HB0:=zh b0;clear hW0 k0 b0 hK1 hK2 hou hu hvv hs hv KU0
 go_enter Tryz.func16,Tryz.ntmps16
 go_wp2_with fail
 rw [←HW0.out];refine KU.out.mono ?_;rintro q w1 ⟨rfl,b1⟩;have HK1:Hid (w1.heap[w.heap.size]?=some (.cells (mc mzz) 29 (0,0))):=(b1.block _ (zgx HK0.out)).trans HK0.out;have HB1:Hid (Below w.heap.size w w1):=HB0.out.trans (b1.mono HB0.out.size);clear b1
 go_wp2_with fail
 refine (K1.out _).mono ?_;rintro q w2 ⟨M,rfl,hE,hwd,b2,hp⟩;obtain ⟨W3,hW3⟩:∃ W3,W3=w2.alloc (Obj.cells (mc M) 29):=⟨_,rfl⟩;have bb:Below w2.heap.size w2 W3:=by rw [hW3];exact zba
 have b3:Below w1.heap.size w1 W3:=b2.trans (bb.mono b2.size);have HS2:Hid (w.heap.size<w2.heap.size):=Nat.lt_of_lt_of_le (zgx HK1.out) b2.size;have HK3:Hid (W3.heap[w.heap.size]?=some (.cells (mc mzz) 29 (0,0))):=(b3.block _ (zgx HK1.out)).trans HK1.out;have HM3:Hid (W3.heap[w2.heap.size]?=some (.cells (mc M) 29 (0,0))):=by show _=_;rw [hW3];exact heap_alloc_new w2 _
 have HB3:Hid (Below w.heap.size w W3):=HB1.out.trans (b3.mono HB1.out.size);have HE3:Hid (Ents W3.heap.size M.A M.n M.es W3):=(hE.below bb).mr bb.size;have HW3:=zh hW3;have HWD:=zh hwd;have HP:=zh hp;clear bb b3 b2 hW3 hE hwd hp HK0 HK1 HB0 HB1
 go_wp2_with fail
 rw [←HW3.out];refine (K2.out _).mono ?_;rintro q w4 ⟨M2,rfl,hE,hwd,b4,hp⟩;have HK4:Hid (w4.heap[w.heap.size]?=some (.cells (mc mzz) 29 (0,0))):=(b4.block _ (zgx HK3.out)).trans HK3.out;have HM4:Hid (w4.heap[w2.heap.size]?=some (.cells (mc M) 29 (0,0))):=(b4.block _ (zgx HM3.out)).trans HM3.out;have HB4:Hid (Below w.heap.size w w4):=HB3.out.trans (b4.mono HB3.out.size);have HE4:=zh hE;have HWD2:=zh hwd;have HP2:=zh hp;clear b4 hE hwd hp HK3 HM3 HB3 HE3 HWD HP;obtain ⟨z0,z1,z2,z3,z4,z5,z6,z7,z8,z9,z10⟩:=zmcl (w:=w4) (b:=w2.heap.size) (e:=M) HM4.out;have fz:∀ i,w4.frozen? ⟨w2.heap.size,i,none⟩=false:=fun i=>Lib.frozen_of_heap HM4.out i
 go_upto_region 5 with fail
 obtain ⟨W5,hW5⟩:∃ W5,W5=wrm w4 w2.heap.size M2:=⟨_,rfl⟩
 have HM5:Hid (W5.heap[w2.heap.size]?=some (.cells (mc M2) 29 (0,0))):=by
  show _=_
  rw [hW5];exact store_againm M2 HM4.out
 have HB5:Hid (Below w.heap.size w W5):=by rw [hW5];exact below_allm M2 HB4.out (Nat.le_of_lt HS2.out)
 have HK5:Hid (W5.heap[w.heap.size]?=some (.cells (mc mzz) 29 (0,0))):=by
  show _=_
  rw [hW5,heap_wrm5 w4 _ _ M2 (by have:=HS2.out;omega)];exact HK4.out
 have HE5:Hid (Ents W5.heap.size M2.A M2.n M2.es W5):=by rw [hW5,size_wrm];exact ents_wrm_off M2 HE4.out HM4.out
 unfold wrm at hW5;rw [←hW5];clear hW5 z0 z1 z2 z3 z4 z5 z6 z7 z8 z9 z10 fz HK4 HM4 HB4 HE4;obtain ⟨z0,z1,z2,z3,z4,z5,z6,z7,z8,z9,z10⟩:=zmzl (w:=W5) (b:=w.heap.size) HK5.out;obtain ⟨x0,x1,x2,x3,x4,x5,x6,x7,x8,x9,x10⟩:=zmcl (w:=W5) (b:=w2.heap.size) (e:=M2) HM5.out;have fz:∀ i,W5.frozen? ⟨w.heap.size,i,none⟩=false:=fun i=>Lib.frozen_of_heap HK5.out i
 cases ou with
 | false =>
   go_wp2;obtain ⟨WF,hWF⟩:∃ WF,WF=wrm W5 w.heap.size mzz:=⟨_,rfl⟩
   have HBK:Hid (WF.heap[w.heap.size]?=some (.cells (mc mzz) 29 (0,0))):=by
    show _=_
    rw [hWF];exact store_allm mzz HK5.out
   have HBF:Hid (Below w.heap.size w WF):=by rw [hWF];exact below_allm mzz HB5.out (Nat.le_refl _)
   unfold wrm at hWF;rw [←hWF];obtain ⟨f0,f1,f2,f3,f4,f5,f6,f7,f8,f9,f10⟩:=zmzl (w:=WF) (b:=w.heap.size) HBK.out;exact bodyPost_ret (v:=.tuple #[mv mzz,.int .i64 0,.bool false]) (by simp [results,Tryz.results16,go_sem,f0,f1,f2,f3,f4,f5,f6,f7,f8,f9,f10]) rfl ⟨mzz,by have ho:o=false:=HO.out;have hw:=HD.out.2 ho;rw [ho,hw],mzz_ents _ _,mzz_wide5,HBF.out,fun e=>(by rw [HO.out] at e;cases e),fun _=>rfl⟩
 | true =>
   cases o2 with
   | false =>
     go_wp2;obtain ⟨WF,hWF⟩:∃ WF,WF=wrm W5 w.heap.size mzz:=⟨_,rfl⟩
     have HBK:Hid (WF.heap[w.heap.size]?=some (.cells (mc mzz) 29 (0,0))):=by
      show _=_
      rw [hWF];exact store_allm mzz HK5.out
     have HBF:Hid (Below w.heap.size w WF):=by rw [hWF];exact below_allm mzz HB5.out (Nat.le_refl _)
     unfold wrm at hWF;rw [←hWF];obtain ⟨f0,f1,f2,f3,f4,f5,f6,f7,f8,f9,f10⟩:=zmzl (w:=WF) (b:=w.heap.size) HBK.out;exact bodyPost_ret (v:=.tuple #[mv mzz,.int .i64 0,.bool false]) (by simp [results,Tryz.results16,go_sem,f0,f1,f2,f3,f4,f5,f6,f7,f8,f9,f10]) rfl ⟨mzz,by have ho:o=false:=HO.out;have hw:=HD.out.2 ho;rw [ho,hw],mzz_ents _ _,mzz_wide5,HBF.out,fun e=>(by rw [HO.out] at e;cases e),fun _=>rfl⟩
   | true =>
     go_wp2;obtain ⟨WF,hWF⟩:∃ WF,WF=wrm W5 w.heap.size M2:=⟨_,rfl⟩
     have HBK:Hid (WF.heap[w.heap.size]?=some (.cells (mc M2) 29 (0,0))):=by
      show _=_
      rw [hWF];exact store_allm M2 HK5.out
     have HBF:Hid (Below w.heap.size w WF):=by rw [hWF];exact below_allm M2 HB5.out (Nat.le_refl _)
     have HEF:Hid (Ents WF.heap.size M2.A M2.n M2.es WF):=by rw [hWF,size_wrm];exact ents_wrm_off M2 HE5.out HK5.out
     unfold wrm at hWF;rw [←hWF];obtain ⟨f0,f1,f2,f3,f4,f5,f6,f7,f8,f9,f10⟩:=zmcl (w:=WF) (b:=w.heap.size) (e:=M2) HBK.out;exact bodyPost_ret (v:=.tuple #[mv M2,.int .i64 v,.bool true]) (by simp [results,Tryz.results16,go_sem,f0,f1,f2,f3,f4,f5,f6,f7,f8,f9,f10]) rfl ⟨M2,by have ho:o=true:=HO.out;have hw:=HD.out.1 ho;rw [ho,hw],HEF.out,HWD2.out,HBF.out,fun _=>HP2.out rfl,fun e=>by rw [HO.out] at e;cases e⟩
end Go.Proofs.YtpdbeijfchmlgaaGreat
namespace Go.Proofs.YtpdbeijfchmlgaaGreat
open Go.RowKit
open Vi
theorem fgetM2_any (s:ByteArray) (g:Nat) (o:Bool) (PP:Ms→Prop) (w:World) (hm:w.heap[g]?=some (.map (two (fv 46) (fv 47)) 2)) (hs:s.size≤140737488351232) (hU:uO s=true) (hV:uV s=2)
 (hK:∀ W,Calls Tryz.prog 47 #[.string (uB s)] W fun q w'=>∃ M:Ms,q=.returned (.tuple #[mv M,.bool o])∧Ents w'.heap.size M.A M.n M.es w'∧M.Wide∧Below W.heap.size W w'∧PP M) :
 Calls Tryz.prog 45 #[.map (some g),.string s] w fun q w'=>∃ M:Ms,q=.returned (.tuple #[mv M,.int .i64 (if o then 2 else 0),.bool o])∧Ents w'.heap.size M.A M.n M.es w'∧M.Wide∧Below w.heap.size w w'∧PP M:=by
 obtain ⟨W0,hW0⟩:∃ W0,W0=w.alloc (Obj.cells (mc mzz) 29):=⟨_,rfl⟩;have b0:Below w.heap.size w W0:=by rw [hW0];exact zba
 have k0:W0.heap[w.heap.size]?=some (.cells (mc mzz) 29 (0,0)):=by rw [hW0];exact heap_alloc_new w _
 have KU:Hid (Calls Tryz.prog 23 #[.string s] W0 fun q w'=>q=.returned (.tuple #[.int .i64 2,.string (uB s),.bool true])∧Below W0.heap.size W0 w'):=by
  refine (unpack_any s W0 (by omega)).mono fun q w' ⟨h1,h2⟩=>⟨?_,h2⟩;rw [h1,hU,hV]
 have KW0:=hK;obtain ⟨u,hu2⟩:∃ u,u=uB s:=⟨_,rfl⟩;rw [←hu2] at KU KW0;have KW:=zh KW0;have HM:=zh hm;have hgl:=(zgx hm);have HGL:=zh hgl;have HW0:=zh hW0;have HK0:=zh k0;have HB0:=zh b0;clear hW0 k0 b0 hm hgl hu2 hU hV hs KW0 hK
 go_enter Tryz.func45,Tryz.ntmps45
 go_wp2_with fail
 rw [←HW0.out];refine KU.out.mono ?_;rintro q w1 ⟨rfl,b1⟩;have HK1:Hid (w1.heap[w.heap.size]?=some (.cells (mc mzz) 29 (0,0))):=(b1.block _ (zgx HK0.out)).trans HK0.out;have HB1:Hid (Below w.heap.size w w1):=HB0.out.trans (b1.mono HB0.out.size);have hl:=look_one (T:=75) 2 (fv 47) Tryz.underlying75 ((HB1.out.block _ HGL.out).trans HM.out) (two_2 _ _);clear b1
 go_wp2_with fail
 refine (KW.out w1).mono ?_;rintro q w2 ⟨M,rfl,hE,hwd,b2,hp⟩;have HK2:Hid (w2.heap[w.heap.size]?=some (.cells (mc mzz) 29 (0,0))):=(b2.block _ (zgx HK1.out)).trans HK1.out;have HB2:Hid (Below w.heap.size w w2):=HB1.out.trans (b2.mono HB1.out.size);have HE2:=zh hE;have HWD:=zh hwd;have HP:=zh hp;clear b2 hl hE hwd hp;obtain ⟨z0,z1,z2,z3,z4,z5,z6,z7,z8,z9,z10⟩:=zmzl (w:=w2) (b:=w.heap.size) HK2.out;have fz:∀ i,w2.frozen? ⟨w.heap.size,i,none⟩=false:=fun i=>Lib.frozen_of_heap HK2.out i
 go_upto_region 5 with fail
 obtain ⟨W3,hW3⟩:∃ W3,W3=wrm w2 w.heap.size M:=⟨_,rfl⟩;have k3:W3.heap[w.heap.size]?=some (.cells (mc M) 29 (0,0)):=by rw [hW3];exact store_allm M HK2.out
 have HB3:Hid (Below w.heap.size w W3):=by rw [hW3];exact below_allm M HB2.out (Nat.le_refl _)
 have HE3:Hid (Ents W3.heap.size M.A M.n M.es W3):=by rw [hW3,size_wrm];exact ents_wrm_off M HE2.out HK2.out
 have HK3:=zh k3;unfold wrm at hW3;rw [←hW3];clear hW3 k3 z0 z1 z2 z3 z4 z5 z6 z7 z8 z9 z10 fz;obtain ⟨y0,y1,y2,y3,y4,y5,y6,y7,y8,y9,y10⟩:=zmcl (w:=W3) (b:=w.heap.size) (e:=M) HK3.out;have fz:∀ i,W3.frozen? ⟨w.heap.size,i,none⟩=false:=fun i=>Lib.frozen_of_heap HK3.out i
 cases o
 all_goals
  go_wp2;obtain ⟨WF,hWF⟩:∃ WF,WF=wrm W3 w.heap.size M:=⟨_,rfl⟩
  have HBK:Hid (WF.heap[w.heap.size]?=some (.cells (mc M) 29 (0,0))):=by
   show _=_
   rw [hWF];exact store_againm M HK3.out
  have HBF:Hid (Below w.heap.size w WF):=by rw [hWF];exact below_allm M HB3.out (Nat.le_refl _)
  have HEF:Hid (Ents WF.heap.size M.A M.n M.es WF):=by rw [hWF,size_wrm];exact ents_wrm_off M HE3.out HK3.out
  unfold wrm at hWF;rw [←hWF];obtain ⟨f0,f1,f2,f3,f4,f5,f6,f7,f8,f9,f10⟩:=zmcl (w:=WF) (b:=w.heap.size) (e:=M) HBK.out
  first
   | exact bodyPost_ret (v:=.tuple #[mv M,.int .i64 0,.bool false]) (by simp [results,Tryz.results45,go_sem,f0,f1,f2,f3,f4,f5,f6,f7,f8,f9,f10]) rfl ⟨M,rfl,HEF.out,HWD.out,HBF.out,HP.out⟩
   | exact bodyPost_ret (v:=.tuple #[mv M,.int .i64 2,.bool true]) (by simp [results,Tryz.results45,go_sem,f0,f1,f2,f3,f4,f5,f6,f7,f8,f9,f10]) rfl ⟨M,rfl,HEF.out,HWD.out,HBF.out,HP.out⟩
end Go.Proofs.YtpdbeijfchmlgaaGreat
namespace Go.Proofs.YtpdbeijfchmlgaaGreat
open Go.RowKit
open Vi
theorem fgetMa_any (s:ByteArray) (g:Nat) (o:Bool) (PP:Ms→Prop) (w:World) (hm:w.heap[g]?=some (.map (two (fv 46) (fv 47)) 2)) (hs:s.size≤140737488351232) (hU:uO s=true) (hV:uV s=1)
 (hK:∀ W,Calls Tryz.prog 46 #[.string (uB s)] W fun q w'=>∃ M:Ms,q=.returned (.tuple #[mv M,.bool o])∧Ents w'.heap.size M.A M.n M.es w'∧M.Wide∧Below W.heap.size W w'∧PP M) :
 Calls Tryz.prog 45 #[.map (some g),.string s] w fun q w'=>∃ M:Ms,q=.returned (.tuple #[mv M,.int .i64 (if o then 1 else 0),.bool o])∧Ents w'.heap.size M.A M.n M.es w'∧M.Wide∧Below w.heap.size w w'∧PP M:=by
 obtain ⟨W0,hW0⟩:∃ W0,W0=w.alloc (Obj.cells (mc mzz) 29):=⟨_,rfl⟩;have b0:Below w.heap.size w W0:=by rw [hW0];exact zba
 have k0:W0.heap[w.heap.size]?=some (.cells (mc mzz) 29 (0,0)):=by rw [hW0];exact heap_alloc_new w _
 have KU:Hid (Calls Tryz.prog 23 #[.string s] W0 fun q w'=>q=.returned (.tuple #[.int .i64 1,.string (uB s),.bool true])∧Below W0.heap.size W0 w'):=by
  refine (unpack_any s W0 (by omega)).mono fun q w' ⟨h1,h2⟩=>⟨?_,h2⟩;rw [h1,hU,hV]
 have KW0:=hK;obtain ⟨u,hu2⟩:∃ u,u=uB s:=⟨_,rfl⟩;rw [←hu2] at KU KW0;have KW:=zh KW0;have HM:=zh hm;have hgl:=(zgx hm);have HGL:=zh hgl;have HW0:=zh hW0;have HK0:=zh k0;have HB0:=zh b0;clear hW0 k0 b0 hm hgl hu2 hU hV hs KW0 hK
 go_enter Tryz.func45,Tryz.ntmps45
 go_wp2_with fail
 rw [←HW0.out];refine KU.out.mono ?_;rintro q w1 ⟨rfl,b1⟩;have HK1:Hid (w1.heap[w.heap.size]?=some (.cells (mc mzz) 29 (0,0))):=(b1.block _ (zgx HK0.out)).trans HK0.out;have HB1:Hid (Below w.heap.size w w1):=HB0.out.trans (b1.mono HB0.out.size);have hl:=look_one (T:=75) 1 (fv 46) Tryz.underlying75 ((HB1.out.block _ HGL.out).trans HM.out) (two_1 _ _);clear b1
 go_wp2_with fail
 refine (KW.out w1).mono ?_;rintro q w2 ⟨M,rfl,hE,hwd,b2,hp⟩;have HK2:Hid (w2.heap[w.heap.size]?=some (.cells (mc mzz) 29 (0,0))):=(b2.block _ (zgx HK1.out)).trans HK1.out;have HB2:Hid (Below w.heap.size w w2):=HB1.out.trans (b2.mono HB1.out.size);have HE2:=zh hE;have HWD:=zh hwd;have HP:=zh hp;clear b2 hl hE hwd hp;obtain ⟨z0,z1,z2,z3,z4,z5,z6,z7,z8,z9,z10⟩:=zmzl (w:=w2) (b:=w.heap.size) HK2.out;have fz:∀ i,w2.frozen? ⟨w.heap.size,i,none⟩=false:=fun i=>Lib.frozen_of_heap HK2.out i
 go_upto_region 5 with fail
 obtain ⟨W3,hW3⟩:∃ W3,W3=wrm w2 w.heap.size M:=⟨_,rfl⟩;have k3:W3.heap[w.heap.size]?=some (.cells (mc M) 29 (0,0)):=by rw [hW3];exact store_allm M HK2.out
 have HB3:Hid (Below w.heap.size w W3):=by rw [hW3];exact below_allm M HB2.out (Nat.le_refl _)
 have HE3:Hid (Ents W3.heap.size M.A M.n M.es W3):=by rw [hW3,size_wrm];exact ents_wrm_off M HE2.out HK2.out
 have HK3:=zh k3;unfold wrm at hW3;rw [←hW3];clear hW3 k3 z0 z1 z2 z3 z4 z5 z6 z7 z8 z9 z10 fz;obtain ⟨y0,y1,y2,y3,y4,y5,y6,y7,y8,y9,y10⟩:=zmcl (w:=W3) (b:=w.heap.size) (e:=M) HK3.out;have fz:∀ i,W3.frozen? ⟨w.heap.size,i,none⟩=false:=fun i=>Lib.frozen_of_heap HK3.out i
 cases o
 all_goals
  go_wp2;obtain ⟨WF,hWF⟩:∃ WF,WF=wrm W3 w.heap.size M:=⟨_,rfl⟩
  have HBK:Hid (WF.heap[w.heap.size]?=some (.cells (mc M) 29 (0,0))):=by
   show _=_
   rw [hWF];exact store_againm M HK3.out
  have HBF:Hid (Below w.heap.size w WF):=by rw [hWF];exact below_allm M HB3.out (Nat.le_refl _)
  have HEF:Hid (Ents WF.heap.size M.A M.n M.es WF):=by rw [hWF,size_wrm];exact ents_wrm_off M HE3.out HK3.out
  unfold wrm at hWF;rw [←hWF];obtain ⟨f0,f1,f2,f3,f4,f5,f6,f7,f8,f9,f10⟩:=zmcl (w:=WF) (b:=w.heap.size) (e:=M) HBK.out
  first
   | exact bodyPost_ret (v:=.tuple #[mv M,.int .i64 0,.bool false]) (by simp [results,Tryz.results45,go_sem,f0,f1,f2,f3,f4,f5,f6,f7,f8,f9,f10]) rfl ⟨M,rfl,HEF.out,HWD.out,HBF.out,HP.out⟩
   | exact bodyPost_ret (v:=.tuple #[mv M,.int .i64 1,.bool true]) (by simp [results,Tryz.results45,go_sem,f0,f1,f2,f3,f4,f5,f6,f7,f8,f9,f10]) rfl ⟨M,rfl,HEF.out,HWD.out,HBF.out,HP.out⟩
theorem fgetMz_any (s:ByteArray) (g:Nat) (w:World) (hs:s.size≤140737488351232) (hU:uO s=false) :
 Calls Tryz.prog 45 #[.map (some g),.string s] w fun q w'=>q=.returned (.tuple #[mv mzz,.int .i64 0,.bool false])∧Below w.heap.size w w':=by
 obtain ⟨W0,hW0⟩:∃ W0,W0=w.alloc (Obj.cells (mc mzz) 29):=⟨_,rfl⟩;have b0:Below w.heap.size w W0:=by rw [hW0];exact zba
 have k0:W0.heap[w.heap.size]?=some (.cells (mc mzz) 29 (0,0)):=by rw [hW0];exact heap_alloc_new w _
 have KU:Hid (Calls Tryz.prog 23 #[.string s] W0 fun q w'=>q=.returned (.tuple #[.int .i64 0,.string ⟨#[]⟩,.bool false])∧Below W0.heap.size W0 w'):=by
  refine (unpack_any s W0 (by omega)).mono fun q w' ⟨h1,h2⟩=>⟨?_,h2⟩;rw [h1,←u_ret_no hU]
 have HW0:=zh hW0;have HK0:=zh k0;have HB0:=zh b0;clear hW0 k0 b0 hU hs
 go_enter Tryz.func45,Tryz.ntmps45
 go_wp2_with fail
 rw [←HW0.out];refine KU.out.mono ?_;rintro q w1 ⟨rfl,b1⟩;have HK1:Hid (w1.heap[w.heap.size]?=some (.cells (mc mzz) 29 (0,0))):=(b1.block _ (zgx HK0.out)).trans HK0.out;have HB1:Hid (Below w.heap.size w w1):=HB0.out.trans (b1.mono HB0.out.size);clear b1;obtain ⟨z0,z1,z2,z3,z4,z5,z6,z7,z8,z9,z10⟩:=zmzl (w:=w1) (b:=w.heap.size) HK1.out;have fz:∀ i,w1.frozen? ⟨w.heap.size,i,none⟩=false:=fun i=>Lib.frozen_of_heap HK1.out i;go_wp2;obtain ⟨WF,hWF⟩:∃ WF,WF=wrm w1 w.heap.size mzz:=⟨_,rfl⟩
 have HBK:Hid (WF.heap[w.heap.size]?=some (.cells (mc mzz) 29 (0,0))):=by
  show _=_
  rw [hWF];exact store_allm mzz HK1.out
 have HBF:Hid (Below w.heap.size w WF):=by rw [hWF];exact below_allm mzz HB1.out (Nat.le_refl _)
 unfold wrm at hWF;rw [←hWF];obtain ⟨f0,f1,f2,f3,f4,f5,f6,f7,f8,f9,f10⟩:=zmzl (w:=WF) (b:=w.heap.size) HBK.out;exact bodyPost_ret (v:=.tuple #[mv mzz,.int .i64 0,.bool false]) (by simp [results,Tryz.results45,go_sem,f0,f1,f2,f3,f4,f5,f6,f7,f8,f9,f10]) rfl ⟨rfl,HBF.out⟩
theorem fGetMa_any (s:ByteArray) (v:Int) (p:Bool) (PP:Ms→Prop) (w:World)
 (hK:∀ (g:Nat) (W:World),W.heap[g]?=some (.map (two (fv 46) (fv 47)) 2)→Calls Tryz.prog 45 #[.map (some g),.string s] W fun q w'=>∃ M:Ms,q=.returned (.tuple #[mv M,.int .i64 v,.bool p])∧Ents w'.heap.size M.A M.n M.es w'∧M.Wide∧Below W.heap.size W w'∧PP M) :
 Calls Tryz.prog 15 #[.string s] w fun q w'=>∃ M:Ms,q=.returned (.tuple #[mv M,.int .i64 v,.bool p])∧Ents w'.heap.size M.A M.n M.es w'∧M.Wide∧Below w.heap.size w w'∧PP M:=by
 have hmm:=@run_makeMap Tryz.prog;have b0:Below w.heap.size w (w.alloc (Obj.cells (mc mzz) 29)):=zba;have k0:(w.alloc (Obj.cells (mc mzz) 29)).heap[w.heap.size]?=some (.cells (mc mzz) 29 (0,0)):=heap_alloc_new w _;have z0:(w.alloc (Obj.cells (mc mzz) 29)).heap.size=w.heap.size+1:=by simp
 have bm:=b0.alloc (by omega) (.map #[] 0);obtain ⟨w1,e1,h1,b1,o1,s1⟩:=ins_step (T:=75) 1 (fv 46) Tryz.underlying75 (heap_alloc_new (w.alloc (Obj.cells (mc mzz) 29)) (.map #[] 0)) rfl bm (by omega);obtain ⟨w2,e2,h2,b2,o2,s2⟩:=ins_step (T:=75) 2 (fv 47) Tryz.underlying75 h1 rfl b1 (by omega);have k2:w2.heap[w.heap.size]?=some (.cells (mc mzz) 29 (0,0)):=(o2 _ (by omega)).trans ((o1 _ (by omega)).trans ((Lib.alloc_old _ _ _ (by omega)).trans k0));rw [z0] at e1 e2;have H2:Hid (w2.heap[w.heap.size+1]?=some (.map (two (fv 46) (fv 47)) 2)):=by show _=_;rw [←z0];exact h2
 have B2:=zh b2;have HK2:=zh k2;have K:=zh (hK _ w2 H2.out);clear h1 h2 b1 b2 o1 o2 s1 s2 k0 k2 bm b0 z0 hK
 go_enter Tryz.func15,Tryz.ntmps15
 go_wp2_with fail
 refine K.out.mono ?_;rintro q w3 ⟨M,rfl,hE,hwd,b3,hp⟩;have HK3:Hid (w3.heap[w.heap.size]?=some (.cells (mc mzz) 29 (0,0))):=(b3.block _ (zgx HK2.out)).trans HK2.out;have HB3:Hid (Below w.heap.size w w3):=B2.out.trans (b3.mono B2.out.size);have HE3:=zh hE;have HWD:=zh hwd;have HP:=zh hp;clear b3 hE hwd hp e1 e2;obtain ⟨z0,z1,z2,z3,z4,z5,z6,z7,z8,z9,z10⟩:=zmzl (w:=w3) (b:=w.heap.size) HK3.out;have fz:∀ i,w3.frozen? ⟨w.heap.size,i,none⟩=false:=fun i=>Lib.frozen_of_heap HK3.out i;go_wp2;obtain ⟨WF,hWF⟩:∃ WF,WF=wrm w3 w.heap.size M:=⟨_,rfl⟩
 have HBK:Hid (WF.heap[w.heap.size]?=some (.cells (mc M) 29 (0,0))):=by
  show _=_
  rw [hWF];exact store_allm M HK3.out
 have HBF:Hid (Below w.heap.size w WF):=by rw [hWF];exact below_allm M HB3.out (Nat.le_refl _)
 have HEF:Hid (Ents WF.heap.size M.A M.n M.es WF):=by rw [hWF,size_wrm];exact ents_wrm_off M HE3.out HK3.out
 unfold wrm at hWF;rw [←hWF];obtain ⟨f0,f1,f2,f3,f4,f5,f6,f7,f8,f9,f10⟩:=zmcl (w:=WF) (b:=w.heap.size) (e:=M) HBK.out;exact bodyPost_ret (v:=.tuple #[mv M,.int .i64 v,.bool p]) (by simp [results,Tryz.results15,go_sem,f0,f1,f2,f3,f4,f5,f6,f7,f8,f9,f10]) rfl ⟨M,rfl,HEF.out,HWD.out,HBF.out,HP.out⟩
end Go.Proofs.YtpdbeijfchmlgaaGreat
namespace Go.Proofs.YtpdbeijfchmlgaaGreat.D
open Go.RowKit
open Vi
def aM (s:ByteArray) (A:Option Addr) (c:Nat):Ms:=if uV s=2 then mPrs (uB s) A c else Go.Proofs.YtpdbeijfchmlgaaGreat.mPrs (uB s) A c
def aMO (s:ByteArray):Bool:=uO s&&(if uV s=2 then gok (uB s) else Go.Proofs.YtpdbeijfchmlgaaGreat.gok (uB s))
def AMsg (s:ByteArray) (w:World) (q:Ending) (w':World):Prop :=
 ∃ M:Ms,q=.returned (.tuple #[mv M,.int .i64 (if aMO s then uV s else 0),.bool (aMO s)])∧Ents w'.heap.size M.A M.n M.es w'∧M.Wide∧Below w.heap.size w w'∧GotZ (aMO s) (fun M=>∃ A c,M=aM s A c) M
theorem aGetM (s:ByteArray) (w:World) (hs:s.size≤140737488351232):Calls Tryz.prog 15 #[.string s] w (AMsg s w):=by
 unfold AMsg
 rcases u_cases s with ⟨h1,h2,h3⟩|⟨h1,h2|h2,h3⟩
 ·have ho:aMO s=false:=by unfold aMO;rw [h1];rfl
  rw [ho];refine fGetMa_any s _ _ _ w fun g W hm=>?_;refine (fgetMz_any s g W hs h1).mono fun q w' ⟨k1,k2⟩=>?_;exact ⟨mzz,k1,mzz_ents _ _,mzz_wide5,k2,fun e=>(by cases e),fun _=>rfl⟩
 ·have hn:¬ uV s=2:=by omega
  have ho:aMO s=Go.Proofs.YtpdbeijfchmlgaaGreat.gok (uB s):=by unfold aMO;rw [h1,if_neg hn];rfl
  have hM:∀ A c,aM s A c=Go.Proofs.YtpdbeijfchmlgaaGreat.mPrs (uB s) A c:=fun A c=>if_neg hn;rw [ho,h2];refine fGetMa_any s _ _ _ w fun g W hm=>?_;refine fgetMa_any s g _ _ W hm hs h1 h2 fun W'=>?_;refine (Go.Proofs.YtpdbeijfchmlgaaGreat.getMsg_any (uB s) W' (by omega)).mono ?_;rintro q w' ⟨M,k1,k2,k3,k4,k5,k6⟩;exact ⟨M,k1,k2,k3,k4,fun e=>by obtain ⟨A,c,h⟩:=k5 e;exact ⟨A,c,h.trans (hM A c).symm⟩,k6⟩
 ·have ho:aMO s=gok (uB s):=by unfold aMO;rw [h1,if_pos h2];rfl
  have hM:∀ A c,aM s A c=mPrs (uB s) A c:=fun A c=>if_pos h2;rw [ho,h2];refine fGetMa_any s _ _ _ w fun g W hm=>?_;refine fgetM2_any s g _ _ W hm hs h1 h2 fun W'=>?_;refine (getMsg_any (uB s) W' (by omega)).mono ?_;rintro q w' ⟨M,k1,k2,k3,k4,k5,k6⟩;exact ⟨M,k1,k2,k3,k4,fun e=>by obtain ⟨A,c,h⟩:=k5 e;exact ⟨A,c,h.trans (hM A c).symm⟩,k6⟩
theorem aRGetM (s:ByteArray) (w:World) (hs:s.size≤140737488351232):Calls Tryz.prog 16 #[.string s] w (AMsg s w):=by
 unfold AMsg
 have hb:(uB s).size≤1048576:=by
  rcases u_cases s with ⟨h1,h2,h3⟩|⟨h1,h2,h3⟩
  ·rw [h3];decide
  ·exact h3
 have K1:∀ W,Calls Tryz.prog 48 #[.string (uB s)] W fun q w'=>∃ M:Ms,q=.returned (.tuple #[mv M,.bool (Go.Proofs.YtpdbeijfchmlgaaGreat.gok (uB s))])∧Ents w'.heap.size M.A M.n M.es w'∧M.Wide∧Below W.heap.size W w'∧GotP (Go.Proofs.YtpdbeijfchmlgaaGreat.gok (uB s)) (fun M=>∃ A c,M=Go.Proofs.YtpdbeijfchmlgaaGreat.mPrs (uB s) A c) M:=by
  intro W;refine (Go.Proofs.YtpdbeijfchmlgaaGreat.rgetM_any (uB s) W (by omega)).mono ?_;rintro q w' ⟨M,k1,k2,k3,k4,k5,k6⟩;exact ⟨M,k1,k2,k3,k4,k5⟩
 by_cases h2:uV s=2
 ·have ho:aMO s=(uO s&&gok (uB s)):=by unfold aMO;rw [if_pos h2]
  have hM:∀ A c,aM s A c=mPrs (uB s) A c:=fun A c=>if_pos h2;rw [ho];refine rGetM2_any s _ _ _ _ w hs h2 K1 fun W=>?_;refine (rgetM_any (uB s) W (by omega)).mono ?_;rintro q w' ⟨M,k1,k2,k3,k4,k5,k6⟩;exact ⟨M,k1,k2,k3,k4,fun e=>by obtain ⟨A,c,h⟩:=k5 e;exact ⟨A,c,h.trans (hM A c).symm⟩⟩
 ·have ho:aMO s=(uO s&&Go.Proofs.YtpdbeijfchmlgaaGreat.gok (uB s)):=by unfold aMO;rw [if_neg h2]
  have hM:∀ A c,aM s A c=Go.Proofs.YtpdbeijfchmlgaaGreat.mPrs (uB s) A c:=fun A c=>if_neg h2;rw [ho];refine rGetM1_any s _ _ w hs h2 fun W=>?_;refine (K1 W).mono ?_;rintro q w' ⟨M,k1,k2,k3,k4,k5⟩;exact ⟨M,k1,k2,k3,k4,fun e=>by obtain ⟨A,c,h⟩:=k5 e;exact ⟨A,c,h.trans (hM A c).symm⟩⟩
end Go.Proofs.YtpdbeijfchmlgaaGreat.D
