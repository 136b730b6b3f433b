/-
  WalPlays: FCm FAg FCp FLe FCp0 FCr DMSec DMPf FAp BK.
  Conditions: named in each theorem.
-/
import Derived.Test.YtnobeoppffoomaaGreatP19
import Derived.Test.YtnobeoppffoomaaGreatP20
import Derived.Test.YtnobeoppffoomaaGreatP15
import Derived.Test.YtnobeoppffoomaaGreatP14
import Derived.Test.YtnobeoppffoomaaGreatP29
import Derived.Test.YtnobeoppffoomaaGreatP28
import Derived.Test.YtnobeoppffoomaaGreatP10
import Derived.Test.YtnobeoppffoomaaGreatP06
import Derived.Test.YtnobeoppffoomaaGreatP05
import Derived.Deep.AppendLies
import Derived.Lib.SmallJoins
import Derived.OneCell
import Derived.Test.YtnobeoppffoomaaGreatP13
import Derived.Test.YtnobeoppffoomaaGreatP27
import Derived.Test.YtnobeoppffoomaaGreatP21
import Derived.Test.YtnobeoppffoomaaGreatP26
import Derived.Test.YtnobeoppffoomaaGreatP12
import Derived.Deep.CutRange
import Derived.Test.YtnobeoppffoomaaGreatP17
import Derived.Test.YtnobeoppffoomaaGreatP0
set_option linter.unusedVariables false
set_option linter.unusedSimpArgs false
set_option maxHeartbeats 8000000
set_option maxRecDepth 100000
namespace Go.Proofs.YtnobeoppffoomaaGreat
open Go.RowKit
open Vi
theorem fGetE_any (s:ByteArray) (Y:En) (v:Int) (o:Bool) (w:World)
 (hK:∀ (g a1 a2:Nat) (W:World),W.heap[g]?=some (.map (two (whv a1) (whv a2)) 2)→W.heap[a1]?=some (.cells #[.func (.func 164) #[] #[]] 214 (0,0))→W.heap[a2]?=some (.cells #[.func (.func 165) #[] #[]] 214 (0,0)) →
   Calls Tryz.prog 162 #[.map (some g),.string s] W fun q w'=>q=.returned (.tuple #[ev Y,.int .i64 v,.bool o])∧Below W.heap.size W w') :
 Calls Tryz.prog 120 #[.string s] w fun q w'=>q=.returned (.tuple #[ev Y,.int .i64 v,.bool o])∧Below w.heap.size w w':=by
 have hmm:=@run_makeMap Tryz.prog
 obtain ⟨W0,hW0⟩:∃ W0,W0=(w.alloc (Obj.cells (ec ezz) 28)).alloc (.map #[] 0):=⟨_,rfl⟩
 have b0:Below w.heap.size w W0:=by rw [hW0];exact ((Below.refl _ _).alloc (Nat.le_refl _) _).alloc (by simp) _
 have k0:W0.heap[w.heap.size]?=some (.cells (ec ezz) 28 (0,0)):=by rw [hW0];exact (Lib.alloc_old _ _ _ (by simp)).trans (heap_alloc_new w _)
 have m0:W0.heap[w.heap.size+1]?=some (.map #[] 0):=by rw [hW0];have h:=heap_alloc_new (w.alloc (Obj.cells (ec ezz) 28)) (.map #[] 0);simpa using h
 have s0:W0.heap.size=w.heap.size+2:=by rw [hW0];simp
 obtain ⟨W1,hW1⟩:∃ W1,W1=W0.alloc (Obj.cells #[.func (.func 164) #[] #[]] 214):=⟨_,rfl⟩
 have b1:Below w.heap.size w W1:=by rw [hW1];exact b0.alloc (by omega) _
 have m1:W1.heap[w.heap.size+1]?=some (.map #[] 0):=by rw [hW1];exact (Lib.alloc_old _ _ _ (by omega)).trans m0
 have a1:W1.heap[W0.heap.size]?=some (.cells #[.func (.func 164) #[] #[]] 214 (0,0)):=by rw [hW1];exact heap_alloc_new W0 _
 have k1:W1.heap[w.heap.size]?=some (.cells (ec ezz) 28 (0,0)):=by rw [hW1];exact (Lib.alloc_old _ _ _ (by omega)).trans k0
 have s1:W1.heap.size=w.heap.size+3:=by rw [hW1];simp;omega
 obtain ⟨w1,e1,h1,bb1,o1,z1⟩:=ins_step (T:=215) 1 (whv W0.heap.size) Tryz.underlying215 m1 rfl b1 (by omega)
 have ka1:w1.heap[W0.heap.size]?=some (.cells #[.func (.func 164) #[] #[]] 214 (0,0)):=(o1 _ (by omega)).trans a1
 have kk1:w1.heap[w.heap.size]?=some (.cells (ec ezz) 28 (0,0)):=(o1 _ (by omega)).trans k1
 obtain ⟨W2,hW2⟩:∃ W2,W2=w1.alloc (Obj.cells #[.func (.func 165) #[] #[]] 214):=⟨_,rfl⟩
 have b2:Below w.heap.size w W2:=by rw [hW2];exact bb1.alloc (by omega) _
 have m2:=(by rw [hW2];exact (Lib.alloc_old _ _ _ (by omega)).trans h1:W2.heap[w.heap.size+1]?=some (.map (#[].push { key:=.int .i64 1,val:=whv W0.heap.size,born:=0 }) (0+1)))
 have a2:W2.heap[w1.heap.size]?=some (.cells #[.func (.func 165) #[] #[]] 214 (0,0)):=by rw [hW2];exact heap_alloc_new w1 _
 have aa1:W2.heap[W0.heap.size]?=some (.cells #[.func (.func 164) #[] #[]] 214 (0,0)):=by rw [hW2];exact (Lib.alloc_old _ _ _ (by omega)).trans ka1
 have k2:W2.heap[w.heap.size]?=some (.cells (ec ezz) 28 (0,0)):=by rw [hW2];exact (Lib.alloc_old _ _ _ (by omega)).trans kk1
 obtain ⟨w2,e2,h2,bb2,o2,z2⟩:=ins_step (T:=215) 2 (whv w1.heap.size) Tryz.underlying215 m2 rfl b2 (by omega)
 have HM:Hid (w2.heap[w.heap.size+1]?=some (.map (two (whv W0.heap.size) (whv w1.heap.size)) 2)):=h2
 have HK2:Hid (w2.heap[w.heap.size]?=some (.cells (ec ezz) 28 (0,0))):=(o2 _ (by omega)).trans k2
 have KG:=zh (hK _ _ _ w2 HM.out ((o2 _ (by omega)).trans aa1) ((o2 _ (by omega)).trans a2))
 have HB2:=zh bb2
 have F1:Hid (Calls Tryz.prog 163 #[.func (.func 164) #[] #[]] W0 fun q w'=>q=.returned (whv W0.heap.size)∧w'=W1):=by rw [hW1];exact wholef1_any W0
 have F2:Hid (Calls Tryz.prog 163 #[.func (.func 165) #[] #[]] w1 fun q w'=>q=.returned (whv w1.heap.size)∧w'=W2):=by rw [hW2];exact wholef2_any w1
 have HW0:=zh hW0
 clear hK b0 k0 m0 s0 b1 m1 a1 k1 s1 h1 bb1 o1 z1 ka1 kk1 b2 m2 a2 aa1 k2 h2 bb2 o2 z2 hW0 hW1 hW2
 go_enter Tryz.func120,Tryz.ntmps120
 go_wp2_with fail
 rw [←HW0.out]
 refine F1.out.mono ?_
 rintro q u1 ⟨rfl,rfl⟩
 go_wp2_with fail
 refine F2.out.mono ?_
 rintro q u2 ⟨rfl,rfl⟩
 go_wp2_with fail
 refine KG.out.mono ?_
 rintro q w3 ⟨rfl,b3⟩
 have HK3:Hid (w3.heap[w.heap.size]?=some (.cells (ec ezz) 28 (0,0))):=(b3.block _ (zgx HK2.out)).trans HK2.out
 have HB3:Hid (Below w.heap.size w w3):=HB2.out.trans (b3.mono HB2.out.size)
 clear b3 e1 e2
 have z0:w3.cell? ⟨w.heap.size,0,none⟩=some (.int .u64 0):=zcr w3 _ 0 _ 28 (0,0) HK3.out
 have z1:w3.cell? ⟨w.heap.size,1,none⟩=some (.int .u64 0):=zcr w3 _ 1 _ 28 (0,0) HK3.out
 have z2:w3.cell? ⟨w.heap.size,2,none⟩=some (.int .i64 0):=zcr w3 _ 2 _ 28 (0,0) HK3.out
 have z3:w3.cell? ⟨w.heap.size,3,none⟩=some (.int .u64 0):=zcr w3 _ 3 _ 28 (0,0) HK3.out
 have z4:w3.cell? ⟨w.heap.size,4,none⟩=some (.int .u64 0):=zcr w3 _ 4 _ 28 (0,0) HK3.out
 have z5:w3.cell? ⟨w.heap.size,5,none⟩=some (.int .u64 0):=zcr w3 _ 5 _ 28 (0,0) HK3.out
 have z6:w3.cell? ⟨w.heap.size,6,none⟩=some (.int .u64 0):=zcr w3 _ 6 _ 28 (0,0) HK3.out
 have z7:w3.cell? ⟨w.heap.size,7,none⟩=some (.int .i64 0):=zcr w3 _ 7 _ 28 (0,0) HK3.out
 have z8:w3.cell? ⟨w.heap.size,8,none⟩=some (.int .i64 0):=zcr w3 _ 8 _ 28 (0,0) HK3.out
 have z9:w3.cell? ⟨w.heap.size,9,none⟩=some (.string ⟨#[]⟩):=zcr w3 _ 9 _ 28 (0,0) HK3.out
 have z10:w3.cell? ⟨w.heap.size,10,none⟩=some (.string ⟨#[]⟩):=zcr w3 _ 10 _ 28 (0,0) HK3.out
 have fz:∀ i,w3.frozen? ⟨w.heap.size,i,none⟩=false:=fun i=>Lib.frozen_of_heap HK3.out i
 obtain ⟨WF,hWF⟩:∃ WF,WF=wz w3 w.heap.size Y:=⟨_,rfl⟩
 have hblk:WF.heap[w.heap.size]?=some (.cells (ec Y) 28 (0,0)):=by rw [hWF];exact store_all Y HK3.out
 have HBF:Hid (Below w.heap.size w WF):=by rw [hWF];exact below_all Y HB3.out (Nat.le_refl _)
 have HBK:=zh hblk
 have HWF:=zh hWF
 clear hblk hWF
 go_wp2
 have hWF:=HWF.out
 unfold wz at hWF
 rw [←hWF]
 have f0:WF.cell? ⟨w.heap.size,0,none⟩=some (.int .u64 Y.term):=zcr WF _ 0 _ 28 (0,0) HBK.out
 have f1:WF.cell? ⟨w.heap.size,1,none⟩=some (.int .u64 Y.index):=zcr WF _ 1 _ 28 (0,0) HBK.out
 have f2:WF.cell? ⟨w.heap.size,2,none⟩=some (.int .i64 Y.kind):=zcr WF _ 2 _ 28 (0,0) HBK.out
 have f3:WF.cell? ⟨w.heap.size,3,none⟩=some (.int .u64 Y.client):=zcr WF _ 3 _ 28 (0,0) HBK.out
 have f4:WF.cell? ⟨w.heap.size,4,none⟩=some (.int .u64 Y.seq):=zcr WF _ 4 _ 28 (0,0) HBK.out
 have f5:WF.cell? ⟨w.heap.size,5,none⟩=some (.int .u64 Y.block):=zcr WF _ 5 _ 28 (0,0) HBK.out
 have f6:WF.cell? ⟨w.heap.size,6,none⟩=some (.int .u64 Y.many):=zcr WF _ 6 _ 28 (0,0) HBK.out
 have f7:WF.cell? ⟨w.heap.size,7,none⟩=some (.int .i64 Y.node):=zcr WF _ 7 _ 28 (0,0) HBK.out
 have f8:WF.cell? ⟨w.heap.size,8,none⟩=some (.int .i64 Y.level):=zcr WF _ 8 _ 28 (0,0) HBK.out
 have f9:WF.cell? ⟨w.heap.size,9,none⟩=some (.string Y.data):=zcr WF _ 9 _ 28 (0,0) HBK.out
 have f10:WF.cell? ⟨w.heap.size,10,none⟩=some (.string Y.old):=zcr WF _ 10 _ 28 (0,0) HBK.out
 exact bodyPost_ret (v:=.tuple #[ev Y,.int .i64 v,.bool o]) (by simp [results,Tryz.results120,go_sem,f0,f1,f2,f3,f4,f5,f6,f7,f8,f9,f10]) rfl ⟨rfl,HBF.out⟩
end Go.Proofs.YtnobeoppffoomaaGreat
namespace Go.Proofs.YtnobeoppffoomaaGreat.D
open Go.RowKit
open Vi
theorem u_cases (s:ByteArray):(uO s=false∧uV s=0∧uB s=⟨#[]⟩)∨(uO s=true∧(uV s=1∨uV s=2)∧(uB s).size≤1048576):=by
 cases h:uO s with
 | false=>exact .inl ⟨rfl,by unfold uV;rw [h];rfl,by unfold uB;rw [h];rfl⟩
 | true =>
   have h1:nOk s=true:=by
    have h2:=h
    unfold uO at h2
    rw [Bool.and_eq_true] at h2
    exact h2.1
   have hk:=(nOk_sound h1).1
   obtain ⟨e1,e2,e3⟩:=nx_yes h1
   refine .inr ⟨rfl,?_,?_⟩
   ·have hv:uV s=nV s:=by unfold uV;rw [if_pos h];exact e1
    rw [hv]
    unfold pkO at hk
    simp only [Bool.and_eq_true,Bool.or_eq_true,decide_eq_true_eq] at hk
    exact hk.1
   ·have hb:uB s=nBd s:=by unfold uB;rw [if_pos h];exact e2
    rw [hb]
    unfold pkO at hk
    simp only [Bool.and_eq_true,Bool.or_eq_true,decide_eq_true_eq] at hk
    exact hk.2
def aX (s:ByteArray):En:=if uV s=2 then gE (uB s) false else getE (uB s)
def aT (s:ByteArray):ByteArray:=if uV s=2 then gT (uB s) false else getT (uB s)
def aB (s:ByteArray):Bool:=if uV s=2 then !gO (uB s) false else !getO (uB s)
def aO (s:ByteArray):Bool:=rgO s (aB s) (aT s)
theorem first_get (g:Nat) (u:ByteArray) (w:World) (h:Rd 225 g u false w) (hm:u.size≤281474976710656) :
 Calls Tryz.prog 164 #[.pointer (some ⟨g,0,none⟩)] w fun q w'=>q=.returned (ev (getE u))∧Rd 225 g (getT u) (!getO u) w'∧w.grownBy w' (some g):=by
 have hg:=get_any g u false w h hm
 have q1:getE' u false=getE u:=by unfold getE';rw [if_neg (by decide)]
 have q2:getT' u false=getT u:=by unfold getT';rw [if_neg (by decide)]
 rw [q1,q2,Bool.false_or] at hg
 exact hg
theorem first_rget (g:Nat) (u:ByteArray) (w:World) (h:Rd 145 g u false w) (hm:u.size≤281474976710656) :
 Calls Tryz.prog 94 #[.pointer (some ⟨g,0,none⟩)] w fun q w'=>q=.returned (ev (getE u))∧Rd 145 g (getT u) (!getO u) w'∧w.grownBy w' (some g):=by
 have hg:=rget_any g u false w h (fun e=>by cases e) hm
 rw [Bool.false_or] at hg
 exact hg
theorem aGetE (s:ByteArray) (w:World) (hs:s.size≤140737488351232) :
 Calls Tryz.prog 120 #[.string s] w fun q w'=>q=.returned (.tuple #[ev (if aO s then aX s else ezz),.int .i64 (if aO s then uV s else 0),.bool (aO s)])∧Below w.heap.size w w':=by
 have hr:aO s=(uO s&&whO (aB s) (aT s)):=rfl
 rcases u_cases s with ⟨h1,h2,h3⟩|⟨h1,h2|h2,h3⟩
 ·rw [hr,h1,Bool.false_and]
  exact fGetE_any s ezz 0 false w fun g a1 a2 W _ _ _=>fgetE0_any s g W hs h1
 ·have hn:¬ uV s=2:=by omega
  have x1:aX s=getE (uB s):=if_neg hn
  have x2:aT s=getT (uB s):=if_neg hn
  have x3:aB s=!getO (uB s):=if_neg hn
  rw [hr,h1,Bool.true_and,h2]
  refine fGetE_any s _ _ _ w fun g a1 a2 W hm k1 k2=>?_
  have key:=fgetE1_any s g a1 a2 (aX s) (aT s) (aB s) W hm k1 hs h1 h2 (fun g' W' hR=>by rw [x1,x2,x3];exact first_get g' (uB s) W' hR (by omega))
  exact key
 ·have x1:aX s=gE (uB s) false:=if_pos h2
  have x2:aT s=gT (uB s) false:=if_pos h2
  have x3:aB s=!gO (uB s) false:=if_pos h2
  rw [hr,h1,Bool.true_and,h2]
  refine fGetE_any s _ _ _ w fun g a1 a2 W hm k1 k2=>?_
  have key:=fgetE2_any s g a1 a2 (aX s) (aT s) (aB s) W hm k2 hs h1 h2 (fun g' W' hR=>by rw [x1,x2,x3];exact getE_any g' (uB s) false W' hR (by omega))
  exact key
theorem aRGetE (s:ByteArray) (w:World) (hs:s.size≤140737488351232) :
 Calls Tryz.prog 46 #[.string s] w fun q w'=>q=.returned (.tuple #[ev (if aO s then aX s else ezz),.int .i64 (if aO s then uV s else 0),.bool (aO s)])∧Below w.heap.size w w':=by
 have hb:(uB s).size≤1048576:=by
  rcases u_cases s with ⟨h1,h2,h3⟩|⟨h1,h2,h3⟩
  ·rw [h3];decide
  ·exact h3
 by_cases h2:uV s=2
 ·have x1:aX s=gE (uB s) false:=if_pos h2
  have x2:aT s=gT (uB s) false:=if_pos h2
  have x3:aB s=!gO (uB s) false:=if_pos h2
  have key:=rGetE2_any s (aX s) (aT s) (aB s) w hs h2 (fun g' W' hR=>by rw [x1,x2,x3];exact rgetE_any g' (uB s) false W' hR (by omega) (fun e=>by cases e) (eR_ok (uB s) false (by omega)))
  exact key
 ·have x1:aX s=getE (uB s):=if_neg h2
  have x2:aT s=getT (uB s):=if_neg h2
  have x3:aB s=!getO (uB s):=if_neg h2
  have key:=rGetE1_any s (aX s) (aT s) (aB s) w hs h2 (fun g' W' hR=>by rw [x1,x2,x3];exact first_rget g' (uB s) W' hR (by omega))
  exact key
end Go.Proofs.YtnobeoppffoomaaGreat.D
namespace Go.Proofs.YtnobeoppffoomaaGreat
open Go.RowKit
open Vi
def frP (v:Int) (o:Bool) (P:ByteArray):ByteArray:=if o then pack v P else ⟨#[]⟩
theorem fputE1_any (e:En) (g:Nat) (P:ByteArray) (o:Bool) (w:World) (hm:w.heap[g]?=some (.map (two (fv 78) (fv 79)) 2)) (hK:∀ W,Below w.heap.size w W→Calls Tryz.prog 78 #[ev e] W fun q w'=>q=.returned (.tuple #[.string P,.bool o])∧Below W.heap.size W w') (hP:P.size≤1048576) :
 Calls Tryz.prog 77 #[.map (some g),.int .i64 1,ev e] w fun q w'=>q=.returned (.tuple #[.string (frP 1 o P),.bool o])∧Below w.heap.size w w':=by
 have b0:Below w.heap.size w (w.alloc (Obj.cells (ec e) 28)):=(Below.refl _ _).alloc (Nat.le_refl _) _
 have m0:(w.alloc (Obj.cells (ec e) 28)).heap[g]?=some (.map (two (fv 78) (fv 79)) 2):=(Lib.alloc_old _ _ _ (zgx hm)).trans hm
 have hl:=look_step (T:=134) 1 (fv 78) Tryz.underlying134 m0 (two_1 _ _)
 have K:=zh (hK _ b0)
 have KP:=zh (fun (W:World)=>packK_any 1 P W (.inl rfl) hP)
 have HB:=zh b0
 clear hK hP b0 m0 hm
 cases o with
 | false =>
   go_enter Tryz.func77,Tryz.ntmps77
   go_wp2_with fail
   refine K.out.mono ?_
   rintro q w1 ⟨rfl,b1⟩
   go_wp2
   go_ret2
   exact ⟨rfl,HB.out.trans (b1.mono HB.out.size)⟩
 | true =>
   go_enter Tryz.func77,Tryz.ntmps77
   go_wp2_with fail
   refine K.out.mono ?_
   rintro q w1 ⟨rfl,b1⟩
   have HB1:=zh (HB.out.trans (b1.mono HB.out.size))
   clear b1 hl
   go_wp2_with fail
   refine (KP.out _).mono ?_
   rintro q w2 ⟨rfl,b2⟩
   go_wp2
   go_ret2
   exact ⟨rfl,HB1.out.trans (b2.mono HB1.out.size)⟩
theorem fPutE1_any (e:En) (P:ByteArray) (o:Bool) (w:World) (hK:∀ W,Below w.heap.size w W→Calls Tryz.prog 78 #[ev e] W fun q w'=>q=.returned (.tuple #[.string P,.bool o])∧Below W.heap.size W w') (hP:P.size≤1048576) :
 Calls Tryz.prog 36 #[.int .i64 1,ev e] w fun q w'=>q=.returned (.tuple #[.string (frP 1 o P),.bool o])∧Below w.heap.size w w':=by
 have hmm:=@run_makeMap Tryz.prog
 have b0:Below w.heap.size w (w.alloc (Obj.cells (ec e) 28)):=(Below.refl _ _).alloc (Nat.le_refl _) _
 have k0:(w.alloc (Obj.cells (ec e) 28)).heap[w.heap.size]?=some (.cells (ec e) 28 (0,0)):=heap_alloc_new w _
 have z0:(w.alloc (Obj.cells (ec e) 28)).heap.size=w.heap.size+1:=by simp
 have bm:=b0.alloc (by omega) (.map #[] 0)
 obtain ⟨w1,e1,h1,b1,o1,s1⟩:=ins_step (T:=134) 1 (fv 78) Tryz.underlying134 (heap_alloc_new (w.alloc (Obj.cells (ec e) 28)) (.map #[] 0)) rfl bm (by omega)
 obtain ⟨w2,e2,h2,b2,o2,s2⟩:=ins_step (T:=134) 2 (fv 79) Tryz.underlying134 h1 rfl b1 (by omega)
 have k2:w2.heap[w.heap.size]?=some (.cells (ec e) 28 (0,0)):=(o2 _ (by omega)).trans ((o1 _ (by omega)).trans ((Lib.alloc_old _ _ _ (by omega)).trans k0))
 rw [z0] at e1 e2
 have H2:Hid (w2.heap[w.heap.size+1]?=some (.map (two (fv 78) (fv 79)) 2)):=by show _=_;rw [←z0];exact h2
 have B2:=zh b2
 have hsz:w2.heap.size=w.heap.size+2:=by rw [s2,s1];simp
 have K:=zh (fputE1_any e (w.heap.size+1) P o w2 H2.out (fun W hW=>hK W (b2.trans (hW.mono (by omega)))) hP)
 have c0:w2.cell? ⟨w.heap.size,0,none⟩=some (.int .u64 e.term):=zcr w2 _ 0 _ 28 (0,0) k2
 have c1:w2.cell? ⟨w.heap.size,1,none⟩=some (.int .u64 e.index):=zcr w2 _ 1 _ 28 (0,0) k2
 have c2:w2.cell? ⟨w.heap.size,2,none⟩=some (.int .i64 e.kind):=zcr w2 _ 2 _ 28 (0,0) k2
 have c3:w2.cell? ⟨w.heap.size,3,none⟩=some (.int .u64 e.client):=zcr w2 _ 3 _ 28 (0,0) k2
 have c4:w2.cell? ⟨w.heap.size,4,none⟩=some (.int .u64 e.seq):=zcr w2 _ 4 _ 28 (0,0) k2
 have c5:w2.cell? ⟨w.heap.size,5,none⟩=some (.int .u64 e.block):=zcr w2 _ 5 _ 28 (0,0) k2
 have c6:w2.cell? ⟨w.heap.size,6,none⟩=some (.int .u64 e.many):=zcr w2 _ 6 _ 28 (0,0) k2
 have c7:w2.cell? ⟨w.heap.size,7,none⟩=some (.int .i64 e.node):=zcr w2 _ 7 _ 28 (0,0) k2
 have c8:w2.cell? ⟨w.heap.size,8,none⟩=some (.int .i64 e.level):=zcr w2 _ 8 _ 28 (0,0) k2
 have c9:w2.cell? ⟨w.heap.size,9,none⟩=some (.string e.data):=zcr w2 _ 9 _ 28 (0,0) k2
 have c10:w2.cell? ⟨w.heap.size,10,none⟩=some (.string e.old):=zcr w2 _ 10 _ 28 (0,0) k2
 have HS:=zh hsz
 clear h1 h2 b1 b2 o1 o2 s1 s2 k0 k2 bm hK hP hsz b0
 go_enter Tryz.func36,Tryz.ntmps36
 go_wp2_with fail
 refine K.out.mono ?_
 rintro q w3 ⟨rfl,b3⟩
 go_wp2
 go_ret2
 exact ⟨rfl,B2.out.trans (b3.mono B2.out.size)⟩
theorem fputE2_any (e:En) (g:Nat) (P:ByteArray) (o:Bool) (w:World) (hm:w.heap[g]?=some (.map (two (fv 78) (fv 79)) 2)) (hK:∀ W,Below w.heap.size w W→Calls Tryz.prog 79 #[ev e] W fun q w'=>q=.returned (.tuple #[.string P,.bool o])∧Below W.heap.size W w') (hP:P.size≤1048576) :
 Calls Tryz.prog 77 #[.map (some g),.int .i64 2,ev e] w fun q w'=>q=.returned (.tuple #[.string (frP 2 o P),.bool o])∧Below w.heap.size w w':=by
 have b0:Below w.heap.size w (w.alloc (Obj.cells (ec e) 28)):=(Below.refl _ _).alloc (Nat.le_refl _) _
 have m0:(w.alloc (Obj.cells (ec e) 28)).heap[g]?=some (.map (two (fv 78) (fv 79)) 2):=(Lib.alloc_old _ _ _ (zgx hm)).trans hm
 have hl:=look_step (T:=134) 2 (fv 79) Tryz.underlying134 m0 (two_2 _ _)
 have K:=zh (hK _ b0)
 have KP:=zh (fun (W:World)=>packK_any 2 P W (.inr rfl) hP)
 have HB:=zh b0
 clear hK hP b0 m0 hm
 cases o with
 | false =>
   go_enter Tryz.func77,Tryz.ntmps77
   go_wp2_with fail
   refine K.out.mono ?_
   rintro q w1 ⟨rfl,b1⟩
   go_wp2
   go_ret2
   exact ⟨rfl,HB.out.trans (b1.mono HB.out.size)⟩
 | true =>
   go_enter Tryz.func77,Tryz.ntmps77
   go_wp2_with fail
   refine K.out.mono ?_
   rintro q w1 ⟨rfl,b1⟩
   have HB1:=zh (HB.out.trans (b1.mono HB.out.size))
   clear b1 hl
   go_wp2_with fail
   refine (KP.out _).mono ?_
   rintro q w2 ⟨rfl,b2⟩
   go_wp2
   go_ret2
   exact ⟨rfl,HB1.out.trans (b2.mono HB1.out.size)⟩
theorem fPutE2_any (e:En) (P:ByteArray) (o:Bool) (w:World) (hK:∀ W,Below w.heap.size w W→Calls Tryz.prog 79 #[ev e] W fun q w'=>q=.returned (.tuple #[.string P,.bool o])∧Below W.heap.size W w') (hP:P.size≤1048576) :
 Calls Tryz.prog 36 #[.int .i64 2,ev e] w fun q w'=>q=.returned (.tuple #[.string (frP 2 o P),.bool o])∧Below w.heap.size w w':=by
 have hmm:=@run_makeMap Tryz.prog
 have b0:Below w.heap.size w (w.alloc (Obj.cells (ec e) 28)):=(Below.refl _ _).alloc (Nat.le_refl _) _
 have k0:(w.alloc (Obj.cells (ec e) 28)).heap[w.heap.size]?=some (.cells (ec e) 28 (0,0)):=heap_alloc_new w _
 have z0:(w.alloc (Obj.cells (ec e) 28)).heap.size=w.heap.size+1:=by simp
 have bm:=b0.alloc (by omega) (.map #[] 0)
 obtain ⟨w1,e1,h1,b1,o1,s1⟩:=ins_step (T:=134) 1 (fv 78) Tryz.underlying134 (heap_alloc_new (w.alloc (Obj.cells (ec e) 28)) (.map #[] 0)) rfl bm (by omega)
 obtain ⟨w2,e2,h2,b2,o2,s2⟩:=ins_step (T:=134) 2 (fv 79) Tryz.underlying134 h1 rfl b1 (by omega)
 have k2:w2.heap[w.heap.size]?=some (.cells (ec e) 28 (0,0)):=(o2 _ (by omega)).trans ((o1 _ (by omega)).trans ((Lib.alloc_old _ _ _ (by omega)).trans k0))
 rw [z0] at e1 e2
 have H2:Hid (w2.heap[w.heap.size+1]?=some (.map (two (fv 78) (fv 79)) 2)):=by show _=_;rw [←z0];exact h2
 have B2:=zh b2
 have hsz:w2.heap.size=w.heap.size+2:=by rw [s2,s1];simp
 have K:=zh (fputE2_any e (w.heap.size+1) P o w2 H2.out (fun W hW=>hK W (b2.trans (hW.mono (by omega)))) hP)
 have c0:w2.cell? ⟨w.heap.size,0,none⟩=some (.int .u64 e.term):=zcr w2 _ 0 _ 28 (0,0) k2
 have c1:w2.cell? ⟨w.heap.size,1,none⟩=some (.int .u64 e.index):=zcr w2 _ 1 _ 28 (0,0) k2
 have c2:w2.cell? ⟨w.heap.size,2,none⟩=some (.int .i64 e.kind):=zcr w2 _ 2 _ 28 (0,0) k2
 have c3:w2.cell? ⟨w.heap.size,3,none⟩=some (.int .u64 e.client):=zcr w2 _ 3 _ 28 (0,0) k2
 have c4:w2.cell? ⟨w.heap.size,4,none⟩=some (.int .u64 e.seq):=zcr w2 _ 4 _ 28 (0,0) k2
 have c5:w2.cell? ⟨w.heap.size,5,none⟩=some (.int .u64 e.block):=zcr w2 _ 5 _ 28 (0,0) k2
 have c6:w2.cell? ⟨w.heap.size,6,none⟩=some (.int .u64 e.many):=zcr w2 _ 6 _ 28 (0,0) k2
 have c7:w2.cell? ⟨w.heap.size,7,none⟩=some (.int .i64 e.node):=zcr w2 _ 7 _ 28 (0,0) k2
 have c8:w2.cell? ⟨w.heap.size,8,none⟩=some (.int .i64 e.level):=zcr w2 _ 8 _ 28 (0,0) k2
 have c9:w2.cell? ⟨w.heap.size,9,none⟩=some (.string e.data):=zcr w2 _ 9 _ 28 (0,0) k2
 have c10:w2.cell? ⟨w.heap.size,10,none⟩=some (.string e.old):=zcr w2 _ 10 _ 28 (0,0) k2
 have HS:=zh hsz
 clear h1 h2 b1 b2 o1 o2 s1 s2 k0 k2 bm hK hP hsz b0
 go_enter Tryz.func36,Tryz.ntmps36
 go_wp2_with fail
 refine K.out.mono ?_
 rintro q w3 ⟨rfl,b3⟩
 go_wp2
 go_ret2
 exact ⟨rfl,B2.out.trans (b3.mono B2.out.size)⟩
end Go.Proofs.YtnobeoppffoomaaGreat
namespace Go.Proofs.YtnobeoppffoomaaGreat
open Go.RowKit
open Vi
theorem pkO_of {v:Int} {b:ByteArray} (hv:v=1∨v=2) (hb:b.size≤1048576):pkO v b=true:=by
 unfold pkO
 rw [decide_eq_true hb]
 rcases hv with rfl|rfl<;>rfl
theorem sbE_le {e:En} (ok:e.Ok) (h:rightB e=true):(sbE e).size≤1000:=by
 have fw:=few_of_b ok h
 have h1:=secU_le ok fw 11 (by omega)
 have h2:=putB_le 0 (by omega)
 unfold sbE secB
 rw [ByteArray.size_append]
 omega
end Go.Proofs.YtnobeoppffoomaaGreat
namespace Go.Proofs.YtnobeoppffoomaaGreat
open Go.RowKit
open Vi
theorem fputE0_any (e:En) (v:Int) (h1:v≠1) (h2:v≠2) (g:Nat) (w:World) (hm:w.heap[g]?=some (.map (two (fv 78) (fv 79)) 2)) :
 Calls Tryz.prog 77 #[.map (some g),.int .i64 v,ev e] w fun q w'=>q=.returned (.tuple #[.string ⟨#[]⟩,.bool false])∧Below w.heap.size w w':=by
 have b0:Below w.heap.size w (w.alloc (Obj.cells (ec e) 28)):=(Below.refl _ _).alloc (Nat.le_refl _) _
 have m0:(w.alloc (Obj.cells (ec e) 28)).heap[g]?=some (.map (two (fv 78) (fv 79)) 2):=(Lib.alloc_old _ _ _ (zgx hm)).trans hm
 have hl:=look_none (T:=134) v Tryz.underlying134 Tryz.zeroValue133 m0 (two_n _ _ v h1 h2)
 have HB:=zh b0
 clear b0 m0 hm h1 h2
 go_enter Tryz.func77,Tryz.ntmps77
 go_wp2
 go_ret2
 exact ⟨rfl,HB.out⟩
theorem fPutE0_any (e:En) (v:Int) (hv1:v≠1) (hv2:v≠2) (w:World) :
 Calls Tryz.prog 36 #[.int .i64 v,ev e] w fun q w'=>q=.returned (.tuple #[.string ⟨#[]⟩,.bool false])∧Below w.heap.size w w':=by
 have hmm:=@run_makeMap Tryz.prog
 have b0:Below w.heap.size w (w.alloc (Obj.cells (ec e) 28)):=(Below.refl _ _).alloc (Nat.le_refl _) _
 have k0:(w.alloc (Obj.cells (ec e) 28)).heap[w.heap.size]?=some (.cells (ec e) 28 (0,0)):=heap_alloc_new w _
 have z0:(w.alloc (Obj.cells (ec e) 28)).heap.size=w.heap.size+1:=by simp
 have bm:=b0.alloc (by omega) (.map #[] 0)
 obtain ⟨w1,e1,h1,b1,o1,s1⟩:=ins_step (T:=134) 1 (fv 78) Tryz.underlying134 (heap_alloc_new (w.alloc (Obj.cells (ec e) 28)) (.map #[] 0)) rfl bm (by omega)
 obtain ⟨w2,e2,h2,b2,o2,s2⟩:=ins_step (T:=134) 2 (fv 79) Tryz.underlying134 h1 rfl b1 (by omega)
 have k2:w2.heap[w.heap.size]?=some (.cells (ec e) 28 (0,0)):=(o2 _ (by omega)).trans ((o1 _ (by omega)).trans ((Lib.alloc_old _ _ _ (by omega)).trans k0))
 rw [z0] at e1 e2
 have H2:Hid (w2.heap[w.heap.size+1]?=some (.map (two (fv 78) (fv 79)) 2)):=by show _=_;rw [←z0];exact h2
 have B2:=zh b2
 have K:=zh (fputE0_any e v hv1 hv2 (w.heap.size+1) w2 H2.out)
 have c0:w2.cell? ⟨w.heap.size,0,none⟩=some (.int .u64 e.term):=zcr w2 _ 0 _ 28 (0,0) k2
 have c1:w2.cell? ⟨w.heap.size,1,none⟩=some (.int .u64 e.index):=zcr w2 _ 1 _ 28 (0,0) k2
 have c2:w2.cell? ⟨w.heap.size,2,none⟩=some (.int .i64 e.kind):=zcr w2 _ 2 _ 28 (0,0) k2
 have c3:w2.cell? ⟨w.heap.size,3,none⟩=some (.int .u64 e.client):=zcr w2 _ 3 _ 28 (0,0) k2
 have c4:w2.cell? ⟨w.heap.size,4,none⟩=some (.int .u64 e.seq):=zcr w2 _ 4 _ 28 (0,0) k2
 have c5:w2.cell? ⟨w.heap.size,5,none⟩=some (.int .u64 e.block):=zcr w2 _ 5 _ 28 (0,0) k2
 have c6:w2.cell? ⟨w.heap.size,6,none⟩=some (.int .u64 e.many):=zcr w2 _ 6 _ 28 (0,0) k2
 have c7:w2.cell? ⟨w.heap.size,7,none⟩=some (.int .i64 e.node):=zcr w2 _ 7 _ 28 (0,0) k2
 have c8:w2.cell? ⟨w.heap.size,8,none⟩=some (.int .i64 e.level):=zcr w2 _ 8 _ 28 (0,0) k2
 have c9:w2.cell? ⟨w.heap.size,9,none⟩=some (.string e.data):=zcr w2 _ 9 _ 28 (0,0) k2
 have c10:w2.cell? ⟨w.heap.size,10,none⟩=some (.string e.old):=zcr w2 _ 10 _ 28 (0,0) k2
 clear h1 h2 b1 b2 o1 o2 s1 s2 k0 k2 bm b0 hv1 hv2
 go_enter Tryz.func36,Tryz.ntmps36
 go_wp2_with fail
 refine K.out.mono ?_
 rintro q w3 ⟨rfl,b3⟩
 go_wp2
 go_ret2
 exact ⟨rfl,B2.out.trans (b3.mono B2.out.size)⟩
end Go.Proofs.YtnobeoppffoomaaGreat
namespace Go.Proofs.YtnobeoppffoomaaGreat
open Go.RowKit
open Vi
def rfP (v:Int) (o:Bool) (P:ByteArray):ByteArray:=if o then pkS v P else ⟨#[]⟩
theorem ecl {w:World} {b:Nat} {e:En} (h:w.heap[b]?=some (.cells (ec e) 28 (0,0))):w.cell? ⟨b,0,none⟩=some (.int .u64 e.term)∧w.cell? ⟨b,1,none⟩=some (.int .u64 e.index)∧w.cell? ⟨b,2,none⟩=some (.int .i64 e.kind)∧w.cell? ⟨b,3,none⟩=some (.int .u64 e.client)∧w.cell? ⟨b,4,none⟩=some (.int .u64 e.seq)∧w.cell? ⟨b,5,none⟩=some (.int .u64 e.block)∧w.cell? ⟨b,6,none⟩=some (.int .u64 e.many)∧w.cell? ⟨b,7,none⟩=some (.int .i64 e.node)∧w.cell? ⟨b,8,none⟩=some (.int .i64 e.level)∧w.cell? ⟨b,9,none⟩=some (.string e.data)∧w.cell? ⟨b,10,none⟩=some (.string e.old):=⟨zcr w _ 0 _ 28 (0,0) h,zcr w _ 1 _ 28 (0,0) h,zcr w _ 2 _ 28 (0,0) h,zcr w _ 3 _ 28 (0,0) h,zcr w _ 4 _ 28 (0,0) h,zcr w _ 5 _ 28 (0,0) h,zcr w _ 6 _ 28 (0,0) h,zcr w _ 7 _ 28 (0,0) h,zcr w _ 8 _ 28 (0,0) h,zcr w _ 9 _ 28 (0,0) h,zcr w _ 10 _ 28 (0,0) h⟩
theorem rPutE1_any (e:En) (v:Int) (hv:v≠2) (P1:ByteArray) (o1:Bool) (w:World) (hK1:∀ W,Below w.heap.size w W→Calls Tryz.prog 83 #[ev e] W fun q w'=>q=.returned (.tuple #[.string P1,.bool o1])∧Below W.heap.size W w') :
 Calls Tryz.prog 42 #[.int .i64 v,ev e] w fun q w'=>q=.returned (.tuple #[.string (rfP v o1 P1),.bool (o1&&pkO v P1)])∧Below w.heap.size w w':=by
 obtain ⟨W0,hW0⟩:∃ W0,W0=w.alloc (Obj.cells (ec e) 28):=⟨_,rfl⟩
 have b0:Below w.heap.size w W0:=by rw [hW0];exact (Below.refl _ _).alloc (Nat.le_refl _) _
 have k0:W0.heap[w.heap.size]?=some (.cells (ec e) 28 (0,0)):=by rw [hW0];exact heap_alloc_new w _
 obtain ⟨c0,c1,c2,c3,c4,c5,c6,c7,c8,c9,c10⟩:=ecl k0
 have K1:=zh hK1
 have KP:=zh (fun (W:World)=>rpack_any v P1 W)
 obtain ⟨R,hR⟩:∃ R,R=pkS v P1:=⟨_,rfl⟩
 obtain ⟨s,hs⟩:∃ s,s=pkO v P1:=⟨_,rfl⟩
 rw [←hR,←hs] at KP
 have HRS:Hid (rfP v true P1=R):=hR.symm
 have HRF:Hid (rfP v false P1=⟨#[]⟩):=rfl
 rw [←hs]
 clear hR hs
 have HW0:=zh hW0
 have HB0:=zh b0
 have hv2:(v==2)=false:=by simpa using hv
 clear hW0 b0 k0 hK1
 go_enter Tryz.func42,Tryz.ntmps42
 go_wp2_with fail
 rw [←HW0.out]
 refine (K1.out W0 HB0.out).mono ?_
 rintro q w1 ⟨rfl,b1⟩
 have HB1:Hid (Below w.heap.size w w1):=HB0.out.trans (b1.mono HB0.out.size)
 clear b1 c0 c1 c2 c3 c4 c5 c6 c7 c8 c9 c10
 cases o1 with
 | false =>
   go_wp2
   go_ret2
   exact ⟨by rw [HRF.out];rfl,HB1.out⟩
 | true =>
   go_wp2_with fail
   refine (KP.out _).mono ?_
   rintro q w3 ⟨rfl,b3⟩
   go_wp2
   go_ret2
   exact ⟨by rw [HRS.out];rfl,HB1.out.trans (b3.mono HB1.out.size)⟩
theorem rPutE2_any (e:En) (P1 P2:ByteArray) (o1 o2:Bool) (w:World) (hK1:∀ W,Below w.heap.size w W→Calls Tryz.prog 83 #[ev e] W fun q w'=>q=.returned (.tuple #[.string P1,.bool o1])∧Below W.heap.size W w') (hK2:∀ W,Below w.heap.size w W→Calls Tryz.prog 84 #[ev e] W fun q w'=>q=.returned (.tuple #[.string P2,.bool o2])∧Below W.heap.size W w') :
 Calls Tryz.prog 42 #[.int .i64 2,ev e] w fun q w'=>q=.returned (.tuple #[.string (rfP 2 o2 P2),.bool (o2&&pkO 2 P2)])∧Below w.heap.size w w':=by
 obtain ⟨W0,hW0⟩:∃ W0,W0=w.alloc (Obj.cells (ec e) 28):=⟨_,rfl⟩
 have b0:Below w.heap.size w W0:=by rw [hW0];exact (Below.refl _ _).alloc (Nat.le_refl _) _
 have k0:W0.heap[w.heap.size]?=some (.cells (ec e) 28 (0,0)):=by rw [hW0];exact heap_alloc_new w _
 obtain ⟨c0,c1,c2,c3,c4,c5,c6,c7,c8,c9,c10⟩:=ecl k0
 have K1:=zh hK1
 have K2:=zh hK2
 have KP:=zh (fun (W:World)=>rpack_any 2 P2 W)
 obtain ⟨R,hR⟩:∃ R,R=pkS 2 P2:=⟨_,rfl⟩
 obtain ⟨s,hs⟩:∃ s,s=pkO 2 P2:=⟨_,rfl⟩
 rw [←hR,←hs] at KP
 have HRS:Hid (rfP 2 true P2=R):=hR.symm
 have HRF:Hid (rfP 2 false P2=⟨#[]⟩):=rfl
 rw [←hs]
 clear hR hs
 have HW0:=zh hW0
 have HB0:=zh b0
 have HK0:=zh k0
 clear hW0 b0 k0 hK1 hK2
 go_enter Tryz.func42,Tryz.ntmps42
 go_wp2_with fail
 rw [←HW0.out]
 refine (K1.out W0 HB0.out).mono ?_
 rintro q w1 ⟨rfl,b1⟩
 have HB1:Hid (Below w.heap.size w w1):=HB0.out.trans (b1.mono HB0.out.size)
 have k1:w1.heap[w.heap.size]?=some (.cells (ec e) 28 (0,0)):=(b1.block _ (zgx HK0.out)).trans HK0.out
 clear b1 c0 c1 c2 c3 c4 c5 c6 c7 c8 c9 c10
 obtain ⟨c0,c1,c2,c3,c4,c5,c6,c7,c8,c9,c10⟩:=ecl k1
 clear k1
 go_wp2_with fail
 refine (K2.out w1 HB1.out).mono ?_
 rintro q w2 ⟨rfl,b2⟩
 have HB2:Hid (Below w.heap.size w w2):=HB1.out.trans (b2.mono HB1.out.size)
 clear b2 c0 c1 c2 c3 c4 c5 c6 c7 c8 c9 c10
 cases o2 with
 | false =>
   go_wp2
   go_ret2
   exact ⟨by rw [HRF.out];rfl,HB2.out⟩
 | true =>
   go_wp2_with fail
   refine (KP.out _).mono ?_
   rintro q w3 ⟨rfl,b3⟩
   go_wp2
   go_ret2
   exact ⟨by rw [HRS.out];rfl,HB2.out.trans (b3.mono HB2.out.size)⟩
end Go.Proofs.YtnobeoppffoomaaGreat
namespace Go.Proofs.YtnobeoppffoomaaGreat.D
open Go.RowKit
open Vi
def hL:Nat→List En→ByteArray→Bool→List En×ByteArray×Bool
 | 0,l,s,b=>(l,s,b)
 | n+1,l,s,b=>if b=true then (l,s,b) else hL n (l++[gE s false]) (gT s false) (!gO s false)
end Go.Proofs.YtnobeoppffoomaaGreat.D
namespace Go.Proofs.YtnobeoppffoomaaGreat.D
open Go.RowKit
open Vi
theorem sbE_le {X:En} (ok:X.Ok) (fw:Few_b X):(sbE X).size≤1000:=by
 have h:=secU_le ok fw 11 (Nat.le_refl _)
 show (secU eF X 11++putB 0).size≤1000
 rw [ByteArray.size_append]
 have:=putB_le 0 (by omega)
 omega
section
variable {w0 w w1:World} {fb B n:Nat} {A:Option Addr} {es:List En} {x y:ByteArray}
end
end Go.Proofs.YtnobeoppffoomaaGreat.D
namespace Go.Proofs.YtnobeoppffoomaaGreat.D
open Go.RowKit
open Vi
def ePv (v:Int) (e:En):ByteArray:=if v=2 then putS_b e else putS e
def eOv (v:Int) (e:En):Bool:=if v=2 then rightB e else mayB e
theorem rfP_12 {v:Int} {o:Bool} {P:ByteArray} (hv:v=1∨v=2) (h:P.size≤1048576):frP v o P=rfP v o P∧(o&&pkO v P)=o:=by
 have hk:=pkO_of hv h
 unfold frP rfP pkS
 rw [if_pos hk,hk]
 exact ⟨rfl,by cases o<;>rfl⟩
theorem rfP_0 {v:Int} {o:Bool} {P:ByteArray} (h1:v≠1) (h2:v≠2):rfP v o P=⟨#[]⟩∧(o&&pkO v P)=false:=by
 have hk:pkO v P=false:=by unfold pkO;rw [decide_eq_false h1,decide_eq_false h2];rfl
 unfold rfP pkS
 rw [hk]
 exact ⟨by cases o<;>rfl,by cases o<;>rfl⟩
theorem putS_leA (e:En) (ok:e.Ok):(putS e).size≤1048576:=by
 unfold putS
 split
 ·rename_i h
  rw [pb_size (few_of ok (mayB_right h))];omega
 ·exact Nat.zero_le _
theorem putSb_le (e:En) (ok:e.Ok):(putS_b e).size≤1048576:=by
 unfold putS_b
 split
 ·rename_i h
  exact Nat.le_trans (Go.Proofs.YtnobeoppffoomaaGreat.sbE_le ok h) (by omega)
 ·exact Nat.zero_le _
theorem aPutE (v:Int) (e:En) (w:World) (ok:e.Ok) :
 Calls Tryz.prog 36 #[.int .i64 v,ev e] w fun q w'=>q=.returned (.tuple #[.string (rfP v (eOv v e) (ePv v e)),.bool (eOv v e&&pkO v (ePv v e))])∧Below w.heap.size w w':=by
 by_cases h2:v=2
 ·subst h2
  have e1:ePv 2 e=putS_b e:=if_pos rfl
  have e2:eOv 2 e=rightB e:=if_pos rfl
  obtain ⟨r1,r2⟩:=rfP_12 (o:=rightB e) (.inr rfl) (putSb_le e ok)
  rw [e1,e2,←r1,r2]
  exact fPutE2_any e (putS_b e) (rightB e) w (fun W _=>putE_any e W ok) (putSb_le e ok)
 ·have e1:ePv v e=putS e:=if_neg h2
  have e2:eOv v e=mayB e:=if_neg h2
  rw [e1,e2]
  by_cases h1:v=1
  ·subst h1
   obtain ⟨r1,r2⟩:=rfP_12 (o:=mayB e) (.inl rfl) (putS_leA e ok)
   rw [←r1,r2]
   exact fPutE1_any e (putS e) (mayB e) w (fun W _=>put_any5 e W ok) (putS_leA e ok)
  ·obtain ⟨r1,r2⟩:=rfP_0 (o:=mayB e) (P:=putS e) h1 h2
   rw [r1,r2]
   exact fPutE0_any e v h1 h2 w
theorem aRPutE (v:Int) (e:En) (w:World) (ok:e.Ok) :
 Calls Tryz.prog 42 #[.int .i64 v,ev e] w fun q w'=>q=.returned (.tuple #[.string (rfP v (eOv v e) (ePv v e)),.bool (eOv v e&&pkO v (ePv v e))])∧Below w.heap.size w w':=by
 by_cases h2:v=2
 ·subst h2
  have e1:ePv 2 e=putS_b e:=if_pos rfl
  have e2:eOv 2 e=rightB e:=if_pos rfl
  rw [e1,e2]
  exact rPutE2_any e (putS e) (putS_b e) (mayB e) (rightB e) w (fun W _=>rput_any5 e W ok) (fun W _=>rputE_any e W ok)
 ·have e1:ePv v e=putS e:=if_neg h2
  have e2:eOv v e=mayB e:=if_neg h2
  rw [e1,e2]
  exact rPutE1_any e v h2 (putS e) (mayB e) w (fun W _=>rput_any5 e W ok)
end Go.Proofs.YtnobeoppffoomaaGreat.D
namespace Go.Proofs.YtnobeoppffoomaaGreat
open Go.RowKit
open Vi
theorem app_nil (s:ByteArray):s++(⟨#[]⟩:ByteArray)=s:=by apply ByteArray.ext;simp
theorem nx_pack {v:Int} {b:ByteArray} (h:pkO v b=true) (t:ByteArray):nOk (pack v b++t)=true∧nxV (pack v b++t)=v∧nxB (pack v b++t)=b∧nxN (pack v b++t)=(pack v b).size:=by
 obtain ⟨h1,h2,h3,h4⟩:=nOk_pack h t
 obtain ⟨e1,e2,e3⟩:=nx_yes h1
 refine ⟨h1,e1.trans h2,e2.trans h3,e3.trans ?_⟩
 rw [h4,ByteArray.size_append]
 omega
theorem u_pack {v:Int} {b:ByteArray} (h:pkO v b=true):uO (pack v b)=true∧uV (pack v b)=v∧uB (pack v b)=b:=by
 have k:=nx_pack h ⟨#[]⟩
 rw [app_nil] at k
 obtain ⟨h1,h2,h3,h4⟩:=k
 have ho:uO (pack v b)=true:=by unfold uO;rw [h1,h4,decide_eq_true rfl];rfl
 unfold uV uB
 rw [ho]
 exact ⟨rfl,h2,h3⟩
theorem fN_put (v:Int) (k:Nat) (kk:Int) (hkk:kk=(k:Int)) (hk:k≤8) (h0:0≤v) (h1:v.toNat<256 ^ k) (t:ByteArray) :
 ((fixV (fN v kk++t) kk:Nat):Int)=v∧fixT (fN v kk++t) kk=t:=by
 subst hkk
 have h:=fix_put v.toNat k hk t
 refine ⟨?_,h.2.1⟩
 unfold fN
 rw [h.1,Nat.mod_eq_of_lt h1]
 omega
theorem no_old:∀ k:Int,0≤k→k≤10→hasL (fl k) 111=false:=by
 intro k h0 h1
 have:k=0∨k=1∨k=2∨k=3∨k=4∨k=5∨k=6∨k=7∨k=8∨k=9∨k=10:=by omega
 rcases this with rfl|rfl|rfl|rfl|rfl|rfl|rfl|rfl|rfl|rfl|rfl<;>decide +kernel
theorem may_old {X:En} (ok:X.Ok) (h:mayB X=true):X.old=⟨#[]⟩:=by
 have hr:=mayB_right h
 have A:=(asked_iff X ok).1 hr
 have f:0≤X.kind∧X.kind≤11:=of_decide_eq_true A.f
 have h11:X.kind≠11:=by
  intro e
  unfold mayB lvl at h
  rw [if_pos e] at h
  simp at h
 have hz:=A.o0 (no_old X.kind f.1 (by omega))
 exact ByteArray.ext (Array.eq_empty_of_size_eq_zero (show X.old.size=0 by omega))
theorem pb_right (X:En) (r:ByteArray):pb X++r=fN X.kind 1++(fN X.term 8++(fN X.index 8++(fN X.client 8++(fN X.seq 8++(fN X.block 4++(fN X.many 4++(fN X.node 1++(fN X.level 1++(fN X.data.size 1++(X.data++(zer (66-X.data.size)++r))))))))))):=by
 unfold pb
 simp only [append_assoc3]
theorem byt_put5 (a t:ByteArray) (n:Int) (hn:n=(a.size:Int)):bytV (a++t) n=a∧bytT (a++t) n=t:=by
 subst hn
 have h:=byt_yes (a++t) a.size (by rw [ByteArray.size_append];omega)
 refine ⟨h.1.trans (extract_left a t),h.2.1.trans ?_⟩
 unfold sk
 exact extract_right a t
theorem got_put {X:En} (ok:X.Ok) (h:mayB X=true) (r:ByteArray):getO (pb X++r)=true∧getE (pb X++r)=X∧getT (pb X++r)=r:=by
 have fw:=few_of ok (mayB_right h)
 have hold:=may_old ok h
 have hps:=pb_size fw
 have hd:=fw.d
 have p1:(256:Nat) ^ 1=256:=by decide
 have p4:(256:Nat) ^ 4=4294967296:=by decide
 have p8:(256:Nat) ^ 8=18446744073709551616:=by decide
 have x1:=ok.t0
 have x2:=ok.t1
 have x3:=ok.i0
 have x4:=ok.i1
 have x5:=ok.c0
 have x6:=ok.c1
 have x7:=ok.s0
 have x8:=ok.s1
 have x9:=ok.b0
 have x10:=ok.m0
 have y1:=fw.k0
 have y2:=fw.k1
 have y3:=fw.n0
 have y4:=fw.n1
 have y5:=fw.l0
 have y6:=fw.l1
 have y7:=fw.b
 have y8:=fw.m
 obtain ⟨s,hs⟩:∃ s,s=pb X++r:=⟨_,rfl⟩
 have hsz:110≤s.size:=by rw [hs,ByteArray.size_append,hps];omega
 rw [←hs]
 have e:=pb_right X r
 rw [←hs] at e
 have f0:=fN_put X.kind 1 1 rfl (by omega) y1 (by rw [p1];omega)
 have f1:=fN_put X.term 8 8 rfl (by omega) x1 (by rw [p8];omega)
 have f2:=fN_put X.index 8 8 rfl (by omega) x3 (by rw [p8];omega)
 have f3:=fN_put X.client 8 8 rfl (by omega) x5 (by rw [p8];omega)
 have f4:=fN_put X.seq 8 8 rfl (by omega) x7 (by rw [p8];omega)
 have f5:=fN_put X.block 4 4 rfl (by omega) x9 (by rw [p4];omega)
 have f6:=fN_put X.many 4 4 rfl (by omega) x10 (by rw [p4];omega)
 have f7:=fN_put X.node 1 1 rfl (by omega) y3 (by rw [p1];omega)
 have f8:=fN_put X.level 1 1 rfl (by omega) y5 (by rw [p1];omega)
 have f9:=fN_put (X.data.size:Int) 1 1 rfl (by omega) (by omega) (by rw [p1];omega)
 have u1:t1 s=fN X.term 8++(fN X.index 8++(fN X.client 8++(fN X.seq 8++(fN X.block 4++(fN X.many 4++(fN X.node 1++(fN X.level 1++(fN X.data.size 1++(X.data++(zer (66-X.data.size)++r)))))))))):=by unfold t1;rw [e];exact (f0 _).2
 have u2:t2 s=fN X.index 8++(fN X.client 8++(fN X.seq 8++(fN X.block 4++(fN X.many 4++(fN X.node 1++(fN X.level 1++(fN X.data.size 1++(X.data++(zer (66-X.data.size)++r))))))))):=by unfold t2;rw [u1];exact (f1 _).2
 have u3:t3 s=fN X.client 8++(fN X.seq 8++(fN X.block 4++(fN X.many 4++(fN X.node 1++(fN X.level 1++(fN X.data.size 1++(X.data++(zer (66-X.data.size)++r)))))))):=by unfold t3;rw [u2];exact (f2 _).2
 have u4:t4 s=fN X.seq 8++(fN X.block 4++(fN X.many 4++(fN X.node 1++(fN X.level 1++(fN X.data.size 1++(X.data++(zer (66-X.data.size)++r))))))):=by unfold t4;rw [u3];exact (f3 _).2
 have u5:t5 s=fN X.block 4++(fN X.many 4++(fN X.node 1++(fN X.level 1++(fN X.data.size 1++(X.data++(zer (66-X.data.size)++r)))))):=by unfold t5;rw [u4];exact (f4 _).2
 have u6:t6 s=fN X.many 4++(fN X.node 1++(fN X.level 1++(fN X.data.size 1++(X.data++(zer (66-X.data.size)++r))))):=by unfold t6;rw [u5];exact (f5 _).2
 have u7:t7 s=fN X.node 1++(fN X.level 1++(fN X.data.size 1++(X.data++(zer (66-X.data.size)++r)))):=by unfold t7;rw [u6];exact (f6 _).2
 have u8:t8 s=fN X.level 1++(fN X.data.size 1++(X.data++(zer (66-X.data.size)++r))):=by unfold t8;rw [u7];exact (f7 _).2
 have u9:t9 s=fN X.data.size 1++(X.data++(zer (66-X.data.size)++r)):=by unfold t9;rw [u8];exact (f8 _).2
 have u10:t10 s=X.data++(zer (66-X.data.size)++r):=by unfold t10;rw [u9];exact (f9 _).2
 have hnd:nd s=X.data.size:=by
  have h1:=(f9 (X.data++(zer (66-X.data.size)++r))).1
  rw [←u9] at h1
  have h2:((nd s:Nat):Int)=(X.data.size:Int):=h1
  omega
 have d1:=byt_put5 X.data (zer (66-X.data.size)++r) (nd s:Int) (by rw [hnd])
 have hdat:dat s=X.data:=by unfold dat;rw [u10];exact d1.1
 have u11:t11 s=zer (66-X.data.size)++r:=by unfold t11;rw [u10];exact d1.2
 have d2:=byt_put5 (zer (66-X.data.size)) r (66-(nd s:Int)) (by rw [zer_size,hnd];omega)
 have hbeh:beh s=zer (66-X.data.size):=by unfold beh;rw [u11];exact d2.1
 have hT:t12 s=r:=by unfold t12;rw [u11];exact d2.2
 have hpr:prs s=X:=by
  have g0:=(f0 (t1 s)).1
  rw [show fN X.kind 1++t1 s=s by rw [u1,←e]] at g0
  have g1:=(f1 (t2 s)).1
  rw [show fN X.term 8++t2 s=t1 s by rw [u1,u2]] at g1
  have g2:=(f2 (t3 s)).1
  rw [show fN X.index 8++t3 s=t2 s by rw [u2,u3]] at g2
  have g3:=(f3 (t4 s)).1
  rw [show fN X.client 8++t4 s=t3 s by rw [u3,u4]] at g3
  have g4:=(f4 (t5 s)).1
  rw [show fN X.seq 8++t5 s=t4 s by rw [u4,u5]] at g4
  have g5:=(f5 (t6 s)).1
  rw [show fN X.block 4++t6 s=t5 s by rw [u5,u6]] at g5
  have g6:=(f6 (t7 s)).1
  rw [show fN X.many 4++t7 s=t6 s by rw [u6,u7]] at g6
  have g7:=(f7 (t8 s)).1
  rw [show fN X.node 1++t8 s=t7 s by rw [u7,u8]] at g7
  have g8:=(f8 (t9 s)).1
  rw [show fN X.level 1++t9 s=t8 s by rw [u8,u9]] at g8
  unfold prs prd
  rw [g0,g1,g2,g3,g4,g5,g6,g7,g8,hdat,←hold]
 have hall:allO s=true:=(allO_iff s).2 ⟨hsz,by omega⟩
 have ho:getO s=true:=by
  unfold getO
  rw [hall,hpr,h,hbeh,zer_size]
  simp
 refine ⟨ho,by unfold getE;rw [if_pos ho,hpr],?_⟩
 unfold getT
 rw [if_pos ho,←(t_rest s hsz (by omega)).2.2,hT]
theorem gE_put {e:En} (ok:e.Ok) (hr:rightB e=true) (r:ByteArray):gE (sbE e++r) false=e∧gT (sbE e++r) false=r∧gO (sbE e++r) false=true:=by
 have h:=(eR_put ok (few_of_b ok hr) r).1
 have ho:gO (sbE e++r) false=true:=by unfold gO;rw [h,hr];rfl
 obtain ⟨h1,h2⟩:=gO_yes ho
 rw [h] at h1 h2
 exact ⟨h1,h2,ho⟩
def sameB (a b:En):Bool :=
 decide (a.term=b.term)&&(decide (a.index=b.index)&&(decide (a.kind=b.kind)&&(decide (a.client=b.client)&&(decide (a.seq=b.seq)&&(decide (a.block=b.block)&&(decide (a.many=b.many)&&(decide (a.node=b.node)&&(decide (a.level=b.level)&&(decide (a.data.toList=b.data.toList)&&decide (a.old.toList=b.old.toList))))))))))
def preB (es fs:List En) (k:Nat):Bool:=(List.zipWith sameB (es.take k) (fs.take k)).all id
theorem preB_step (es fs:List En) (k:Nat) (e f:En) (he:es[k]?=some e) (hf:fs[k]?=some f):preB es fs (k+1)=(preB es fs k&&sameB e f):=by
 unfold preB
 have h1:es.take (k+1)=es.take k++[e]:=by rw [List.take_add_one,he];rfl
 have h2:fs.take (k+1)=fs.take k++[f]:=by rw [List.take_add_one,hf];rfl
 have l1:(es.take k).length=(fs.take k).length:=by
  have:=(List.getElem?_eq_some_iff.1 he).1
  have:=(List.getElem?_eq_some_iff.1 hf).1
  rw [List.length_take,List.length_take]
  omega
 rw [h1,h2,List.zipWith_append l1,List.all_append]
 simp
def entsB (n k:Nat) (es fs:List En):Bool:=decide (n=k)&&preB es fs n
theorem entsB_len {n k:Nat} {es fs:List En} (h:n≠k):entsB n k es fs=false:=by
 unfold entsB
 rw [decide_eq_false h]
 rfl
theorem preB_stop {es fs:List En} {k n:Nat} (h:preB es fs k=false) (hk:k≤n) (h1:es.length=n) (h2:fs.length=n):preB es fs n=false:=by
 obtain ⟨d,rfl⟩:∃ d,n=k+d:=⟨n-k,by omega⟩
 have hd:∀ j,k+j≤k+d→preB es fs (k+j)=false:=by
  intro j
  induction j with
  | zero=>intro _;exact h
  | succ j ih =>
    intro hj
    obtain ⟨e,he⟩:∃ e,es[k+j]?=some e:=⟨_,List.getElem?_eq_getElem (by omega)⟩
    obtain ⟨f,hf⟩:∃ f,fs[k+j]?=some f:=⟨_,List.getElem?_eq_getElem (by omega)⟩
    rw [show k+(j+1)=(k+j)+1 by omega,preB_step es fs (k+j) e f he hf,ih (by omega)]
    rfl
 exact hd d (Nat.le_refl _)
end Go.Proofs.YtnobeoppffoomaaGreat
