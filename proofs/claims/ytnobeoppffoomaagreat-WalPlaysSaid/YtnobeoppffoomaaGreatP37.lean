/-
  WalPlays: WZa WZb.
  Conditions: named in each theorem.
-/
import Derived.Test.YtnobeoppffoomaaGreatP34
import Derived.Test.YtnobeoppffoomaaGreatP33
import Derived.Test.YtnobeoppffoomaaGreatP36
import Derived.Test.YtnobeoppffoomaaGreatP0
set_option linter.unusedVariables false
set_option linter.unusedSimpArgs false
set_option maxHeartbeats 8000000
set_option maxRecDepth 100000
namespace Go.Proofs.YtnobeoppffoomaaGreat
open Go.RowKit
open Dk
def onI (n:Nat) (at_ m v:Int):Bool:=decide (0≤at_)&&(decide (1≤m)&&knB v&&decide (m≤(n:Int)-at_))
theorem ronI_any (g:Nat) (L:List Nat) (d:St) (at_ m v:Int) (w:World) (h:Dv w g L d) (ha:at_≤9223372036854775807) :
 Calls Tryz.prog 64 #[RG at_ m v,ptr g] w fun e w'=>e=.returned (.bool (onI d.n at_ m v))∧Below w.heap.size w w':=by
 have hB:=(Below.refl w.heap.size w).alloc (Nat.le_refl _) (.cells (rgc at_ m v) 40)
 have HB:Hid (∀ k,Below w.heap.size w ((w.alloc (.cells (rgc at_ m v) 40)).drewN k)):=fun k=>below_drewN hB k
 have hc:=heap_alloc_new w (.cells (rgc at_ m v) 40)
 have n2:=h.1.n2
 have K1:Hid (∀ W,Calls Tryz.prog 35 #[.int .i64 v] W fun q w'=>q=.returned (.bool (knB v))∧w'=W):=fun W=>(known_any v W).mono fun q w' h=>⟨h.1,h.2.symm⟩
 have K2:Hid (∀ W,Dv W g L d→Calls Tryz.prog 101 #[ptr g] W fun q w'=>q=.returned (.int .i64 d.n)∧w'=W):=fun W hW=>(dsec_any g L d W hW).mono fun q w' h=>⟨h.1,h.2.symm⟩
 have HD:Hid (∀ k,Dv ((w.alloc (.cells (rgc at_ m v) 40)).drewN k) g L d):=fun k=>h.below (below_drewN ((Below.refl w.heap.size w).alloc (Nat.le_refl _) (.cells (rgc at_ m v) 40)) k)
 obtain ⟨N,hN⟩:∃ N,N=d.n:=⟨_,rfl⟩
 rw [←hN] at K2 n2 ⊢
 clear hB hN h
 have c0:(w.alloc (.cells (rgc at_ m v) 40)).drew.cell? ⟨w.heap.size,0,none⟩=some (.int .i64 at_):=zcr _ _ 0 _ 40 (0,0) hc
 have c1:(w.alloc (.cells (rgc at_ m v) 40)).drew.cell? ⟨w.heap.size,1,none⟩=some (.int .i64 m):=zcr _ _ 1 _ 40 (0,0) hc
 have c2:(w.alloc (.cells (rgc at_ m v) 40)).drew.cell? ⟨w.heap.size,2,none⟩=some (.int .i64 v):=zcr _ _ 2 _ 40 (0,0) hc
 clear hc
 by_cases h0:0≤at_
 rotate_left
 ·have t0:decide (0≤at_)=false:=decide_eq_false h0
  have e0:onI N at_ m v=false:=by unfold onI;rw [decide_eq_false h0];rfl
  rw [e0]
  clear e0
  go_enter Tryz.func64,Tryz.ntmps64
  go_upto_region 1 with fail
  go_quiet (first|(go_at_call 35;exact Calls.quiet_of_same (K1.out _))|(go_at_call 101;exact Calls.quiet_of_same (K2.out _ (HD.out _))))
  go_wp2
  go_ret
  exact ⟨rfl,HB.out _⟩
 have t0:decide (0≤at_)=true:=decide_eq_true h0
 by_cases h1:1≤m
 ·have t1:decide (1≤m)=true:=decide_eq_true h1
  have e0:onI N at_ m v=(knB v&&decide (m≤(N:Int)-at_)):=by unfold onI;rw [decide_eq_true h0,decide_eq_true h1,Bool.true_and,Bool.true_and]
  rw [e0]
  clear e0
  cases hk:knB v with
  | true =>
    rw [hk] at K1
    rw [Bool.true_and]
    cases h3:decide (m≤(N:Int)-at_) with
    | true =>
      go_enter Tryz.func64,Tryz.ntmps64
      go_upto_region 1 with fail
      go_quiet (first|(go_at_call 35;exact Calls.quiet_of_same (K1.out _))|(go_at_call 101;exact Calls.quiet_of_same (K2.out _ (HD.out _))))
      go_wp2
      go_ret
      exact ⟨rfl,HB.out _⟩
    | false =>
      go_enter Tryz.func64,Tryz.ntmps64
      go_upto_region 1 with fail
      go_quiet (first|(go_at_call 35;exact Calls.quiet_of_same (K1.out _))|(go_at_call 101;exact Calls.quiet_of_same (K2.out _ (HD.out _))))
      go_wp2
      go_ret
      exact ⟨rfl,HB.out _⟩
  | false =>
    rw [hk] at K1
    rw [Bool.false_and]
    go_enter Tryz.func64,Tryz.ntmps64
    go_upto_region 1 with fail
    go_quiet (first|(go_at_call 35;exact Calls.quiet_of_same (K1.out _))|(go_at_call 101;exact Calls.quiet_of_same (K2.out _ (HD.out _))))
    go_wp2
    go_ret
    exact ⟨rfl,HB.out _⟩
 ·have t1:decide (1≤m)=false:=decide_eq_false h1
  have e0:onI N at_ m v=false:=by unfold onI;rw [decide_eq_true h0,decide_eq_false h1];rfl
  rw [e0]
  clear e0
  go_enter Tryz.func64,Tryz.ntmps64
  go_upto_region 1 with fail
  go_quiet (first|(go_at_call 35;exact Calls.quiet_of_same (K1.out _))|(go_at_call 101;exact Calls.quiet_of_same (K2.out _ (HD.out _))))
  go_wp2
  go_ret
  exact ⟨rfl,HB.out _⟩
theorem onI_true {n:Nat} {at_ m v:Int} (h:onI n at_ m v=true):∃ a k:Nat,at_=a∧m=k∧onB n a k v=true∧a+k≤n:=by
 unfold onI at h
 rw [Bool.and_eq_true,Bool.and_eq_true,Bool.and_eq_true] at h
 obtain ⟨h0,⟨h1,h2⟩,h3⟩:=h
 have g0:=of_decide_eq_true h0
 have g1:=of_decide_eq_true h1
 have g3:=of_decide_eq_true h3
 obtain ⟨a,rfl⟩:=Int.eq_ofNat_of_zero_le g0
 obtain ⟨k,rfl⟩:=Int.eq_ofNat_of_zero_le (show 0≤m by omega)
 refine ⟨a,k,rfl,rfl,?_,by omega⟩
 unfold onB
 rw [decide_eq_true (show 1≤k by omega),h2,decide_eq_true g3]
 rfl
theorem add_off (g:Nat) (L:List Nat) (d:St) (at_ m v:Int) (u:Int) (A:Option Addr) (n c:Nat) (w:World) (h:Dv w g L d) (ha:at_≤9223372036854775807) (hno:onI d.n at_ m v=false) :
 Calls Tryz.prog 27 #[ptr g,RG at_ m v,.int .i64 u,.slice A n c] w fun e w'=>e=.returned (.tuple #[.int .i64 0,.int .i64 1])∧Below w.heap.size w w':=by
 obtain ⟨W,hW⟩:∃ W,W=w.alloc (.cells (rgc at_ m v) 40):=⟨_,rfl⟩
 have hB:Below w.heap.size w W:=by rw [hW];exact (Below.refl _ w).alloc (Nat.le_refl _) _
 have hc:W.heap[w.heap.size]?=some (.cells (rgc at_ m v) 40 (0,0)):=by rw [hW];exact heap_alloc_new w _
 have K1:=zh (ronI_any g L d at_ m v W (h.below hB) ha)
 rw [hno] at K1
 have HB:=zh hB
 have HW:=zh hW
 obtain ⟨c0,c1,c2⟩:=rgc_cells hc
 clear hB hc hW h hno
 unfold ptr at *
 go_enter Tryz.func27,Tryz.ntmps27
 go_upto_region 1 with fail
 refine wp_at (w:=W) HW.out.symm ?_
 go_wp2_with (go_at_call 64;(with_reducible refine K1.out.mono ?_);rintro q w1 ⟨rfl,b1⟩)
 go_ret2
 exact ⟨rfl,HB.out.trans (b1.mono HB.out.size)⟩
theorem fill_off (g:Nat) (L:List Nat) (d:St) (at_ m v:Int) (A:Option Addr) (n c:Nat) (w:World) (h:Dv w g L d) (ha:at_≤9223372036854775807) (hno:onI d.n at_ m v=false) :
 Calls Tryz.prog 26 #[ptr g,RG at_ m v,.slice A n c] w fun e w'=>e=.returned (.int .i64 1)∧Below w.heap.size w w':=by
 obtain ⟨W,hW⟩:∃ W,W=w.alloc (.cells (rgc at_ m v) 40):=⟨_,rfl⟩
 have hB:Below w.heap.size w W:=by rw [hW];exact (Below.refl _ w).alloc (Nat.le_refl _) _
 have hc:W.heap[w.heap.size]?=some (.cells (rgc at_ m v) 40 (0,0)):=by rw [hW];exact heap_alloc_new w _
 have K1:=zh (ronI_any g L d at_ m v W (h.below hB) ha)
 rw [hno] at K1
 have HB:=zh hB
 have HW:=zh hW
 obtain ⟨c0,c1,c2⟩:=rgc_cells hc
 clear hB hc hW h hno
 unfold ptr at *
 go_enter Tryz.func26,Tryz.ntmps26
 go_upto_region 1 with fail
 refine wp_at (w:=W) HW.out.symm ?_
 go_wp2_with (go_at_call 64;(with_reducible refine K1.out.mono ?_);rintro q w1 ⟨rfl,b1⟩)
 go_ret
 exact ⟨rfl,HB.out.trans (b1.mono HB.out.size)⟩
theorem wipe_off (g:Nat) (L:List Nat) (d:St) (at_ m v:Int) (u:Int) (w:World) (h:Dv w g L d) (ha:at_≤9223372036854775807) (hno:onI d.n at_ m v=false) :
 Calls Tryz.prog 30 #[ptr g,RG at_ m v,.int .i64 u] w fun e w'=>e=.returned (.int .i64 1)∧Below w.heap.size w w':=by
 obtain ⟨W,hW⟩:∃ W,W=((w.alloc (.cells #[ptr g] 42)).alloc (.cells (rgc at_ m v) 40)).alloc (.cells #[.int .i64 u] 3):=⟨_,rfl⟩
 have hB:Below w.heap.size w W:=by rw [hW];exact (((Below.refl _ w).alloc (Nat.le_refl _) _).alloc (by simp) _).alloc (by simp;omega) _
 have hc3:W.heap[w.heap.size]?=some (.cells #[ptr g] 42 (0,0)):=by rw [hW];exact (heap3 w _ _ _).1
 have hc:W.heap[w.heap.size+1]?=some (.cells (rgc at_ m v) 40 (0,0)):=by rw [hW];exact (heap3 w _ _ _).2.1
 have K1:=zh (ronI_any g L d at_ m v W (h.below hB) ha)
 rw [hno] at K1
 have HB:=zh hB
 have HW:=zh hW
 have c3:W.cell? ⟨w.heap.size,0,none⟩=some (ptr g):=zcr W _ 0 _ 42 (0,0) hc3
 obtain ⟨c0,c1,c2⟩:=rgc_cells hc
 clear hB hc hc3 hW h hno
 unfold ptr at *
 go_enter Tryz.func30,Tryz.ntmps30
 go_upto_region 1 with fail
 refine wp_at (w:=W) HW.out.symm ?_
 go_wp2_with (go_at_call 64;(with_reducible refine K1.out.mono ?_);rintro q w1 ⟨rfl,b1⟩)
 go_ret
 exact ⟨rfl,HB.out.trans (b1.mono HB.out.size)⟩
theorem read_off (g:Nat) (L:List Nat) (d:St) (at_ m v:Int) (w:World) (h:Dv w g L d) (ha:at_≤9223372036854775807) (hno:onI d.n at_ m v=false) :
 Calls Tryz.prog 31 #[ptr g,RG at_ m v] w fun e w'=>e=.returned (.tuple #[.slice none 0 0,.int .i64 0,.int .i64 1])∧Below w.heap.size w w':=by
 obtain ⟨W,hW⟩:∃ W,W=(w.alloc (.cells #[ptr g] 42)).alloc (.cells (rgc at_ m v) 40):=⟨_,rfl⟩
 have hB:Below w.heap.size w W:=by rw [hW];exact ((Below.refl _ w).alloc (Nat.le_refl _) _).alloc (by simp) _
 have hc3:W.heap[w.heap.size]?=some (.cells #[ptr g] 42 (0,0)):=by rw [hW];rw [Lib.alloc_old _ _ _ (by simp)];exact heap_alloc_new w _
 have hc:W.heap[w.heap.size+1]?=some (.cells (rgc at_ m v) 40 (0,0)):=by rw [hW];have:=heap_alloc_new (w.alloc (.cells #[ptr g] 42)) (.cells (rgc at_ m v) 40);rwa [World.size_alloc] at this
 have K1:=zh (ronI_any g L d at_ m v W (h.below hB) ha)
 rw [hno] at K1
 have HB:=zh hB
 have HW:=zh hW
 have c3:W.cell? ⟨w.heap.size,0,none⟩=some (ptr g):=zcr W _ 0 _ 42 (0,0) hc3
 obtain ⟨c0,c1,c2⟩:=rgc_cells hc
 clear hB hc hc3 hW h hno
 unfold ptr at *
 go_enter Tryz.func31,Tryz.ntmps31
 go_upto_region 1 with fail
 refine wp_at (w:=W) HW.out.symm ?_
 go_wp2_with (go_at_call 64;(with_reducible refine K1.out.mono ?_);rintro q w1 ⟨rfl,b1⟩)
 go_ret3
 exact ⟨rfl,HB.out.trans (b1.mono HB.out.size)⟩
end Go.Proofs.YtnobeoppffoomaaGreat
namespace Go.Proofs.YtnobeoppffoomaaGreat
open Go.RowKit
open Dk
theorem rgright_any (B gr:Nat) (L:List Nat) (d:St) (at_ m v:Int) (w:World) (h:Rf w B gr L d) (ha:at_≤9223372036854775807) :
 Calls Tryz.prog 95 #[ptr gr,RG at_ m v] w fun e w'=>e=.returned (.bool (onI d.n at_ m v))∧Below w.heap.size w w':=by
 have n2:=h.1.n2
 obtain ⟨g1,k1,g2,k2,g3,k3,rfl,hA⟩:=RAt.of_rf h
 have q0:=hA.c 0
 change w.cell? ⟨gr,0,none⟩=some (.slice (some ⟨g1,0,none⟩) d.n k1) at q0
 have hlt:gr<w.heap.size:=by
  rcases Nat.lt_or_ge gr w.heap.size with h|h
  ·exact h
  ·simp [World.cell?,Array.getElem?_eq_none h] at q0
 obtain ⟨N,hN⟩:∃ N,N=d.n:=⟨_,rfl⟩
 rw [←hN] at q0 n2 ⊢
 obtain ⟨W,hW⟩:∃ W,W=w.alloc (.cells (rgc at_ m v) 112):=⟨_,rfl⟩
 have hB:Below w.heap.size w W:=by rw [hW];exact (Below.refl w.heap.size w).alloc (Nat.le_refl _) _
 have HB:Hid (∀ k,Below w.heap.size w (W.drewN k)):=fun k=>below_drewN hB k
 have hc:W.heap[w.heap.size]?=some (.cells (rgc at_ m v) 112 (0,0)):=by rw [hW];exact heap_alloc_new w _
 have c0:W.cell? ⟨w.heap.size,0,none⟩=some (.int .i64 at_):=zcr _ _ 0 _ 112 (0,0) hc
 have c1:W.cell? ⟨w.heap.size,1,none⟩=some (.int .i64 m):=zcr _ _ 1 _ 112 (0,0) hc
 have c2:W.cell? ⟨w.heap.size,2,none⟩=some (.int .i64 v):=zcr _ _ 2 _ 112 (0,0) hc
 have q0d:W.cell? ⟨gr,0,none⟩=some (.slice (some ⟨g1,0,none⟩) N k1):=(Below.cell (B:=w.heap.size) hB (p:=⟨gr,0,none⟩) hlt).trans q0
 have HW:=zh hW
 clear hB hc hN h hA q0 hW
 unfold ptr
 by_cases h1:1≤m
 rotate_left
 ·have t1:decide (1≤m)=false:=decide_eq_false h1
  have e0:onI N at_ m v=false:=by unfold onI;rw [decide_eq_false h1,Bool.false_and,Bool.false_and,Bool.and_false]
  rw [e0]
  clear e0 h1
  go_enter Tryz.func95,Tryz.ntmps95
  go_upto_region 1 with fail
  refine wp_at (w:=W) HW.out.symm ?_
  go_quiet (fail)
  go_wp2
  go_ret
  exact ⟨rfl,HB.out _⟩
 have t1:decide (1≤m)=true:=decide_eq_true h1
 by_cases h0:0≤at_
 rotate_left
 ·have t0:decide (0≤at_)=false:=decide_eq_false h0
  have e0:onI N at_ m v=false:=by unfold onI;rw [decide_eq_false h0,Bool.false_and]
  rw [e0]
  clear e0 h0
  go_enter Tryz.func95,Tryz.ntmps95
  go_upto_region 1 with fail
  refine wp_at (w:=W) HW.out.symm ?_
  go_quiet (fail)
  go_wp2
  go_ret
  exact ⟨rfl,HB.out _⟩
 have t0:decide (0≤at_)=true:=decide_eq_true h0
 by_cases hv:v=1∨v=2
 rotate_left
 ·have v1:(v==1)=false:=beqF (fun e=>hv (.inl e))
  have v2:(v==2)=false:=beqF (fun e=>hv (.inr e))
  have e0:onI N at_ m v=false:=by unfold onI knB;rw [decide_eq_false hv,Bool.and_false,Bool.false_and,Bool.and_false]
  rw [e0]
  clear e0 hv
  go_enter Tryz.func95,Tryz.ntmps95
  go_upto_region 1 with fail
  refine wp_at (w:=W) HW.out.symm ?_
  go_quiet (fail)
  go_wp2
  go_ret
  exact ⟨rfl,HB.out _⟩
 have e0:onI N at_ m v=decide (m≤(N:Int)-at_):=by unfold onI knB;rw [t0,t1,decide_eq_true hv,Bool.true_and,Bool.true_and,Bool.true_and]
 rw [e0]
 clear e0
 have hvv:(v=1)∨(v=2∧(v==1)=false∧(v==2)=true):=by
  rcases hv with h|h
  ·exact .inl h
  ·exact .inr ⟨h,by rw [h];rfl,by rw [h];rfl⟩
 clear hv
 by_cases hat:at_<(N:Int)
 ·have ta:decide (at_<(N:Int))=true:=decide_eq_true hat
  cases h3:decide (m≤(N:Int)-at_) with
  | true =>
    rcases hvv with rfl|⟨rfl,v1,v2⟩
    all_goals
     go_enter Tryz.func95,Tryz.ntmps95
     go_upto_region 1 with fail
     refine wp_at (w:=W) HW.out.symm ?_
     go_quiet (fail)
     go_wp2
     go_ret
     exact ⟨rfl,HB.out _⟩
  | false =>
    rcases hvv with rfl|⟨rfl,v1,v2⟩
    all_goals
     go_enter Tryz.func95,Tryz.ntmps95
     go_upto_region 1 with fail
     refine wp_at (w:=W) HW.out.symm ?_
     go_quiet (fail)
     go_wp2
     go_ret
     exact ⟨rfl,HB.out _⟩
 ·have ta:decide (at_<(N:Int))=false:=decide_eq_false hat
  rw [decide_eq_false (show ¬ m≤(N:Int)-at_ by omega)]
  rcases hvv with rfl|⟨rfl,v1,v2⟩
  all_goals
   go_enter Tryz.func95,Tryz.ntmps95
   go_upto_region 1 with fail
   refine wp_at (w:=W) HW.out.symm ?_
   go_quiet (fail)
   go_wp2
   go_ret
   exact ⟨rfl,HB.out _⟩
end Go.Proofs.YtnobeoppffoomaaGreat
