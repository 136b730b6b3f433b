/-
  A config out of bytes: Get's memory.
  Conditions: named in each theorem.
-/
import Derived.Test.YtmencfmjmbbfhaaDoorLGm
import Derived.Deep.AppendLies
namespace Go.Proofs.YtmencfmjmbbfhaaDoor
open Go.RowKit
set_option linter.unusedVariables false
set_option linter.unusedSimpArgs false
theorem res18 (tmps : Array Value) (w : World) (p : Nat) (cs : Array Value) (hp : tmps.getD 2 undef = .pointer (some ⟨p, 0, none⟩)) (hg : w.heap[p]? = some (.cells cs 25 (0, 0))) (hs : cs.size = 4) :
    (results Tryd.f18 tmps).run Tryd.prog w = .ok (.tuple #[.agg cs, tmps.getD 3 undef]) w := by
  rw [results_cell_tmp Tryd.results18, hp]
  simp [asAddr, run_loadVar_row w p 25 25 cs (0, 0) _ hg Tryd.underlying25 rfl (by rw [hs]; exact cf25)]
theorem take_any (p g : Nat) (t : ByteArray) (bad : Bool) (w : World) (hp : w.heap[p]? = some (.cells #[rdp g] 79 (0, 0))) (h : Rd 94 g t bad w) (hm : t.size ≤ 281474976710656) :
    Calls Tryd.prog 37 #[.pointer (some ⟨p, 0, none⟩)] w fun e w' => e = .returned (.int .i64 (tkV t)) ∧ Rd 94 g (Vi.varT t) (bad || !Vi.varO t) w' ∧ w.grownBy w' (some g) := by
  have c0 : w.cell? ⟨p, 0, none⟩ = some (rdp g) := cell_of_row w p 0 _ 79 (0, 0) hp
  have K := var_any g t bad w h hm
  obtain ⟨V, hV⟩ : ∃ V, V = Vi.varV t := ⟨_, rfl⟩
  unfold tkV
  rw [← hV] at K
  rw [← hV]
  have KA := Lib.hid K
  clear K hp h hV
  unfold rdp at *
  go_enter Tryd.func37, Tryd.ntmps37
  go_wp2_with (go_at_call 38; refine KA.out.mono ?_; rintro r w1 ⟨rfl, h1, h2⟩)
  go_ret
  exact ⟨rfl, h1, h2⟩
theorem own3 {w : World} {B n k : Nat} {v : Value} {l : List Value} (h : w.ownsRow B 3 1 v n l) (hk : v.ownBlock = some k) : B ≤ k ∧ ∃ cur, w.heap[k]? = some (.cells cur 3 (0, 0)) := by
  rcases h.2 with ⟨rfl, _⟩ | ⟨g, cap, cur, rfl, hB, hg, _⟩
  · cases hk
  · simp [Value.ownBlock] at hk
    subst hk
    exact ⟨hB, cur, hg⟩
/-- Get's boxes: the result's, the reader's, the config that is made. -/
structure Gt (w : World) (p q g : Nat) (t : ByteArray) (vm vh : Value) (ms hs : List Int) (l : Int) (f : Bool) (W : World) : Prop where
  be : Below w.heap.size w W
  r : W.heap[w.heap.size]? = some (.cells zc 25 (0, 0))
  pc : W.heap[p]? = some (.cells #[rdp g] 79 (0, 0))
  rd : ∃ bad, Rd 94 g t bad W
  cq : W.heap[q]? = some (.cells #[vm, vh, .int .i64 l, .bool f] 25 (0, 0))
  om : W.ownsRow w.heap.size 3 1 vm ms.length (ms.map (Value.int .i64))
  oh : W.ownsRow w.heap.size 3 1 vh hs.length (hs.map (Value.int .i64))
  ne : ∀ k, vm.ownBlock = some k → vh.ownBlock ≠ some k
  nq : q ≠ w.heap.size
  lp : w.heap.size ≤ p
  lq : w.heap.size ≤ q
  lg : w.heap.size ≤ g
section
variable {w : World} {p q g : Nat} {t : ByteArray} {vm vh : Value} {ms hs : List Int} {l : Int} {f : Bool}
theorem nb {W : World} {a b : Nat} {x y : Array Value} {s u : TypeId} (h1 : W.heap[a]? = some (.cells x s (0, 0))) (h2 : W.heap[b]? = some (.cells y u (0, 0))) (hne : s ≠ u) : a ≠ b := fun e => by
  rw [e, h2] at h1
  cases h1; exact hne rfl
theorem ownk {W W' : World} {v : Value} {n : Nat} {xs : List Value} {B : Nat} {r : Option Nat} (h : W.ownsRow B 3 1 v n xs) (hg : W.grownBy W' r) (hr : ∀ k, v.ownBlock = some k → r ≠ some k) : W'.ownsRow B 3 1 v n xs := h.kept hg (by
  cases e : v.ownBlock with
  | none => exact .inl rfl
  | some k => exact .inr fun q => hr k e q.symm)
theorem Gt.rdg {W : World} (h : Gt w p q g t vm vh ms hs l f W) : ∃ cs, W.heap[g]? = some (.cells cs 94 (0, 0)) := by obtain ⟨bad, h1⟩ := h.rd; exact ⟨_, h1⟩
theorem Gt.take {W W' : World} {u : ByteArray} {bad : Bool} (h : Gt w p q g t vm vh ms hs l f W) (hr : Rd 94 g u bad W') (hg : W.grownBy W' (some g)) : Gt w p q g u vm vh ms hs l f W' := by
  obtain ⟨cs, hgc⟩ := h.rdg
  have bl : ∀ {k : Nat} {x : Array Value} {s : TypeId}, W.heap[k]? = some (.cells x s (0, 0)) → s ≠ 94 → W'.heap[k]? = some (.cells x s (0, 0)) := fun {k x s} hk hs => (hg.block k (Array.getElem?_eq_some_iff.1 hk).1 (fun e => nb hk hgc hs (by cases e; rfl))).trans hk
  refine ⟨h.be.grown hg h.be.size (fun k e => by cases e; exact h.lg), bl h.r (by decide), bl h.pc (by decide), ⟨_, hr⟩, bl h.cq (by decide), ownk h.om hg fun k hk e => ?_, ownk h.oh hg fun k hk e => ?_, h.ne, h.nq, h.lp, h.lq, h.lg⟩
  · cases e
    obtain ⟨_, cur, h3⟩ := own3 h.om hk
    exact nb h3 hgc (by decide) rfl
  · cases e
    obtain ⟨_, cur, h3⟩ := own3 h.oh hk
    exact nb h3 hgc (by decide) rfl
theorem Gt.alloc {W : World} (h : Gt w p q g t vm vh ms hs l f W) (o : Obj) : Gt w p q g t vm vh ms hs l f (W.alloc o) := by
  have hb := (Below.refl W.heap.size W).alloc (Nat.le_refl _) o
  have hg : W.grownBy (W.alloc o) none := grownBy_below hb none
  have bl : ∀ {k : Nat} {x : Obj}, W.heap[k]? = some x → (W.alloc o).heap[k]? = some x := fun hk => (hb.block _ (Array.getElem?_eq_some_iff.1 hk).1).trans hk
  obtain ⟨bad, hr⟩ := h.rd
  exact ⟨h.be.alloc h.be.size o, bl h.r, bl h.pc, ⟨bad, bl hr⟩, bl h.cq, ownk h.om hg (fun k hk e => by cases e), ownk h.oh hg (fun k hk e => by cases e), h.ne, h.nq, h.lp, h.lq, h.lg⟩
theorem Gt.drew {W : World} (h : Gt w p q g t vm vh ms hs l f W) : Gt w p q g t vm vh ms hs l f W.drew := ⟨h.be.drew, h.r, h.pc, h.rd, h.cq, h.om, h.oh, h.ne, h.nq, h.lp, h.lq, h.lg⟩
theorem Gt.setQ {W : World} (h : Gt w p q g t vm vh ms hs l f W) (i : Nat) (v : Value) {vm' vh' : Value} {l' : Int} {f' : Bool} {ms' hs' : List Int} (he : (#[vm, vh, .int .i64 l, .bool f] : Array Value).setIfInBounds i v = #[vm', vh', .int .i64 l', .bool f']) (om : W.ownsRow w.heap.size 3 1 vm' ms'.length (ms'.map (Value.int .i64))) (oh : W.ownsRow w.heap.size 3 1 vh' hs'.length (hs'.map (Value.int .i64))) (ne : ∀ k, vm'.ownBlock = some k → vh'.ownBlock ≠ some k) :
    Gt w p q g t vm' vh' ms' hs' l' f' (W.setCell ⟨q, i, none⟩ v) := by
  have hg : W.grownBy (W.setCell ⟨q, i, none⟩ v) (some q) := grownBy_set v
  have bl : ∀ {k : Nat} {x : Array Value} {s : TypeId}, W.heap[k]? = some (.cells x s (0, 0)) → k ≠ q → (W.setCell ⟨q, i, none⟩ v).heap[k]? = some (.cells x s (0, 0)) := fun {k x s} hk hs => (hg.block k (Array.getElem?_eq_some_iff.1 hk).1 (fun e => hs (by cases e; rfl))).trans hk
  obtain ⟨bad, hr⟩ := h.rd
  have h1 := heap_setCell_row h.cq i v
  rw [he] at h1
  refine ⟨h.be.setCell (p := ⟨q, i, none⟩) h.lq v, bl h.r (fun e => h.nq e.symm), bl h.pc (nb h.pc h.cq (by decide)), ⟨bad, bl hr (nb hr h.cq (by decide))⟩, h1, ownk om hg fun k hk e => ?_, ownk oh hg fun k hk e => ?_, ne, h.nq, h.lp, h.lq, h.lg⟩
  · cases e
    obtain ⟨_, cur, h3⟩ := own3 om hk
    exact nb h3 h.cq (by decide) rfl
  · cases e
    obtain ⟨_, cur, h3⟩ := own3 oh hk
    exact nb h3 h.cq (by decide) rfl
/-- A row's append keeps the rest. -/
theorem Gt.grew {W W' : World} {k0 : Option Nat} (h : Gt w p q g t vm vh ms hs l f W) (hg : W.grownBy W' k0) (hk : ∀ k, k0 = some k → w.heap.size ≤ k ∧ ∃ cur, W.heap[k]? = some (.cells cur 3 (0, 0))) :
    Below w.heap.size w W' ∧ W'.heap[w.heap.size]? = some (.cells zc 25 (0, 0)) ∧ W'.heap[p]? = some (.cells #[rdp g] 79 (0, 0)) ∧ (∃ bad, Rd 94 g t bad W') ∧ W'.heap[q]? = some (.cells #[vm, vh, .int .i64 l, .bool f] 25 (0, 0)) := by
  have bl : ∀ {k : Nat} {x : Array Value} {s : TypeId}, W.heap[k]? = some (.cells x s (0, 0)) → s ≠ 3 → W'.heap[k]? = some (.cells x s (0, 0)) := fun {k x s} hx hs => (hg.block k (Array.getElem?_eq_some_iff.1 hx).1 (fun e => by
    obtain ⟨_, cur, h3⟩ := hk k e.symm
    exact nb hx h3 hs rfl)).trans hx
  obtain ⟨bad, hr⟩ := h.rd
  exact ⟨h.be.grown hg h.be.size (fun k e => (hk k e).1), bl h.r (by decide), bl h.pc (by decide), ⟨bad, bl hr (by decide)⟩, bl h.cq (by decide)⟩
theorem Gt.appM {W W' : World} {g' cap H : Nat} {x : Int} (h : Gt w p q g t vm vh ms hs l f W) (ho : W'.ownsRow w.heap.size 3 1 (.slice (some ⟨g', 0, none⟩) (ms.length + 1) cap) (ms.length + 1) (ms.map (Value.int .i64) ++ [.int .i64 x])) (hg : W.grownBy W' vm.ownBlock) (hb : vm.ownBlock = some g' ∨ g' = H) (hH : W.heap.size = H) :
    Gt w p q g t (.slice (some ⟨g', 0, none⟩) (ms.length + 1) cap) vh (ms ++ [x]) hs l f (W'.setCell ⟨q, 0, none⟩ (.slice (some ⟨g', 0, none⟩) (ms.length + 1) cap)) ∧ W'.cell? ⟨q, 0, none⟩ = some vm ∧ W'.frozen? ⟨q, 0, none⟩ = false := by
  obtain ⟨q1, q2, q3, q4, q5⟩ := h.grew hg fun k e => own3 h.om e
  have oh' := ownk h.oh hg fun k hk e => h.ne k e hk
  have h2 : Gt w p q g t vm vh [] hs l f W' → True := fun _ => trivial
  have ho' : W'.ownsRow w.heap.size 3 1 (.slice (some ⟨g', 0, none⟩) (ms.length + 1) cap) (ms ++ [x]).length ((ms ++ [x]).map (Value.int .i64)) := by
    rw [List.map_append, List.length_append]; exact ho
  have hne : ∀ k, (Value.slice (some ⟨g', 0, none⟩) (ms.length + 1) cap).ownBlock = some k → vh.ownBlock ≠ some k := fun k hk e => by
    simp [Value.ownBlock] at hk
    subst hk
    rcases hb with hb | hb
    · exact h.ne _ hb e
    · obtain ⟨_, cur, h3⟩ := own3 h.oh e
      have := (Array.getElem?_eq_some_iff.1 h3).1
      omega
  refine ⟨?_, cell_of_row W' _ 0 _ 25 (0, 0) q5, by simp [World.frozen?, q5]⟩
  have hZ : Gt w p q g t (.slice none 0 0) vh [] hs l f (W'.setCell ⟨q, 0, none⟩ (.slice none 0 0)) → True := fun _ => trivial
  have hg2 : W'.grownBy (W'.setCell ⟨q, 0, none⟩ (.slice (some ⟨g', 0, none⟩) (ms.length + 1) cap)) (some q) := grownBy_set _
  have bl : ∀ {k : Nat} {y : Array Value} {s : TypeId}, W'.heap[k]? = some (.cells y s (0, 0)) → k ≠ q → (W'.setCell ⟨q, 0, none⟩ (.slice (some ⟨g', 0, none⟩) (ms.length + 1) cap)).heap[k]? = some (.cells y s (0, 0)) := fun {k y s} hk hs => (hg2.block k (Array.getElem?_eq_some_iff.1 hk).1 (fun e => hs (by cases e; rfl))).trans hk
  obtain ⟨bad, hr⟩ := q4
  refine ⟨q1.setCell (p := ⟨q, 0, none⟩) h.lq _, bl q2 (fun e => h.nq e.symm), bl q3 (nb q3 q5 (by decide)), ⟨bad, bl hr (nb hr q5 (by decide))⟩, heap_setCell_row q5 0 _, ownk ho' hg2 fun k hk e => ?_, ownk oh' hg2 fun k hk e => ?_, hne, h.nq, h.lp, h.lq, h.lg⟩
  · cases e
    obtain ⟨_, cur, h3⟩ := own3 ho' hk
    exact nb h3 q5 (by decide) rfl
  · cases e
    obtain ⟨_, cur, h3⟩ := own3 oh' hk
    exact nb h3 q5 (by decide) rfl
theorem Gt.appH {W W' : World} {g' cap H : Nat} {x : Int} (h : Gt w p q g t vm vh ms hs l f W) (ho : W'.ownsRow w.heap.size 3 1 (.slice (some ⟨g', 0, none⟩) (hs.length + 1) cap) (hs.length + 1) (hs.map (Value.int .i64) ++ [.int .i64 x])) (hg : W.grownBy W' vh.ownBlock) (hb : vh.ownBlock = some g' ∨ g' = H) (hH : W.heap.size = H) :
    Gt w p q g t vm (.slice (some ⟨g', 0, none⟩) (hs.length + 1) cap) ms (hs ++ [x]) l f (W'.setCell ⟨q, 1, none⟩ (.slice (some ⟨g', 0, none⟩) (hs.length + 1) cap)) ∧ W'.cell? ⟨q, 1, none⟩ = some vh ∧ W'.frozen? ⟨q, 1, none⟩ = false := by
  obtain ⟨q1, q2, q3, q4, q5⟩ := h.grew hg fun k e => own3 h.oh e
  have om' := ownk h.om hg fun k hk e => h.ne k hk e
  have ho' : W'.ownsRow w.heap.size 3 1 (.slice (some ⟨g', 0, none⟩) (hs.length + 1) cap) (hs ++ [x]).length ((hs ++ [x]).map (Value.int .i64)) := by
    rw [List.map_append, List.length_append]; exact ho
  have hne : ∀ k, vm.ownBlock = some k → (Value.slice (some ⟨g', 0, none⟩) (hs.length + 1) cap).ownBlock ≠ some k := fun k hk e => by
    simp [Value.ownBlock] at e
    subst e
    rcases hb with hb | hb
    · exact h.ne _ hk hb
    · obtain ⟨_, cur, h3⟩ := own3 h.om hk
      have := (Array.getElem?_eq_some_iff.1 h3).1
      omega
  refine ⟨?_, cell_of_row W' _ 1 _ 25 (0, 0) q5, by simp [World.frozen?, q5]⟩
  have hg2 : W'.grownBy (W'.setCell ⟨q, 1, none⟩ (.slice (some ⟨g', 0, none⟩) (hs.length + 1) cap)) (some q) := grownBy_set _
  have bl : ∀ {k : Nat} {y : Array Value} {s : TypeId}, W'.heap[k]? = some (.cells y s (0, 0)) → k ≠ q → (W'.setCell ⟨q, 1, none⟩ (.slice (some ⟨g', 0, none⟩) (hs.length + 1) cap)).heap[k]? = some (.cells y s (0, 0)) := fun {k y s} hk hs => (hg2.block k (Array.getElem?_eq_some_iff.1 hk).1 (fun e => hs (by cases e; rfl))).trans hk
  obtain ⟨bad, hr⟩ := q4
  refine ⟨q1.setCell (p := ⟨q, 1, none⟩) h.lq _, bl q2 (fun e => h.nq e.symm), bl q3 (nb q3 q5 (by decide)), ⟨bad, bl hr (nb hr q5 (by decide))⟩, heap_setCell_row q5 1 _, ownk om' hg2 fun k hk e => ?_, ownk ho' hg2 fun k hk e => ?_, hne, h.nq, h.lp, h.lq, h.lg⟩
  · cases e
    obtain ⟨_, cur, h3⟩ := own3 om' hk
    exact nb h3 q5 (by decide) rfl
  · cases e
    obtain ⟨_, cur, h3⟩ := own3 ho' hk
    exact nb h3 q5 (by decide) rfl
end
end Go.Proofs.YtmencfmjmbbfhaaDoor
