/-
  The members of bits.
  Conditions: bits is below 256.
-/
import Derived.Test.YtmencfmjmbbfhaaDoorLNm
import Derived.OwnWalk
namespace Go.Proofs.YtmencfmjmbbfhaaDoor
open Go.RowKit
set_option linter.unusedVariables false
set_option linter.unusedSimpArgs false
def smK (b : Nat) : Nat → List Int
  | 0 => [1 + (b / 128 : Nat)]
  | k + 1 => if b / 2 ^ k % 2 = 1 then smK b k ++ [(k : Int) + 1] else smK b k
def sm (b : Nat) : List Int := smK b 7
theorem smK_len (b : Nat) : ∀ k, 1 ≤ (smK b k).length ∧ (smK b k).length ≤ k + 1
  | 0 => by simp [smK]
  | k + 1 => by
    have := smK_len b k
    unfold smK
    split
    · simp; omega
    · omega
theorem smK_mem (b : Nat) (hb : b < 256) : ∀ k, k ≤ 7 → ∀ x ∈ smK b k, 1 ≤ x ∧ x ≤ 7
  | 0, _, x, hx => by
    simp only [smK, List.mem_singleton] at hx
    subst hx
    omega
  | k + 1, hk, x, hx => by
    unfold smK at hx
    split at hx
    · rcases List.mem_append.1 hx with hx | hx
      · exact smK_mem b hb k (by omega) x hx
      · rw [List.mem_singleton] at hx; subst hx; omega
    · exact smK_mem b hb k (by omega) x hx
set_option maxHeartbeats 1000000 in
set_option maxRecDepth 100000 in
theorem some_any (b : Nat) (hb : b < 256) (w : World) :
    Calls Tryd.prog 9 #[.int .u8 b] w fun r w' => ∃ b1 c1, r = .returned (.slice (some ⟨b1, 0, none⟩) (sm b).length c1) ∧ w.heap.size ≤ b1 ∧ Rw w' b1 c1 (sm b) ∧ Below w.heap.size w w' := by
  obtain ⟨i0, hi, hz0, hz1, hz2⟩ := info_parts Tryd.info3b
  have h1 : (1 : Int) + (b : Int) / 128 ≤ 2 := by omega
  have h2 : (0 : Int) ≤ (b : Int) / 128 := by omega
  go_enter Tryd.func9, Tryd.ntmps9
  go_upto_region 3 with fail
  have hown0 : (w.alloc (.cells #[.int .i64 (1 + (b : Int) / 128)] 3)).ownsRow w.heap.size 3 1 (.slice (some ⟨w.heap.size, 0, none⟩) 1 1) (smK b 0).length ((smK b 0).map (.int .i64)) := by
    refine ⟨by simp [smK], .inr ⟨w.heap.size, 1, _, rfl, Nat.le_refl _, heap_alloc_new w _, by simp [smK], by unfold maxLen; omega, rfl, by simp [smK]⟩⟩
  have hb0 : Below w.heap.size w (w.alloc (.cells #[.int .i64 (1 + (b : Int) / 128)] 3)) := (Below.refl _ w).alloc (Nat.le_refl _) _
  go_loopw [3, 4] (fun v i wr => ∃ (k : Nat), i = .int .i64 k ∧ k ≤ 7 ∧ Hid (wr.ownsRow w.heap.size 3 1 v (smK b k).length ((smK b k).map (.int .i64))) ∧ Hid (Below w.heap.size w wr)) (fun _ i _ => 7 - (Go.RowKit.intOf i).toNat)
  case atStart => exact ⟨0, rfl, by omega, hown0, hb0⟩
  case round =>
    obtain ⟨k, rfl, hk, hown, hbl⟩ := hrel
    have hsl := smK_len b k
    by_cases hlt : k < 7
    · have hq : ((b : Int) / 2 ^ k).tmod 2 = ((b / 2 ^ k % 2 : Nat) : Int) := by
        rw [show (b : Int) / 2 ^ k = ((b / 2 ^ k : Nat) : Int) from by push_cast; rfl, Int.ofNat_tmod]; rfl
      have ho := hown.out
      have hbs := hbl.out.size
      by_cases hm : b / 2 ^ k % 2 = 1
      · have hE : (((b : Int) / 2 ^ k).tmod 2 == 1) = true := by rw [hq, hm]; rfl
        have HS : Hid (smK b (k + 1) = smK b k ++ [(k : Int) + 1]) := by show _ = _; rw [smK, if_pos hm]
        have HO := hown
        clear hq hm hown
        go_wp2_with (at_builtin; refine wpList_append_own _ rfl _ _ 23 rfl w.heap.size 3 i0 (.int .i64 0) 1 8 Tryd.underlying23 hi hz0 hz1 hz2 rfl (by decide) _ _ _ rfl (ho.alloc _) ⟨wr.heap.size, 0, none⟩ 1 1 [.int .i64 _] rfl rfl (cell_one_new _ _ _) (fun x hx => by simp at hx; subst hx; rfl) (by unfold maxLen; omega) (by omega) (by simp; omega) ?_; intro v' w3 hown' hgrow3 hnil3)
        go_roundw
        case rel =>
          refine ⟨k + 1, by go_num, by omega, ?_, (hbl.out.alloc hbs _).grown hgrow3 (by simp; omega) (fun g hg => (ho.lt g hg).1)⟩
          rw [HS.out, List.length_append, List.map_append]
          exact hown'
        case measure => simp [Go.RowKit.intOf]; omega
      · have hE : (((b : Int) / 2 ^ k).tmod 2 == 1) = false := by
          rw [hq]; have : b / 2 ^ k % 2 = 0 := by omega
          rw [this]; rfl
        have HS : Hid (smK b (k + 1) = smK b k) := by show _ = _; rw [smK, if_neg hm]
        clear hq hm
        go_wp2
        go_roundw
        case rel => exact ⟨k + 1, by go_num, by omega, by rw [HS.out]; exact hown, hbl⟩
        case measure => simp [Go.RowKit.intOf]; omega
    · obtain rfl : k = 7 := by omega
      have ho : wr.ownsRow w.heap.size 3 1 u3 (sm b).length ((sm b).map (.int .i64)) := hown.out
      have hl : 1 ≤ (sm b).length := hsl.1
      clear hown
      go_wp2
      go_ret
      obtain ⟨_, b1, c1, rfl, hB, hR⟩ := Rw.of_own ho (fun e => by
        subst e
        rcases ho.2 with ⟨_, h0⟩ | ⟨_, _, _, e, _⟩
        · omega
        · cases e)
      exact ⟨b1, c1, rfl, hB, hR, hbl.out⟩
end Go.Proofs.YtmencfmjmbbfhaaDoor
