import Derived.Test.YtgjggfpofgfchaaGreatDoorDr
import Derived.Test.YtgjggfpofgfchaaGreatDoorAw
set_option linter.unusedSectionVars false
set_option linter.unusedVariables false
set_option linter.unusedSimpArgs false
namespace Go.Proofs.YtgjggfpofgfchaaGreatDoor
open Go.RowKit LimbNum

/-- The tables of the library lie in the world. -/
def Tabs (w : World) : Prop := Go.Sx.GlobAt (fun _ => none) w (fun _ => none)
theorem Tabs.kept {w w' : World} (h : Tabs w) (k : Kept w w') : Tabs w' := fun g cs hg => by
  obtain ⟨⟨c, e, h1, h2⟩, h3⟩ := h g cs hg
  have hlt : g < w.heap.size := (Array.getElem?_eq_some_iff.1 h1).1
  refine ⟨⟨c, e, by rw [k.block g hlt]; exact h1, ?_⟩, h3⟩
  exact Go.Sx.RVs.keep (Go.Sx.Ext.rfl' _) ⟨k.size, fun b c e f hb => ⟨c, f, by rw [k.block b (Array.getElem?_eq_some_iff.1 hb).1]; exact hb, rfl⟩⟩ (fun a n ha => by
    have hl : a.block < w.heap.size := by
      rcases Nat.lt_or_ge a.block w.heap.size with h | h
      · exact h
      · unfold World.cell? at ha; rw [Array.getElem?_eq_none h] at ha; cases ha
    exact (k.cell hl).trans ha) _ _ h2
theorem awake_any (w : World) (h : Tabs w) : Calls Tryz.prog 5 #[] w fun e w' => e = .returned (.bool true) ∧ Kept w w' := by
  refine (Go.Sx.Seat.awake_ok (fun _ => none) w (fun _ => none) [] (by rw [Go.Sx.RVs]) ⟨fun b cells rb h1 h2 => (by cases h2), fun b b' x h1 h2 h3 => (by cases h3), h⟩).mono ?_
  rintro e w' ⟨v, rfl, h1, h2⟩
  rw [Go.Sx.RV] at h1
  subst h1
  exact ⟨rfl, h2⟩

set_option maxRecDepth 100000 in
theorem Draw_zero (key : Int) (w : World) (hk : 1 ≤ key) (hk2 : key ≤ 2147483646) :
    Calls Tryz.prog 6 #[.int .i64 key, .int .i64 0] w fun e w' => ∃ v, e = .returned (.tuple #[v, .int .i64 0]) ∧ (∃ a c, v = .slice a 0 c) ∧ RowI w' v [] ∧ Kept w w' := by
  obtain ⟨i0, hi, hz0, hz1, hz2⟩ := info_parts Tryz.info_int
  go_enter Tryz.func6, Tryz.ntmps6
  go_wp2_with (at_make; go_loud (refine wpList_make_full _ rfl _ _ 23 rfl w.heap.size 3 i0 (.int .i64 0) 1 Tryz.underlying23 hi hz0 hz1 .i64 .i64 _ _ 0 rfl rfl (by omega) (by omega) (by rw [hz2]; omega) (by unfold maxLen; omega) (Nat.le_refl _) ?_); intro w1 hown1 hgrow1)
  rw [cellsI_made] at hown1
  have hO : OwnI w1 w.heap.size w.heap.size 0 0 [] := ⟨rfl, by simpa [idn] using hown1⟩
  have hB : Below w.heap.size w w1 := (Below.refl _ _).grown hgrow1 (Nat.le_refl _) (by intro k h; cases h)
  have hr := hO.row
  clear hown1 hgrow1 hi hz0 hz1 hz2 hO
  go_wp2
  refine wp_loop_rounds 1 ?_
  rw [rounds_succ]
  go_wp2
  refine wp_loop_rounds 1 ?_
  rw [rounds_succ]
  go_wp2
  go_ret2
  exact ⟨_, rfl, ⟨_, _, rfl⟩, (by exact hr), hB⟩

theorem Draw_any (key : Int) (n : Nat) (w : World) (hk : 1 ≤ key) (hk2 : key ≤ 2147483646) (hn : n ≤ 256) :
    Calls Tryz.prog 6 #[.int .i64 key, .int .i64 n] w fun e w' => ∃ v, e = .returned (.tuple #[v, .int .i64 0]) ∧ (∃ a c, v = .slice a n c) ∧ RowI w' v (perm key n) ∧ Kept w w' := by
  by_cases h0 : 0 < n
  · exact Draw_pos key n w hk hk2 h0 hn
  · obtain rfl : n = 0 := by omega
    exact Draw_zero key w hk hk2

theorem perm_length (key : Int) (n : Nat) : (perm key n).length = n := by rw [perm, drawGo_length, idn_length]

theorem numberDraws_walk (key n : Int) (w : World) (hT : Tabs w) :
    Calls Tryz.prog 3 #[.int .i64 key, .int .i64 n] w fun e w' => e = .returned (.bool true) ∧ Kept w w' := by
  have hA := Lib.hid fun w' (hk : Kept w w') => awake_any w' (hT.kept hk)
  clear hT
  cases hb : badDraw key n with
  | true =>
    have hD := Lib.hid fun w' (_ : Kept w w') => Draw_bad key n w' hb
    have hC := Lib.hid fun w' (_ : Kept w w') => CheckDraw_any key n w'
    rw [hb] at hC
    simp only [if_true] at hC
    have hL := Lib.hid fun w' (_ : Kept w w') => list_bad (.slice none 0 0) w'
    clear hb
    go_enter Tryz.func3, Tryz.ntmps3
    go_wp2_with (first
      | (go_at_call 5; refine (hA.out _ (by unfold Kept; repeat (first | exact Below.refl _ _ | apply Below.drew))).mono ?_; rintro e w1 ⟨rfl, hk1⟩)
      | (go_at_call 6; refine (hD.out _ hk1).mono ?_; rintro e w2 ⟨rfl, hk2⟩; have hk2 := Kept.comp _ _ _ hk1 hk2)
      | (go_at_call 7; refine (hC.out _ hk2).mono ?_; rintro e w3 ⟨rfl, hk3⟩; have hk3 := Kept.comp _ _ _ hk2 hk3)
      | (go_at_call 8; refine (hL.out _ hk3).mono ?_; rintro e w4 ⟨rfl, hk4⟩; have hk4 := Kept.comp _ _ _ hk3 hk4))
    go_ret
    exact ⟨rfl, hk4⟩
  | false =>
    have hb' := hb
    simp only [badDraw, Bool.or_eq_false_iff, decide_eq_false_iff_not] at hb'
    obtain ⟨⟨⟨b1, b2⟩, b3⟩, b4⟩ := hb'
    obtain ⟨n, rfl⟩ : ∃ m : Nat, n = m := ⟨n.toNat, by omega⟩
    have hD := Lib.hid fun w' (_ : Kept w w') => Draw_any key n w' (by omega) (by omega) (by omega)
    have hC := Lib.hid fun w' (_ : Kept w w') => CheckDraw_any key n w'
    rw [hb] at hC
    simp only [Bool.false_eq_true, if_false] at hC
    have hR := Lib.hid fun w' (_ : Kept w w') => refDraw_any key n w' (by omega) (by omega) (by omega)
    have hL := Lib.hid fun w' va vb (ha : RowI w' va (perm key n)) (hb : RowI w' vb (perm key n)) => list_ok va vb (perm key n) w' ha hb (by rw [perm_length]; omega)
    clear hb
    go_enter Tryz.func3, Tryz.ntmps3
    go_wp2_with (first
      | (go_at_call 5; refine (hA.out _ (by unfold Kept; repeat (first | exact Below.refl _ _ | apply Below.drew))).mono ?_; rintro e w1 ⟨rfl, hk1⟩)
      | (go_at_call 6; refine (hD.out _ hk1).mono ?_; rintro e w2 ⟨v1, rfl, ⟨a1, c1, rfl⟩, hr1, hk2⟩; have hkk := hk2; have hk2 := Kept.comp _ _ _ hk1 hkk)
      | (go_at_call 7; refine (hC.out _ hk2).mono ?_; rintro e w3 ⟨rfl, hk3⟩; have hr2 := hr1.kept hk3; have hk3 := Kept.comp _ _ _ hk2 hk3)
      | (go_at_call 9; refine (hR.out _ hk3).mono ?_; rintro e w4 ⟨v2, rfl, hr3, hk4⟩; obtain ⟨a2, c2, rfl, _⟩ := hr3.shape; have hr4 := hr2.kept hk4; have hk4 := Kept.comp _ _ _ hk3 hk4)
      | (go_at_call 8; refine (hL.out _ _ _ hr4 hr3).mono ?_; rintro e w5 ⟨rfl, hk5⟩; have hk5 := Kept.comp _ _ _ hk4 hk5))
    go_ret
    exact ⟨rfl, hk5⟩
end Go.Proofs.YtgjggfpofgfchaaGreatDoor
