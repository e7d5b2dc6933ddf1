import Derived.Test.YtgjggfpofgfchaaGreatDoorDe2
set_option linter.unusedSectionVars false
set_option linter.unusedVariables false
set_option linter.unusedSimpArgs false
namespace Go.Proofs.YtgjggfpofgfchaaGreatDoor
open Go.RowKit LimbNum

theorem deals_large (key n : Int) (w : World) (hT : Tabs w) (hn : 40 < n) :
    Calls Tryz.prog 4 #[.int .i64 key, .int .i64 n] w fun e w' => e = .returned (.bool true) ∧ Kept w w' := by
  have hA := Lib.hid fun w' (hk : Kept w w') => awake_any w' (hT.kept hk)
  have hk1 : Kept w w := Below.refl _ _
  clear hT
  go_enter Tryz.func4, Tryz.ntmps4
  go_wp2_with (first
    | (go_at_call 5; refine (hA.out _ hk1).mono ?_; rintro e w1 ⟨rfl, hk2⟩; have hk1 := Kept.comp _ _ _ hk1 hk2))
  go_ret
  exact ⟨rfl, hk1⟩

theorem deals_bad (key n : Int) (w : World) (hT : Tabs w) (hn : ¬ 40 < n) (hb : badDraw key n = true) :
    Calls Tryz.prog 4 #[.int .i64 key, .int .i64 n] w fun e w' => e = .returned (.bool true) ∧ Kept w w' := by
  have hA := Lib.hid fun w' (hk : Kept w w') => awake_any w' (hT.kept hk)
  have hC := Lib.hid fun w' (_ : Kept w w') => CheckDraw_any key n w'
  rw [hb] at hC
  simp only [if_true] at hC
  have hk1 : Kept w w := Below.refl _ _
  clear hT hb
  go_enter Tryz.func4, Tryz.ntmps4
  go_wp2_with (first
    | (go_at_call 5; refine (hA.out _ hk1).mono ?_; rintro e w1 ⟨rfl, hk2⟩; have hk1 := Kept.comp _ _ _ hk1 hk2)
    | (go_at_call 7; refine (hC.out _ hk1).mono ?_; rintro e w3 ⟨rfl, hk3⟩; have hk1 := Kept.comp _ _ _ hk1 hk3))
  go_ret
  exact ⟨rfl, hk1⟩

set_option maxRecDepth 100000 in
theorem deals_good (key : Int) (n : Nat) (w : World) (hT : Tabs w) (hn : n ≤ 40) (hk : 1 ≤ key) (hkk : key ≤ 2147483646) (hb : badDraw key n = false) :
    Calls Tryz.prog 4 #[.int .i64 key, .int .i64 n] w fun e w' => e = .returned (.bool true) ∧ Kept w w' := by
  have hA := Lib.hid fun w' (hk : Kept w w') => awake_any w' (hT.kept hk)
  have hC := Lib.hid fun w' (_ : Kept w w') => CheckDraw_any key n w'
  rw [hb] at hC
  simp only [Bool.false_eq_true, if_false] at hC
  have hD := Lib.hid fun w' (_ : Kept w w') => Draw_any key n w' hk hkk (by omega)
  have hO := Lib.hid fun w' v (hr : RowI w' v (perm key n)) => IsOrder_any v (perm key n) w' hr (once_perm key n (by omega)) (by rw [perm_length]; omega)
  have hl := perm_last key n (by omega)
  have hlen := perm_length key n
  have hk1 : Kept w w := Below.refl _ _
  clear hT hb
  go_enter Tryz.func4, Tryz.ntmps4
  go_wp2_with (first
    | (go_at_call 5; refine (hA.out _ hk1).mono ?_; rintro e w1 ⟨rfl, hk2⟩; have hk1 := Kept.comp _ _ _ hk1 hk2)
    | (go_at_call 7; refine (hC.out _ hk1).mono ?_; rintro e w3 ⟨rfl, hk3⟩; have hk1 := Kept.comp _ _ _ hk1 hk3)
    | (go_at_call 6; refine (hD.out _ hk1).mono ?_; rintro e w2 ⟨v1, rfl, ⟨a1, c1, rfl⟩, hr1, hk2⟩; have hk1 := Kept.comp _ _ _ hk1 hk2)
    | (go_at_call 10; refine (hO.out _ _ hr1).mono ?_; rintro e w2 ⟨rfl, hk2⟩; have hr2 := hr1.kept hk2; have hk1 := Kept.comp _ _ _ hk1 hk2))
  by_cases h2 : n < 2
  · have hd : decide ((n : Int) < 2) = true := by rw [decide_eq_true]; omega
    go_quiet (fail)
    go_wp2
    go_ret
    exact ⟨rfl, hk1.trans ⟨rfl, rfl, rfl, Nat.le_refl _, fun _ _ => rfl⟩⟩
  · have hd : decide ((n : Int) < 2) = false := by rw [decide_eq_false]; omega
    obtain ⟨b, c, hv, hb, hcell⟩ : ∃ b c, Value.slice a1 n c1 = .slice (some ⟨b, 0, none⟩) n c ∧ b < w2.heap.size ∧ w2.cell? ⟨b, n - 1, none⟩ = some (.int .i64 ((perm key n).getD (n - 1) 0)) := by
      rcases hr2 with ⟨_, h⟩ | ⟨b, c, h, h3, h4⟩
      · rw [h] at hlen; simp at hlen; omega
      · rw [hlen] at h h4
        exact ⟨b, c, h, h3, h4 _ (by omega)⟩
    simp only [Value.slice.injEq, true_and] at hv
    obtain ⟨rfl, rfl⟩ := hv
    rw [hl (by omega)] at hcell
    have hw : IntKind.i64.wrap (39373 * key) = 39373 * key := IntWalk.i64_in _ (by omega)
    have hw1 : IntKind.i64.wrap ((n : Int) - 1) = ((n - 1 : Nat) : Int) := by rw [IntWalk.i64_in _ (by omega)]; omega
    have hx' : (39373 * key).tmod 2147483647 = nxt key := rfl
    obtain ⟨hn0, hn1⟩ := nxt_bounds (x := key) (by omega)
    have ht : (nxt key).tmod (n : Int) = nxt key % (n : Int) := Int.tmod_eq_emod_of_nonneg hn0
    clear hl hr1 hr2
    generalize nxt key = y at *
    go_quiet (fail)
    go_wp2
    go_ret
    exact ⟨rfl, hk1.trans ⟨rfl, rfl, rfl, Nat.le_refl _, fun _ _ => rfl⟩⟩

theorem numberDeals_walk (key n : Int) (w : World) (hT : Tabs w) :
    Calls Tryz.prog 4 #[.int .i64 key, .int .i64 n] w fun e w' => e = .returned (.bool true) ∧ Kept w w' := by
  by_cases h40 : 40 < n
  · exact deals_large key n w hT h40
  cases hb : badDraw key n with
  | true => exact deals_bad key n w hT h40 hb
  | false =>
    have hb' := hb
    simp only [badDraw, Bool.or_eq_false_iff, decide_eq_false_iff_not] at hb'
    obtain ⟨⟨⟨b1, b2⟩, b3⟩, b4⟩ := hb'
    obtain ⟨n, rfl⟩ : ∃ m : Nat, n = m := ⟨n.toNat, by omega⟩
    exact deals_good key n w hT (by omega) (by omega) (by omega) hb
end Go.Proofs.YtgjggfpofgfchaaGreatDoor
