import Derived.Test.YtgjggfpofgfchaaGreatDoorDe1
set_option linter.unusedSectionVars false
set_option linter.unusedVariables false
set_option linter.unusedSimpArgs false
namespace Go.Proofs.YtgjggfpofgfchaaGreatDoor
open Go.RowKit LimbNum

set_option maxRecDepth 100000 in
theorem IsOrder_any (v : Value) (xs : List Int) (w : World) (ha : RowI w v xs) (ho : Once xs) (hx : xs.length ≤ 256) :
    Calls Tryz.prog 10 #[v] w fun e w' => e = .returned (.bool true) ∧ Kept w w' := by
  obtain ⟨a1, c1, rfl, r1⟩ := ha.shape
  obtain ⟨o1, o2⟩ := ho
  by_cases h0 : 0 < xs.length
  · obtain ⟨b1, rfl, hb1, hc1⟩ := r1 h0
    generalize xs.length = n at *
    clear ha r1
    have O1 := Lib.hid o1
    have O2 := Lib.hid o2
    clear o1 o2
    go_enter Tryz.func10, Tryz.ntmps10
    go_wp2
    go_loopw [3, 4] (fun i _ wr => ∃ k : Nat, k ≤ n ∧ i = .int .i64 k ∧ Kept w wr) (fun i _ _ => n - (intOf i).toNat)
    case atStart => exact ⟨0, Nat.zero_le _, rfl, Below.refl _ _⟩
    case round =>
      obtain ⟨k, hk, rfl, hbel⟩ := hrel
      by_cases hkn : k = n
      · go_wp2
        go_ret
        exact ⟨rfl, hbel⟩
      · have hx1 := (hbel.cell (p := ⟨b1, k, none⟩) hb1).trans (hc1 k (by omega))
        obtain ⟨q1, q2⟩ := O1.out k (by omega)
        have N2 : Hid (∀ j, j < k → xs.getD j 0 ≠ xs.getD k 0) := Lib.hid (fun j hj => O2.out j k hj (by omega))
        generalize hy : xs.getD k 0 = y at *
        have Hy := Lib.hid hy
        clear hy
        go_wp2
        go_loopw [4] (fun m wr => ∃ j : Nat, j ≤ k ∧ m = .int .i64 j ∧ Kept w wr) (fun m _ => k - (intOf m).toNat)
        case atStart => exact ⟨0, Nat.zero_le _, rfl, hbel⟩
        case round =>
          clear hbel hx1
          obtain ⟨j, hj, rfl, hbel⟩ := hrel
          by_cases hjk : j = k
          · go_wp2
            go_roundw
            case rel => exact ⟨k + 1, by omega, by go_num, hbel⟩
            case measure => simp [intOf]; omega
          · have hx1 := (hbel.cell (p := ⟨b1, k, none⟩) hb1).trans (hc1 k (by omega))
            have hx2 := (hbel.cell (p := ⟨b1, j, none⟩) hb1).trans (hc1 j (by omega))
            have hne := N2.out j (by omega)
            rw [Hy.out] at hx1
            generalize xs.getD j 0 = z at *
            have hb : (z == y) = false := by simpa using hne
            clear hne
            go_wp2
            go_quiet (fail)
            go_wp2
            go_roundw
            case rel => exact ⟨j + 1, by omega, by go_num, hbel.trans ⟨rfl, rfl, rfl, Nat.le_refl _, fun _ _ => rfl⟩⟩
            case measure => simp [intOf]; omega
  · have e0 : xs.length = 0 := by omega
    rw [e0]
    clear e0 h0 hx ha r1 o1 o2
    go_enter Tryz.func10, Tryz.ntmps10
    go_wp2
    refine wp_loop_rounds 1 ?_
    rw [rounds_succ]
    go_wp2
    go_ret
    exact ⟨rfl, Below.refl _ _⟩
end Go.Proofs.YtgjggfpofgfchaaGreatDoor
