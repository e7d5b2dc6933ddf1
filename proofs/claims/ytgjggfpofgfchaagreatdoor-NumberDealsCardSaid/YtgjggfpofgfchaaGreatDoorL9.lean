import Derived.Test.YtgjggfpofgfchaaGreatDoorL8
set_option linter.unusedSectionVars false
set_option linter.unusedVariables false
set_option linter.unusedSimpArgs false
namespace Go.Proofs.YtgjggfpofgfchaaGreatDoor
open Go.RowKit LimbNum

theorem size_add (x y : Nat) : size (x + y) ≤ size x + size y + 1 := by
  refine size_le ?_
  have h1 := lt_size x
  have h2 := lt_size y
  have e1 : LimbNum.B ^ size x ≤ LimbNum.B ^ (size x + size y) := Nat.pow_le_pow_right B_pos (by omega)
  have e2 : LimbNum.B ^ size y ≤ LimbNum.B ^ (size x + size y) := Nat.pow_le_pow_right B_pos (by omega)
  rw [Nat.pow_succ]
  have hb : 2 ≤ LimbNum.B := by simp [LimbNum.B]
  have := Nat.mul_le_mul_left (LimbNum.B ^ (size x + size y)) hb
  omega
theorem size_mul (x y : Nat) : size (x * y) ≤ size x + size y := by
  refine size_le ?_
  rw [Nat.pow_add]
  rcases Nat.eq_zero_or_pos y with h | h
  · subst h
    rw [Nat.mul_zero]
    exact Nat.mul_pos (Nat.pow_pos B_pos) (Nat.pow_pos B_pos)
  · exact Nat.lt_of_lt_of_le (Nat.mul_lt_mul_of_pos_right (lt_size x) h) (Nat.mul_le_mul_left _ (Nat.le_of_lt (lt_size y)))

theorem add_same {x y : Int} (h : decide (x < 0) = decide (y < 0)) : withSign (decide (x < 0)) (x.natAbs + y.natAbs) = x + y := by
  unfold withSign
  by_cases hx : x < 0 <;> by_cases hy : y < 0 <;> simp [hx, hy] at h ⊢ <;> omega
theorem add_left {x y : Int} (h : decide (x < 0) ≠ decide (y < 0)) (hle : y.natAbs ≤ x.natAbs) : withSign (decide (x < 0)) (x.natAbs - y.natAbs) = x + y := by
  unfold withSign
  by_cases hx : x < 0 <;> by_cases hy : y < 0 <;> simp [hx, hy] at h ⊢ <;> omega
theorem add_right {x y : Int} (h : decide (x < 0) ≠ decide (y < 0)) (hle : x.natAbs ≤ y.natAbs) : withSign (decide (y < 0)) (y.natAbs - x.natAbs) = x + y := by
  unfold withSign
  by_cases hx : x < 0 <;> by_cases hy : y < 0 <;> simp [hx, hy] at h ⊢ <;> omega

set_option maxRecDepth 100000 in
set_option maxHeartbeats 1000000 in
theorem Add_any (va vb : Value) (x y : Int) (w : World) (ha : Whole w va x) (hb : Whole w vb y) (hx : size x.natAbs ≤ 1073741824) (hy : size y.natAbs ≤ 1073741824) :
    Calls Tryz.prog 103 #[va, vb] w fun e w' => ∃ v, e = .returned v ∧ Whole w' v (x + y) ∧ Kept w w' := by
  obtain ⟨l1, rfl, h1⟩ := ha
  obtain ⟨l2, rfl, h2⟩ := hb
  have e1 := @add_same x y
  have e2 := @add_left x y
  have e3 := @add_right x y
  have z1 := size_add x.natAbs y.natAbs
  have z2 := size_mono (Nat.sub_le x.natAbs y.natAbs)
  have z3 := size_mono (Nat.sub_le y.natAbs x.natAbs)
  have ma := Lib.hid fun w' (hk : Kept w w') => addLimbs_any l1 l2 x.natAbs y.natAbs w' (h1.kept hk) (h2.kept hk) hx hy
  have mc := Lib.hid fun w' (hk : Kept w w') => compareLimbs_any l1 l2 x.natAbs y.natAbs w' (h1.kept hk) (h2.kept hk) hx
  have ms1 := Lib.hid fun w' (hk : Kept w w') => subtractLimbs_any l1 l2 x.natAbs y.natAbs w' (h1.kept hk) (h2.kept hk) hx
  have ms2 := Lib.hid fun w' (hk : Kept w w') => subtractLimbs_any l2 l1 y.natAbs x.natAbs w' (h2.kept hk) (h1.kept hk) hy
  have he1 := Lib.hid e1
  have he2 := Lib.hid e2
  have he3 := Lib.hid e3
  have hz := Lib.hid (show size (x.natAbs + y.natAbs) ≤ 1099511627776 ∧ size (x.natAbs - y.natAbs) ≤ 1099511627776 ∧ size (y.natAbs - x.natAbs) ≤ 1099511627776 from ⟨by omega, by omega, by omega⟩)
  clear h1 h2 e1 e2 e3 z1 z2 z3 hx hy
  generalize hs1 : decide (x < 0) = s1 at *
  generalize hs2 : decide (y < 0) = s2 at *
  clear hs1 hs2
  by_cases hs : s1 = s2
  · have hn := he1.out hs
    have hbe : (s1 == s2) = true := by simp [hs]
    have hz := hz.out.1
    clear he1 he2 he3 hs ms1 ms2 mc
    go_enter Tryz.func103, Tryz.ntmps103
    go_wp2_with fail
    obtain ⟨hk, hB1, hB2, hB3⟩ := start2 w [.bool s1, l1] [.bool s2, l2] 71 71 71 [.bool false, .slice none 0 0]
    generalize ((w.alloc (.cells [.bool s1, l1].toArray _)).alloc (.cells [.bool s2, l2].toArray _)).alloc (.cells [.bool false, .slice none 0 0].toArray _) = w2 at *
    refine wp_region_kept 8 [.is (.pointer (some ⟨w.heap.size, 0, none⟩)), .is (.bool s1), .is (.pointer (some ⟨w.heap.size, 1, none⟩)), .is l1, .is (.pointer (some ⟨w.heap.size + 1, 1, none⟩)), .is l2, .lim (x.natAbs + y.natAbs), .int (x + y)] [0,1,2,3,4,5,6,7] (by kernel_rfl) (by kernel_rfl) (by kernel_rfl) (by kernel_rfl) (by kernel_rfl) (by kernel_rfl) (by intro f; simp only [laid, List.foldl_cons, List.foldl_nil, List.getElem?_toArray, List.getElem?_cons_zero, List.getElem?_cons_succ, Option.bind_some, Act.put, List.setIfInBounds_toArray, List.set_cons_zero, List.set_cons_succ]; rfl) ?_ ?_
    · intro i o him ho f wi hki hdep
      have c1 := (hB1.kept hki).cell 0 rfl
      have c2 := (hB1.kept hki).cell 1 rfl
      have c3 := (hB2.kept hki).cell 0 rfl
      have c4 := (hB2.kept hki).cell 1 rfl
      rcases i with _ | _ | _ | _ | _ | _ | _ | _ | i
      · cases (show some _ = some o from ho)
        refine Gives.value (.pointer (some ⟨w.heap.size, 0, none⟩)) ?_ (meets_is rfl)
        go_simp
      · cases (show some _ = some o from ho)
        have d0 := hdep ⟨0, .data⟩ (by simp) rfl
        simp only [Meets, List.getElem?_cons_zero] at d0
        refine Gives.value (.bool s1) ?_ (meets_is rfl)
        go_simp
      · cases (show some _ = some o from ho)
        refine Gives.value (.pointer (some ⟨w.heap.size, 1, none⟩)) ?_ (meets_is rfl)
        go_simp
      · cases (show some _ = some o from ho)
        have d2 := hdep ⟨2, .data⟩ (by simp) rfl
        simp only [Meets, List.getElem?_cons_zero, List.getElem?_cons_succ] at d2
        refine Gives.value l1 ?_ (meets_is rfl)
        go_simp
      · cases (show some _ = some o from ho)
        refine Gives.value (.pointer (some ⟨w.heap.size + 1, 1, none⟩)) ?_ (meets_is rfl)
        go_simp
      · cases (show some _ = some o from ho)
        have d4 := hdep ⟨4, .data⟩ (by simp) rfl
        simp only [Meets, List.getElem?_cons_zero, List.getElem?_cons_succ] at d4
        refine Gives.value l2 ?_ (meets_is rfl)
        go_simp
      · cases (show some _ = some o from ho)
        have d3 := hdep ⟨3, .data⟩ (by simp) rfl
        have d5 := hdep ⟨5, .data⟩ (by simp) rfl
        simp only [Meets, List.getElem?_cons_zero, List.getElem?_cons_succ] at d3 d5
        refine Gives.call 139 #[l1, l2] (by go_simp) ((ma.out wi (Kept.comp _ _ _ hk hki)).mono ?_)
        rintro e w3 ⟨u, rfl, hu, hk3⟩
        exact ⟨u, rfl, hu, hk3⟩
      · cases (show some _ = some o from ho)
        have d1 := hdep ⟨1, .data⟩ (by simp) rfl
        have d6 := hdep ⟨6, .data⟩ (by simp) rfl
        simp only [Meets, List.getElem?_cons_zero, List.getElem?_cons_succ] at d1 d6
        refine Gives.call 107 #[.bool s1, f 6] (by go_simp) ((signed_any s1 (f 6) _ wi d6 hz).mono ?_)
        rintro e w3 ⟨u, rfl, hu, hk3⟩
        rw [hn] at hu
        exact ⟨u, rfl, hu, hk3⟩
      · omega
    · intro f wi hki hall
      have hv := hall 7 (by decide)
      simp only [Meets, List.getElem?_cons_zero, List.getElem?_cons_succ] at hv
      clear hall
      obtain ⟨_, he, a', c', rfl, _⟩ := id hv
      rw [he] at hv
      simp only [List.drop_succ_cons, List.drop_zero]
      rw [he]
      generalize size (x + y).natAbs = n' at *
      generalize decide (x + y < 0) = s' at *
      have hB := hB3.kept hki
      have r0 := hB.cell 0 rfl
      have r1 := hB.cell 1 rfl
      have f0 := hB.free 0
      have f1 := hB.free 1
      go_wp2
      obtain ⟨p0, p1, p2, p3⟩ := store_ret hB (by omega) (Kept.comp _ _ _ hk hki) hv
      exact bodyPost_ret (v := .agg #[.bool s', .slice a' n' c']) (by simp [results, Tryz.results103, go_sem, p0, p1]) rfl ⟨_, rfl, p2, p3⟩
  · have hbe : (s1 == s2) = false := by simpa using hs
    by_cases hlt : x.natAbs < y.natAbs
    · have hn := he3.out hs (by omega)
      rw [show ord x.natAbs y.natAbs = -1 by simp [ord, hlt]] at mc
      have hz := hz.out.2.2
      have hsub := Lib.hid fun w' (hk : Kept w w') => ms2.out w' hk (by omega)
      clear he1 he2 he3 hs ms1 ms2 ma hlt
      go_enter Tryz.func103, Tryz.ntmps103
      go_wp2_with fail
      obtain ⟨hk, hB1, hB2, hB3⟩ := start2 w [.bool s1, l1] [.bool s2, l2] 71 71 71 [.bool false, .slice none 0 0]
      generalize ((w.alloc (.cells [.bool s1, l1].toArray _)).alloc (.cells [.bool s2, l2].toArray _)).alloc (.cells [.bool false, .slice none 0 0].toArray _) = w2 at *
      refine (mc.out _ hk).mono ?_
      rintro e w2' ⟨rfl, q, rfl⟩
      have hkq : Kept w2 (w2.drewN q) := below_drewN' (Below.refl _ _) q
      go_wp2_with fail
      replace hB1 := hB1.kept hkq
      replace hB2 := hB2.kept hkq
      replace hB3 := hB3.kept hkq
      replace hk := Kept.comp _ _ _ hk hkq
      generalize w2.drewN q = w4 at *
      clear hkq
      refine wp_region_kept 8 [.is (.pointer (some ⟨w.heap.size + 1, 0, none⟩)), .is (.bool s2), .is (.pointer (some ⟨w.heap.size + 1, 1, none⟩)), .is l2, .is (.pointer (some ⟨w.heap.size, 1, none⟩)), .is l1, .lim (y.natAbs - x.natAbs), .int (x + y)] [0,1,2,3,4,5,6,7] (by kernel_rfl) (by kernel_rfl) (by kernel_rfl) (by kernel_rfl) (by kernel_rfl) (by kernel_rfl) (by intro f; simp only [laid, List.foldl_cons, List.foldl_nil, List.getElem?_toArray, List.getElem?_cons_zero, List.getElem?_cons_succ, Option.bind_some, Act.put, List.setIfInBounds_toArray, List.set_cons_zero, List.set_cons_succ]; rfl) ?_ ?_
      · intro i o him ho f wi hki hdep
        have c1 := (hB1.kept hki).cell 0 rfl
        have c2 := (hB1.kept hki).cell 1 rfl
        have c3 := (hB2.kept hki).cell 0 rfl
        have c4 := (hB2.kept hki).cell 1 rfl
        rcases i with _ | _ | _ | _ | _ | _ | _ | _ | i
        · cases (show some _ = some o from ho)
          refine Gives.value (.pointer (some ⟨w.heap.size + 1, 0, none⟩)) ?_ (meets_is rfl)
          go_simp
        · cases (show some _ = some o from ho)
          have d0 := hdep ⟨0, .data⟩ (by simp) rfl
          simp only [Meets, List.getElem?_cons_zero] at d0
          refine Gives.value (.bool s2) ?_ (meets_is rfl)
          go_simp
        · cases (show some _ = some o from ho)
          refine Gives.value (.pointer (some ⟨w.heap.size + 1, 1, none⟩)) ?_ (meets_is rfl)
          go_simp
        · cases (show some _ = some o from ho)
          have d2 := hdep ⟨2, .data⟩ (by simp) rfl
          simp only [Meets, List.getElem?_cons_zero, List.getElem?_cons_succ] at d2
          refine Gives.value l2 ?_ (meets_is rfl)
          go_simp
        · cases (show some _ = some o from ho)
          refine Gives.value (.pointer (some ⟨w.heap.size, 1, none⟩)) ?_ (meets_is rfl)
          go_simp
        · cases (show some _ = some o from ho)
          have d4 := hdep ⟨4, .data⟩ (by simp) rfl
          simp only [Meets, List.getElem?_cons_zero, List.getElem?_cons_succ] at d4
          refine Gives.value l1 ?_ (meets_is rfl)
          go_simp
        · cases (show some _ = some o from ho)
          have d3 := hdep ⟨3, .data⟩ (by simp) rfl
          have d5 := hdep ⟨5, .data⟩ (by simp) rfl
          simp only [Meets, List.getElem?_cons_zero, List.getElem?_cons_succ] at d3 d5
          refine Gives.call 140 #[l2, l1] (by go_simp) ((hsub.out wi (Kept.comp _ _ _ hk hki)).mono ?_)
          rintro e w3 ⟨u, rfl, hu, hk3⟩
          exact ⟨u, rfl, hu, hk3⟩
        · cases (show some _ = some o from ho)
          have d1 := hdep ⟨1, .data⟩ (by simp) rfl
          have d6 := hdep ⟨6, .data⟩ (by simp) rfl
          simp only [Meets, List.getElem?_cons_zero, List.getElem?_cons_succ] at d1 d6
          refine Gives.call 107 #[.bool s2, f 6] (by go_simp) ((signed_any s2 (f 6) _ wi d6 hz).mono ?_)
          rintro e w3 ⟨u, rfl, hu, hk3⟩
          rw [hn] at hu
          exact ⟨u, rfl, hu, hk3⟩
        · omega
      · intro f wi hki hall
        have hv := hall 7 (by decide)
        simp only [Meets, List.getElem?_cons_zero, List.getElem?_cons_succ] at hv
        clear hall
        obtain ⟨_, he, a', c', rfl, _⟩ := id hv
        rw [he] at hv
        simp only [List.drop_succ_cons, List.drop_zero]
        rw [he]
        generalize size (x + y).natAbs = n' at *
        generalize decide (x + y < 0) = s' at *
        have hB := hB3.kept hki
        have r0 := hB.cell 0 rfl
        have r1 := hB.cell 1 rfl
        have f0 := hB.free 0
        have f1 := hB.free 1
        go_wp2
        obtain ⟨p0, p1, p2, p3⟩ := store_ret hB (by omega) (Kept.comp _ _ _ hk hki) hv
        exact bodyPost_ret (v := .agg #[.bool s', .slice a' n' c']) (by simp [results, Tryz.results103, go_sem, p0, p1]) rfl ⟨_, rfl, p2, p3⟩
    · have hn := he2.out hs (by omega)
      have hor : decide (ord x.natAbs y.natAbs ≥ 0) = true := by unfold ord; rw [if_neg hlt]; split <;> simp
      have hz := hz.out.2.1
      have hsub := Lib.hid fun w' (hk : Kept w w') => ms1.out w' hk (by omega)
      generalize ord x.natAbs y.natAbs = o at *
      clear he1 he2 he3 hs ms1 ms2 ma hlt
      go_enter Tryz.func103, Tryz.ntmps103
      go_wp2_with fail
      obtain ⟨hk, hB1, hB2, hB3⟩ := start2 w [.bool s1, l1] [.bool s2, l2] 71 71 71 [.bool false, .slice none 0 0]
      generalize ((w.alloc (.cells [.bool s1, l1].toArray _)).alloc (.cells [.bool s2, l2].toArray _)).alloc (.cells [.bool false, .slice none 0 0].toArray _) = w2 at *
      refine (mc.out _ hk).mono ?_
      rintro e w2' ⟨rfl, q, rfl⟩
      have hkq : Kept w2 (w2.drewN q) := below_drewN' (Below.refl _ _) q
      go_wp2_with fail
      replace hB1 := hB1.kept hkq
      replace hB2 := hB2.kept hkq
      replace hB3 := hB3.kept hkq
      replace hk := Kept.comp _ _ _ hk hkq
      generalize w2.drewN q = w4 at *
      clear hkq
      refine wp_region_kept 8 [.is (.pointer (some ⟨w.heap.size, 0, none⟩)), .is (.bool s1), .is (.pointer (some ⟨w.heap.size, 1, none⟩)), .is l1, .is (.pointer (some ⟨w.heap.size + 1, 1, none⟩)), .is l2, .lim (x.natAbs - y.natAbs), .int (x + y)] [0,1,2,3,4,5,6,7] (by kernel_rfl) (by kernel_rfl) (by kernel_rfl) (by kernel_rfl) (by kernel_rfl) (by kernel_rfl) (by intro f; simp only [laid, List.foldl_cons, List.foldl_nil, List.getElem?_toArray, List.getElem?_cons_zero, List.getElem?_cons_succ, Option.bind_some, Act.put, List.setIfInBounds_toArray, List.set_cons_zero, List.set_cons_succ]; rfl) ?_ ?_
      · intro i o him ho f wi hki hdep
        have c1 := (hB1.kept hki).cell 0 rfl
        have c2 := (hB1.kept hki).cell 1 rfl
        have c3 := (hB2.kept hki).cell 0 rfl
        have c4 := (hB2.kept hki).cell 1 rfl
        rcases i with _ | _ | _ | _ | _ | _ | _ | _ | i
        · cases (show some _ = some o from ho)
          refine Gives.value (.pointer (some ⟨w.heap.size, 0, none⟩)) ?_ (meets_is rfl)
          go_simp
        · cases (show some _ = some o from ho)
          have d0 := hdep ⟨0, .data⟩ (by simp) rfl
          simp only [Meets, List.getElem?_cons_zero] at d0
          refine Gives.value (.bool s1) ?_ (meets_is rfl)
          go_simp
        · cases (show some _ = some o from ho)
          refine Gives.value (.pointer (some ⟨w.heap.size, 1, none⟩)) ?_ (meets_is rfl)
          go_simp
        · cases (show some _ = some o from ho)
          have d2 := hdep ⟨2, .data⟩ (by simp) rfl
          simp only [Meets, List.getElem?_cons_zero, List.getElem?_cons_succ] at d2
          refine Gives.value l1 ?_ (meets_is rfl)
          go_simp
        · cases (show some _ = some o from ho)
          refine Gives.value (.pointer (some ⟨w.heap.size + 1, 1, none⟩)) ?_ (meets_is rfl)
          go_simp
        · cases (show some _ = some o from ho)
          have d4 := hdep ⟨4, .data⟩ (by simp) rfl
          simp only [Meets, List.getElem?_cons_zero, List.getElem?_cons_succ] at d4
          refine Gives.value l2 ?_ (meets_is rfl)
          go_simp
        · cases (show some _ = some o from ho)
          have d3 := hdep ⟨3, .data⟩ (by simp) rfl
          have d5 := hdep ⟨5, .data⟩ (by simp) rfl
          simp only [Meets, List.getElem?_cons_zero, List.getElem?_cons_succ] at d3 d5
          refine Gives.call 140 #[l1, l2] (by go_simp) ((hsub.out wi (Kept.comp _ _ _ hk hki)).mono ?_)
          rintro e w3 ⟨u, rfl, hu, hk3⟩
          exact ⟨u, rfl, hu, hk3⟩
        · cases (show some _ = some o from ho)
          have d1 := hdep ⟨1, .data⟩ (by simp) rfl
          have d6 := hdep ⟨6, .data⟩ (by simp) rfl
          simp only [Meets, List.getElem?_cons_zero, List.getElem?_cons_succ] at d1 d6
          refine Gives.call 107 #[.bool s1, f 6] (by go_simp) ((signed_any s1 (f 6) _ wi d6 hz).mono ?_)
          rintro e w3 ⟨u, rfl, hu, hk3⟩
          rw [hn] at hu
          exact ⟨u, rfl, hu, hk3⟩
        · omega
      · intro f wi hki hall
        have hv := hall 7 (by decide)
        simp only [Meets, List.getElem?_cons_zero, List.getElem?_cons_succ] at hv
        clear hall
        obtain ⟨_, he, a', c', rfl, _⟩ := id hv
        rw [he] at hv
        simp only [List.drop_succ_cons, List.drop_zero]
        rw [he]
        generalize size (x + y).natAbs = n' at *
        generalize decide (x + y < 0) = s' at *
        have hB := hB3.kept hki
        have r0 := hB.cell 0 rfl
        have r1 := hB.cell 1 rfl
        have f0 := hB.free 0
        have f1 := hB.free 1
        go_wp2
        obtain ⟨p0, p1, p2, p3⟩ := store_ret hB (by omega) (Kept.comp _ _ _ hk hki) hv
        exact bodyPost_ret (v := .agg #[.bool s', .slice a' n' c']) (by simp [results, Tryz.results103, go_sem, p0, p1]) rfl ⟨_, rfl, p2, p3⟩
end Go.Proofs.YtgjggfpofgfchaaGreatDoor
