import Derived.Test.YtgjggfpofgfchaaGreatDoorDr7
set_option linter.unusedSectionVars false
set_option linter.unusedVariables false
set_option linter.unusedSimpArgs false
namespace Go.Proofs.YtgjggfpofgfchaaGreatDoor
open Go.RowKit LimbNum

/-- Each number from 0 on, once. -/
def Once (l : List Int) : Prop := (∀ i, i < l.length → 0 ≤ l.getD i 0 ∧ l.getD i 0 < l.length) ∧ ∀ i j, i < j → j < l.length → l.getD i 0 ≠ l.getD j 0

theorem getD_set (l : List Int) (i j : Nat) (v : Int) (h : j < l.length) : (l.set i v).getD j 0 = if i = j then v else l.getD j 0 := by
  rw [List.getD_eq_getElem?_getD, List.getElem?_set, List.getD_eq_getElem?_getD]
  by_cases h1 : i = j
  · subst h1; simp [h]
  · simp [h1]
theorem swp_get (l : List Int) {i j : Nat} (hi : i < l.length) (hj : j < l.length) {k : Nat} (hk : k < l.length) : (swp l i j).getD k 0 = if k = j then l.getD i 0 else if k = i then l.getD j 0 else l.getD k 0 := by
  unfold swp
  rw [getD_set _ _ _ _ (by simpa using hk)]
  by_cases h1 : k = j
  · subst h1; simp
  · rw [if_neg (Ne.symm h1), if_neg h1, getD_set _ _ _ _ hk]
    by_cases h2 : k = i
    · subst h2; simp
    · rw [if_neg (Ne.symm h2), if_neg h2]
/-- Where an element comes from. -/
def src (i j k : Nat) : Nat := if k = j then i else if k = i then j else k
theorem swp_src (l : List Int) {i j : Nat} (hi : i < l.length) (hj : j < l.length) {k : Nat} (hk : k < l.length) : (swp l i j).getD k 0 = l.getD (src i j k) 0 ∧ src i j k < l.length := by
  rw [swp_get l hi hj hk]
  unfold src
  split
  · exact ⟨rfl, hi⟩
  · split
    · exact ⟨rfl, hj⟩
    · exact ⟨rfl, hk⟩
theorem src_inj {i j k m : Nat} (h : src i j k = src i j m) : k = m := by
  unfold src at h
  split at h <;> split at h <;> (try split at h) <;> (try split at h) <;> omega
theorem once_swp {l : List Int} {i j : Nat} (hi : i < l.length) (hj : j < l.length) (h : Once l) : Once (swp l i j) := by
  refine ⟨fun k hk => ?_, fun k m hkm hm => ?_⟩
  · rw [swp_length] at hk ⊢
    obtain ⟨h1, h2⟩ := swp_src l hi hj hk
    rw [h1]
    exact h.1 _ h2
  · rw [swp_length] at hm
    obtain ⟨h1, h2⟩ := swp_src l hi hj hm
    obtain ⟨h3, h4⟩ := swp_src l hi hj (show k < l.length by omega)
    rw [h1, h3]
    rcases Nat.lt_trichotomy (src i j k) (src i j m) with h5 | h5 | h5
    · exact h.2 _ _ h5 h2
    · exact absurd (src_inj h5) (by omega)
    · exact (h.2 _ _ h5 h4).symm
theorem once_drawGo : ∀ (i : Nat) (x : Int) (l : List Int), i < l.length → 0 ≤ x → Once l → Once (drawGo i x l)
  | 0, _, _, _, _, h => h
  | i + 1, x, l, hi, hx, h => by
    rw [drawGo]
    obtain ⟨j, hj, hji⟩ := mod_bounds (nxt x) i
    rw [hj]
    exact once_drawGo i _ _ (by rw [swp_length]; omega) (nxt_bounds hx).1 (once_swp hi (by simp; omega) h)
theorem idn_get {n i : Nat} (h : i < n) : (idn n).getD i 0 = i := by
  simp [idn, List.getD_eq_getElem?_getD, h]
theorem once_idn (n : Nat) : Once (idn n) := by
  refine ⟨fun i hi => ?_, fun i j hij hj => ?_⟩
  · rw [idn_length] at hi ⊢
    rw [idn_get hi]; omega
  · rw [idn_length] at hj
    rw [idn_get hj, idn_get (by omega)]; omega
theorem once_perm (key : Int) (n : Nat) (hk : 0 ≤ key) : Once (perm key n) := by
  rcases Nat.eq_zero_or_pos n with rfl | h
  · exact ⟨fun i hi => absurd hi (by simp [perm_length]), fun i j _ hj => absurd hj (by simp [perm_length])⟩
  · exact once_drawGo _ _ _ (by rw [idn_length]; omega) hk (once_idn n)

theorem drawGo_last : ∀ (i : Nat) (x : Int) (l : List Int) (k : Nat), i < k → k < l.length → 0 ≤ x → (drawGo i x l).getD k 0 = l.getD k 0
  | 0, _, _, _, _, _, _ => rfl
  | i + 1, x, l, k, hik, hk, hx => by
    rw [drawGo]
    obtain ⟨j, hj, hji⟩ := mod_bounds (nxt x) i
    rw [hj, drawGo_last i _ _ k (by omega) (by rw [swp_length]; exact hk) (nxt_bounds hx).1, Int.toNat_natCast, swp_get l (by omega) (by omega) hk, if_neg (by omega), if_neg (by omega)]
theorem perm_last (key : Int) (n : Nat) (hk : 0 ≤ key) (h : 2 ≤ n) : (perm key n).getD (n - 1) 0 = nxt key % (n : Int) := by
  obtain ⟨i, rfl⟩ : ∃ i, n = i + 2 := ⟨n - 2, by omega⟩
  show (drawGo (i + 1) key (idn (i + 2))).getD (i + 1) 0 = _
  rw [drawGo]
  obtain ⟨j, hj, hji⟩ := mod_bounds (nxt key) i
  rw [hj, drawGo_last i _ _ (i + 1) (by omega) (by rw [swp_length, idn_length]; omega) (nxt_bounds hk).1, Int.toNat_natCast, swp_get _ (by rw [idn_length]; omega) (by rw [idn_length]; omega) (by rw [idn_length]; omega)]
  have e : nxt key % ((i + 2 : Nat) : Int) = j := by rw [← hj]; congr 1
  rw [e]
  split
  · rename_i h1; rw [idn_get (by omega)]; omega
  · rw [if_pos rfl, idn_get (by omega)]
end Go.Proofs.YtgjggfpofgfchaaGreatDoor
