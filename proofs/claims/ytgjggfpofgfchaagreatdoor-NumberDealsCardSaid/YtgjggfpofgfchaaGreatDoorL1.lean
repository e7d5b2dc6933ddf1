import Derived.Test.YtgjggfpofgfchaaGreatDoorProg
import Derived.WalkKit
import Derived.WalkSpells
import Derived.WalkLawsBesides
import Derived.Lib.Hide
import Derived.Laws.OwnMore
import Derived.Laws.Externs
import Derived.Deep.QuietTactic
import Derived.BigQuiet
import Derived.Test.YtgjggfpofgfchaaGreatDoorNum
set_option linter.unusedSectionVars false
set_option linter.unusedVariables false
set_option linter.unusedSimpArgs false
namespace Go.Proofs.YtgjggfpofgfchaaGreatDoor
open Go.RowKit LimbNum

/-- The value of a limb. -/
def u64 (n : Nat) : Value := .int .u64 (n : Int)
theorem u64_def (n : Nat) : u64 n = .int .u64 (n : Int) := rfl

/-- What holds behind a call: all blocks that were there are as they were. -/
abbrev Kept (w w' : World) : Prop := Below w.heap.size w w'

/-- A row of limbs. -/
def RowAt (w : World) (a : Option Addr) (xs : List Nat) : Prop :=
  (a = none ∧ xs = []) ∨ ∃ b off, a = some ⟨b, off, none⟩ ∧ b < w.heap.size ∧ ∀ i, i < xs.length → w.cell? ⟨b, off + i, none⟩ = some (.int .u64 ((xs.getD i 0 : Nat) : Int))
theorem RowAt.kept {w w' : World} {a : Option Addr} {xs : List Nat} (h : RowAt w a xs) (k : Kept w w') : RowAt w' a xs := by
  rcases h with h | ⟨b, off, rfl, hb, hc⟩
  · exact .inl h
  · exact .inr ⟨b, off, rfl, Nat.lt_of_lt_of_le hb k.size, fun i hi => (k.cell (p := ⟨b, off + i, none⟩) hb).trans (hc i hi)⟩
theorem RowAt.below {w w' : World} {a : Option Addr} {xs : List Nat} {N : Nat} (h : RowAt w a xs) (hn : w.heap.size ≤ N) (k : Below N w w') : RowAt w' a xs := h.kept (k.mono hn)

/-- The slice of the limbs of a number. -/
def Lim (w : World) (v : Value) (n : Nat) : Prop :=
  ∃ a c, v = .slice a (size n) c ∧ size n ≤ c ∧ RowAt w a (limbs n)
theorem Lim.kept {w w' : World} {v : Value} {n : Nat} (h : Lim w v n) (k : Kept w w') : Lim w' v n := by
  obtain ⟨a, c, rfl, hc, hr⟩ := h
  exact ⟨a, c, rfl, hc, hr.kept k⟩
theorem Lim.zero_nil (w : World) : Lim w (.slice none 0 0) 0 := ⟨none, 0, rfl, Nat.le_refl _, .inl ⟨rfl, limbs_zero⟩⟩

/-- The cells of limbs as the kit's laws on owned rows want them. -/
def cellsOf (xs : List Nat) : List Value := xs.map fun (x : Nat) => Value.int .u64 (x : Int)
theorem cellsOf_length (xs : List Nat) : (cellsOf xs).length = xs.length := by simp [cellsOf]
theorem cellsOf_get {xs : List Nat} {i : Nat} (h : i < xs.length) : (cellsOf xs)[i]? = some (.int .u64 ((xs.getD i 0 : Nat) : Int)) := by
  simp [cellsOf, h]
theorem cellsOf_set (xs : List Nat) (i v : Nat) : (cellsOf xs).set i (.int .u64 (v : Int)) = cellsOf (xs.set i v) := by
  simp [cellsOf, List.map_set]
theorem cells_made (n : Nat) : (madeCells (Value.int .u64 0).cells (n * 1)).toList = cellsOf (List.replicate n 0) := by
  rw [Nat.mul_one]
  have := toList_madeCells_one (.int .u64 0) n
  rw [show (Value.int .u64 0).cells = #[Value.int .u64 0] from rfl, this]
  simp [cellsOf]

/-- A slice of the call's own with these limbs. -/
def Own (w : World) (B : Nat) (g n : Nat) (xs : List Nat) : Prop :=
  xs.length = n ∧ w.ownsRow B 178 1 (.slice (some ⟨g, 0, none⟩) n n) n (cellsOf xs)
theorem Own.cell {w : World} {B g n : Nat} {xs : List Nat} (h : Own w B g n xs) {i : Nat} (hi : i < n) : w.cell? ⟨g, i, none⟩ = some (.int .u64 ((xs.getD i 0 : Nat) : Int)) := by
  rw [h.2.cellAt i (by omega), cellsOf_get (by rw [h.1]; exact hi)]
theorem Own.free {w : World} {B g n : Nat} {xs : List Nat} (h : Own w B g n xs) (i : Nat) : w.frozen? ⟨g, i, none⟩ = false := h.2.frozenAt i
theorem Own.set {w : World} {B g n : Nat} {xs : List Nat} (h : Own w B g n xs) (i v : Nat) : Own (w.setCell ⟨g, i, none⟩ (.int .u64 (v : Int))) B g n (xs.set i v) := by
  refine ⟨by simp [h.1], ?_⟩
  have := (h.2.stored i (.int .u64 (v : Int))).1
  rwa [cellsOf_set] at this
theorem Own.lt {w : World} {B g n : Nat} {xs : List Nat} (h : Own w B g n xs) : g < w.heap.size ∧ B ≤ g := by
  rcases h.2.2 with ⟨h', _⟩ | ⟨g', cap', cur, h', hb, hg, _⟩
  · simp at h'
  · simp only [Value.slice.injEq, Option.some.injEq, Addr.mk.injEq, and_true, true_and] at h'
    obtain ⟨rfl, rfl⟩ := h'
    exact ⟨by rcases Nat.lt_or_ge g w.heap.size with h | h; exact h; simp [h] at hg, hb⟩
theorem Own.row {w : World} {B g n : Nat} {xs : List Nat} (h : Own w B g n xs) : RowAt w (some ⟨g, 0, none⟩) xs :=
  .inr ⟨g, 0, rfl, h.lt.1, fun i hi => by rw [Nat.zero_add]; exact h.cell (by rw [← h.1]; exact hi)⟩
/-- The limbs of a row, without the zeros at their end. -/
theorem lim_of_row {w : World} {a : Option Addr} {xs : List Nat} {c : Nat} (h : RowAt w a xs) (hf : Fit xs) (hc : xs.length ≤ c) : Lim w (.slice a (trimN xs) c) (val xs) := by
  have ht := trimN_le xs
  have he := trimN_eq hf
  refine ⟨a, c, by rw [trimN_size hf], by rw [← trimN_size hf]; omega, ?_⟩
  rcases h with ⟨rfl, rfl⟩ | ⟨b, off, rfl, hb, hcell⟩
  · exact .inl ⟨rfl, rfl⟩
  · refine .inr ⟨b, off, rfl, hb, fun i hi => ?_⟩
    rw [← he, List.length_take] at hi
    have e : (xs.take (trimN xs)).getD i 0 = xs.getD i 0 := by
      rw [getD_lt (by rw [List.length_take]; exact hi), getD_lt (by omega), List.getElem_take]
    rw [hcell i (by omega), ← he, e]

theorem Tryz.info_u64 : (Tryz.prog.info? 178).map (fun i => (i.zero, i.size, i.bytes)) = some (some (.int .u64 0), 1, 8) := by kernel_rfl

theorem run_Add64 (x y c : Nat) (hc : c ≤ 1) (w : World) :
    (callFunc 142 #[.int .u64 x, .int .u64 y, .int .u64 c]).run Tryz.prog w =
      .ok (.value (.tuple #[.int .u64 (((x + y + c) % LimbNum.B : Nat) : Int), .int .u64 (((x + y + c) / LimbNum.B : Nat) : Int)])) w := by
  rw [run_callFunc_extern Tryz.func142 (by kernel_rfl) (by kernel_rfl) (by kernel_rfl) (e := add64Entry) (by kernel_rfl), run_add64 x y c (by omega) (by omega) (by omega) (by omega)]
  simp only [Result.andThen, LimbNum.B]
  congr 5 <;> omega

def sub64Entry : Array Value → Sem Value := fun args => do
  let (x, y, b) ← Extern.MathBitsCarry.three "Sub64" args
  pure (Extern.MathBitsCarry.pair ((x + Extern.MathBitsCarry.m64 - y - b) % Extern.MathBitsCarry.m64) (if x < y + b then 1 else 0))
theorem run_sub64 (x y b : Nat) (hb : b ≤ 1) (w : World) :
    (sub64Entry #[.int .u64 x, .int .u64 y, .int .u64 b]).run Tryz.prog w =
      .ok (.tuple #[.int .u64 (((x + 18446744073709551616 - y - b) % 18446744073709551616 : Nat) : Int), .int .u64 ((if x < y + b then 1 else 0 : Nat) : Int)]) w := by
  have : b = 0 ∨ b = 1 := by omega
  rcases this with rfl | rfl <;> rfl
theorem run_Sub64 (x y b : Nat) (hb : b ≤ 1) (w : World) :
    (callFunc 161 #[.int .u64 x, .int .u64 y, .int .u64 b]).run Tryz.prog w =
      .ok (.value (.tuple #[.int .u64 (((x + LimbNum.B - (y + b)) % LimbNum.B : Nat) : Int), .int .u64 ((if x < y + b then 1 else 0 : Nat) : Int)])) w := by
  rw [run_callFunc_extern Tryz.func161 (by kernel_rfl) (by kernel_rfl) (by kernel_rfl) (e := sub64Entry) (by kernel_rfl), run_sub64 x y b hb, Nat.sub_sub]
  rfl

set_option maxHeartbeats 400000 in
theorem trimmed_any (b off n c : Nat) (xs : List Nat) (w : World) (hn : xs.length = n) (hm : n ≤ 1099511627776) (hnc : n ≤ c)
    (hc : ∀ i, i < n → w.cell? ⟨b, off + i, none⟩ = some (.int .u64 ((xs.getD i 0 : Nat) : Int))) :
    Calls Tryz.prog 143 #[.slice (some ⟨b, off, none⟩) n c] w fun e w' => e = .returned (.slice (some ⟨b, off, none⟩) (trimN xs) c) ∧ w = w' := by
  have ht := trimN_le xs
  rw [hn] at ht
  have Hn := Lib.hid hn
  clear hn
  go_enter Tryz.func143, Tryz.ntmps143
  go_wp2
  go_loop [3] (fun v => ∃ k : Nat, k ≤ n ∧ trimN xs ≤ k ∧ v = .int .i64 k) (fun v => (intOf v).toNat)
  case atStart => exact ⟨n, Nat.le_refl _, ht, rfl⟩
  case round =>
    obtain ⟨k, hk, htk, rfl⟩ := hrel
    by_cases hk0 : k = 0
    · subst hk0
      have h0 : trimN xs = 0 := by omega
      rw [h0]
      go_wp2
      go_ret
      exact ⟨rfl, rfl⟩
    · have hcell := hc (k - 1) (by omega)
      by_cases hy : xs.getD (k - 1) 0 = 0
      · rw [hy] at hcell
        have hs := trimN_step (by omega) (by rw [Hn.out]; omega) hy htk
        have H := Lib.hid hy
        clear hy hc
        go_wp2
        go_round
        case rel => exact ⟨k - 1, by omega, hs, by go_num⟩
        case measure => simp [intOf]; omega
      · have hs := trimN_stop (by omega) (by rw [Hn.out]; omega) hy htk
        have hb : ((((xs.getD (k - 1) 0 : Nat) : Int)) == 0) = false := by rw [beq_eq_false_iff_ne]; omega
        generalize xs.getD (k - 1) 0 = y at *
        have Hs := Lib.hid hs
        clear hy hc hs
        go_wp2
        go_ret
        rw [Hs.out]
        exact ⟨rfl, rfl⟩
end Go.Proofs.YtgjggfpofgfchaaGreatDoor

namespace Go.Proofs.YtgjggfpofgfchaaGreatDoor
open Go.RowKit LimbNum

/-- -1, 0 or 1. -/
def ord (x y : Nat) : Int := if x < y then -1 else if y < x then 1 else 0

set_option maxRecDepth 100000 in
set_option maxHeartbeats 1000000 in
theorem compareLimbs_lens (va vb : Option Addr) (la lb ca cb : Nat) (w : World) (hne : la ≠ lb) :
    Calls Tryz.prog 133 #[.slice va la ca, .slice vb lb cb] w fun e w' => e = .returned (.int .i64 (ord la lb)) ∧ w = w' := by
  by_cases hlt : la < lb
  · have hs : ord la lb = -1 := by simp [ord, hlt]
    rw [hs]
    clear hs
    go_enter Tryz.func133, Tryz.ntmps133
    go_wp2
    go_ret
    exact ⟨rfl, rfl⟩
  · have hs : ord la lb = 1 := by simp [ord, hlt]; omega
    rw [hs]
    clear hs
    have hgt : lb < la := by omega
    go_enter Tryz.func133, Tryz.ntmps133
    go_wp2
    go_ret
    exact ⟨rfl, rfl⟩

/-- What is left of the comparison when the limbs from k on are equal. -/
theorem ord_high {xs ys : List Nat} (hx : Fit xs) (hy : Fit ys) (hl : xs.length = ys.length) {k : Nat} (hk : k < xs.length) (he : ∀ t, k < t → t < xs.length → xs.getD t 0 = ys.getD t 0) :
    (xs.getD k 0 < ys.getD k 0 → ord (val xs) (val ys) = -1) ∧ (ys.getD k 0 < xs.getD k 0 → ord (val xs) (val ys) = 1) := by
  constructor
  · intro h
    have := cmp_high hx hl hk he h
    simp [ord, this]
  · intro h
    have := cmp_high hy hl.symm (by omega) (fun t h1 h2 => (he t h1 (by omega)).symm) h
    simp [ord, this]; omega

set_option maxRecDepth 100000 in
set_option maxHeartbeats 1000000 in
theorem compareLimbs_same (b1 o1 b2 o2 n ca cb : Nat) (xs ys : List Nat) (w : World) (hlx : xs.length = n) (hly : ys.length = n) (hm : n ≤ 1073741824) (hfx : Fit xs) (hfy : Fit ys)
    (hca : ∀ i, i < n → w.cell? ⟨b1, o1 + i, none⟩ = some (.int .u64 ((xs.getD i 0 : Nat) : Int)))
    (hcb : ∀ i, i < n → w.cell? ⟨b2, o2 + i, none⟩ = some (.int .u64 ((ys.getD i 0 : Nat) : Int))) :
    Calls Tryz.prog 133 #[.slice (some ⟨b1, o1, none⟩) n ca, .slice (some ⟨b2, o2, none⟩) n cb] w fun e w' => e = .returned (.int .i64 (ord (val xs) (val ys))) ∧ ∃ q, w' = w.drewN q := by
  go_enter Tryz.func133, Tryz.ntmps133
  go_wp2
  go_loopw [5] (fun i wr => ∃ k : Nat, k ≤ n ∧ i = .int .i64 ((k : Int) - 1) ∧ (∀ t, k ≤ t → t < n → xs.getD t 0 = ys.getD t 0) ∧ ∃ q, wr = w.drewN q) (fun i _ => (intOf i + 1).toNat)
  case atStart => exact ⟨n, Nat.le_refl _, rfl, fun t h1 h2 => by omega, 0, rfl⟩
  case round =>
    obtain ⟨k, hk, rfl, hsame, q, rfl⟩ := hrel
    by_cases hk0 : k = 0
    · subst hk0
      have Hs := Lib.hid hsame
      clear hsame hca hcb
      rw [show ((0 : Nat) : Int) - 1 = -1 from rfl]
      go_wp2
      go_ret
      refine ⟨?_, q, rfl⟩
      have e : xs = ys := by
        apply List.ext_getElem
        · rw [hlx, hly]
        · intro t h1 h2
          have := Hs.out t (Nat.zero_le _) (by omega)
          rwa [getD_lt h1, getD_lt h2] at this
      rw [e, show ord (val ys) (val ys) = 0 by simp [ord]]
      rfl
    · obtain ⟨j, rfl⟩ : ∃ j, k = j + 1 := ⟨k - 1, by omega⟩
      rw [show ((j + 1 : Nat) : Int) - 1 = (j : Int) by omega]
      have ca := hca j (by omega)
      have cb' := hcb j (by omega)
      have ho := ord_high hfx hfy (by omega) (k := j) (by omega) (fun t h1 h2 => hsame t (by omega) (by omega))
      have hs2 : xs.getD j 0 = ys.getD j 0 → ∀ t, j ≤ t → t < n → xs.getD t 0 = ys.getD t 0 := by
        intro h t h1 h2
        by_cases e : t = j
        · subst e; exact h
        · exact hsame t (by omega) h2
      clear hsame hca hcb hlx hly
      generalize xs.getD j 0 = x at *
      generalize ys.getD j 0 = y at *
      rcases Nat.lt_trichotomy x y with hxy | hxy | hxy
      · have Ho := Lib.hid (ho.1 hxy)
        clear ho hs2
        go_wp2
        go_quiet (fail)
        go_wp2
        go_ret
        rw [Ho.out]
        simp only [World.drewN_drewN]
        exact ⟨rfl, _, rfl⟩
      · have Hs := Lib.hid (hs2 hxy)
        clear ho hs2
        subst hxy
        have hirr : ¬ x < x := Nat.lt_irrefl x
        go_wp2
        go_quiet (fail)
        go_wp2
        go_quiet (fail)
        go_wp2
        go_roundw
        case rel => exact ⟨j, by omega, by go_num, Hs.out, by first | exact ⟨_, rfl⟩ | (simp only [World.drewN_drewN]; exact ⟨_, rfl⟩)⟩
        case measure => simp [intOf]
      · have Ho := Lib.hid (ho.2 hxy)
        clear ho hs2
        have hnlt : ¬ x < y := by omega
        go_wp2
        go_quiet (fail)
        go_wp2
        go_quiet (fail)
        go_wp2
        go_ret
        rw [Ho.out]
        simp only [World.drewN_drewN]
        exact ⟨rfl, _, rfl⟩

theorem ord_size {x y : Nat} (h : size x ≠ size y) : ord (size x) (size y) = ord x y := by
  unfold ord
  rcases Nat.lt_or_ge (size x) (size y) with h1 | h1
  · rw [if_pos h1, if_pos (cmp_len h1)]
  · have h2 : size y < size x := by omega
    have h3 := cmp_len h2
    rw [if_neg (by omega), if_pos h2, if_neg (by omega), if_pos h3]

set_option maxRecDepth 100000 in
set_option maxHeartbeats 1000000 in
theorem compareLimbs_zero (va vb : Option Addr) (ca cb : Nat) (w : World) :
    Calls Tryz.prog 133 #[.slice va 0 ca, .slice vb 0 cb] w fun e w' => e = .returned (.int .i64 0) ∧ w = w' := by
  go_enter Tryz.func133, Tryz.ntmps133
  go_wp2
  go_loop [5] (fun i => i = .int .i64 (-1)) (fun _ => 0)
  case atStart => exact rfl
  case round =>
    obtain rfl := hrel
    go_wp2
    go_ret
    exact ⟨rfl, rfl⟩

theorem compareLimbs_any (va vb : Value) (x y : Nat) (w : World) (ha : Lim w va x) (hb : Lim w vb y) (hx : size x ≤ 1073741824) :
    Calls Tryz.prog 133 #[va, vb] w fun e w' => e = .returned (.int .i64 (ord x y)) ∧ ∃ q, w' = w.drewN q := by
  obtain ⟨a1, c1, rfl, _, hr1⟩ := ha
  obtain ⟨a2, c2, rfl, _, hr2⟩ := hb
  by_cases hs : size x = size y
  · rcases hr1 with ⟨rfl, h1⟩ | ⟨b1, o1, rfl, hb1, hc1⟩
    · obtain rfl : x = 0 := limbs_eq_nil.1 h1
      obtain rfl : y = 0 := by
        have := size_zero
        by_cases h0 : y = 0
        · exact h0
        · have := size_pos.2 h0; omega
      refine (compareLimbs_zero none a2 c1 c2 w).mono ?_
      rintro e w' ⟨rfl, rfl⟩
      exact ⟨rfl, 0, rfl⟩
    · rcases hr2 with ⟨rfl, h2⟩ | ⟨b2, o2, rfl, hb2, hc2⟩
      · obtain rfl : y = 0 := limbs_eq_nil.1 h2
        obtain rfl : x = 0 := by
          have := size_zero
          by_cases h0 : x = 0
          · exact h0
          · have := size_pos.2 h0; omega
        refine (compareLimbs_zero _ none c1 c2 w).mono ?_
        rintro e w' ⟨rfl, rfl⟩
        exact ⟨rfl, 0, rfl⟩
      · have := compareLimbs_same b1 o1 b2 o2 (size x) c1 c2 (limbs x) (limbs y) w rfl hs.symm hx (limbs_fit _) (limbs_fit _) hc1 (fun i hi => hc2 i (by rw [show (limbs y).length = (limbs x).length from hs.symm]; exact hi))
        rw [val_limbs, val_limbs] at this
        rw [← hs]
        exact this
  · refine (compareLimbs_lens a1 a2 (size x) (size y) c1 c2 w hs).mono ?_
    rintro e w' ⟨rfl, rfl⟩
    exact ⟨by rw [ord_size hs], 0, rfl⟩
end Go.Proofs.YtgjggfpofgfchaaGreatDoor

namespace Go.Proofs.YtgjggfpofgfchaaGreatDoor
open Go.RowKit LimbNum

set_option maxRecDepth 100000 in
set_option maxHeartbeats 1000000 in
theorem addLimbs_le (b1 o1 ca la lb cb : Nat) (vb : Option Addr) (xs ys : List Nat) (w : World) (hla : xs.length = la) (hlb : ys.length = lb) (hle : lb ≤ la) (hm : la ≤ 1073741824)
    (hfx : Fit xs) (hfy : Fit ys) (hb1 : b1 < w.heap.size)
    (hca : ∀ i, i < la → w.cell? ⟨b1, o1 + i, none⟩ = some (.int .u64 ((xs.getD i 0 : Nat) : Int)))
    (hvb : (vb = none ∧ lb = 0) ∨ ∃ b2 o2, vb = some ⟨b2, o2, none⟩ ∧ b2 < w.heap.size ∧ ∀ i, i < lb → w.cell? ⟨b2, o2 + i, none⟩ = some (.int .u64 ((ys.getD i 0 : Nat) : Int))) :
    Calls Tryz.prog 139 #[.slice (some ⟨b1, o1, none⟩) la ca, .slice vb lb cb] w fun e w' => ∃ v, e = .returned v ∧ Lim w' v (val xs + val ys) ∧ Kept w w' := by
  obtain ⟨i0, hi, hz0, hz1, hz2⟩ := info_parts Tryz.info_u64
  have hall := add_all (xs := xs) (ys := ys) (by omega)
  have hfit : Fit (fill (addD xs ys xs.length) (xs.length + 1) (xs.length + 1)) := fill_fit fun i _ => addD_lt hfx hfy _ i
  rw [hla] at hall hfit
  have Hall := Lib.hid hall
  clear hall
  have hnlt : decide ((la : Int) < lb) = false := by simp; omega
  clear hla
  rcases hvb with ⟨rfl, rfl⟩ | ⟨b2, o2, rfl, hb2, hcb⟩
  · have hlb' : ys.length ≤ 0 := by omega
    clear hlb

    go_enter Tryz.func139, Tryz.ntmps139
    go_wp2_with (at_make; go_loud (refine wpList_make_full _ rfl _ _ 69 rfl w.heap.size 178 i0 (.int .u64 0) 1 Tryz.underlying69 hi hz0 hz1 .i64 .i64 _ _ (la + 1) rfl rfl (by omega) (by omega) (by rw [hz2]; omega) (by unfold maxLen; omega) (Nat.le_refl _) ?_); intro w1 hown1 hgrow1)
    rw [cells_made, ← fill_zero (addD xs ys la)] at hown1
    have hO : Own w1 w.heap.size w.heap.size (la + 1) (fill (addD xs ys la) 0 (la + 1)) := ⟨fill_length _ _ _, hown1⟩
    have hB : Below w.heap.size w w1 := (Below.refl _ _).grown hgrow1 (Nat.le_refl _) (by intro k h; cases h)
    clear hown1 hgrow1 hi hz0 hz1 hz2
    generalize hg : w.heap.size = G at *
    have hG := Lib.hid hg
    clear hg
    go_wp2
    go_loopw [6, 23] (fun c i wr => ∃ k : Nat, k ≤ la ∧ i = .int .i64 k ∧ c = .int .u64 ((addC xs ys k : Nat) : Int) ∧ Own wr G G (la + 1) (fill (addD xs ys la) k (la + 1)) ∧ Below G w wr) (fun _ i _ => la - (intOf i).toNat)
    case atStart => exact ⟨0, Nat.zero_le _, rfl, rfl, hO, hB⟩
    case round =>
      clear hO hB
      obtain ⟨k, hk, rfl, rfl, hown, hbel⟩ := hrel
      by_cases hlt : k < la
      · have hy0 : ys.getD k 0 = 0 := by rw [getD_ge (by omega)]
        
        have hadd := run_Add64 (xs.getD k 0) (ys.getD k 0) (addC xs ys k) (addC_le hfx hfy k)
        have eD : (xs.getD k 0 + ys.getD k 0 + addC xs ys k) % LimbNum.B = addD xs ys la k := by simp [addD, hlt]
        have eC : (xs.getD k 0 + ys.getD k 0 + addC xs ys k) / LimbNum.B = addC xs ys (k + 1) := rfl
        rw [eD, eC] at hadd
        have hset := hown.set k (addD xs ys la k)
        rw [fill_set] at hset
        have hfree := hown.free k
        have hcell := (hbel.cell (p := ⟨b1, o1 + k, none⟩) hb1).trans (hca k hlt)
        have hold := hown.cell (i := k) (by omega)
        rw [hy0, show ((0 : Nat) : Int) = 0 from rfl] at hadd
        clear eD eC
        generalize xs.getD k 0 = x at *
        generalize ys.getD k 0 = y at *
        generalize (fill (addD xs ys la) k (la + 1)).getD k 0 = z at *
        go_wp2
        go_roundw
        case rel => exact ⟨k + 1, by omega, by go_num, rfl, hset, hbel.setCell (Nat.le_refl _) _⟩
        case measure => simp [intOf]; omega
      · obtain rfl : k = la := by omega
        have hset := hown.set k (addD xs ys k k)
        rw [fill_set] at hset
        rw [show addD xs ys k k = addC xs ys k by simp [addD]] at hset
        have hfree := hown.free k
        have hold := hown.cell (i := k) (by omega)
        generalize (fill (addD xs ys k) k (k + 1)).getD k 0 = z at *
        go_wp2_with fail
        have hbel2 := hbel.setCell (Nat.le_refl G) (p := ⟨G, k, none⟩) (.int .u64 ((addC xs ys k : Nat) : Int))
        have hrow := hset.row
        generalize (wr.setCell ⟨G, k, none⟩ (.int .u64 ((addC xs ys k : Nat) : Int))) = w2 at *
        refine (trimmed_any G 0 (k + 1) (k + 1) (fill (addD xs ys k) (k + 1) (k + 1)) w2 (fill_length _ _ _) (by omega) (Nat.le_refl _) (fun i hi => by rw [Nat.zero_add]; exact hset.cell hi)).mono ?_
        rintro e w' ⟨rfl, rfl⟩
        go_wp2
        go_ret
        refine ⟨_, rfl, ?_, by unfold Kept; rw [hG.out]; exact hbel2⟩
        rw [← Hall.out]
        exact lim_of_row hrow hfit (by rw [fill_length]; exact Nat.le_refl _)
  · have hlb' : ys.length ≤ lb := by omega
    clear hlb

    go_enter Tryz.func139, Tryz.ntmps139
    go_wp2_with (at_make; go_loud (refine wpList_make_full _ rfl _ _ 69 rfl w.heap.size 178 i0 (.int .u64 0) 1 Tryz.underlying69 hi hz0 hz1 .i64 .i64 _ _ (la + 1) rfl rfl (by omega) (by omega) (by rw [hz2]; omega) (by unfold maxLen; omega) (Nat.le_refl _) ?_); intro w1 hown1 hgrow1)
    rw [cells_made, ← fill_zero (addD xs ys la)] at hown1
    have hO : Own w1 w.heap.size w.heap.size (la + 1) (fill (addD xs ys la) 0 (la + 1)) := ⟨fill_length _ _ _, hown1⟩
    have hB : Below w.heap.size w w1 := (Below.refl _ _).grown hgrow1 (Nat.le_refl _) (by intro k h; cases h)
    clear hown1 hgrow1 hi hz0 hz1 hz2
    generalize hg : w.heap.size = G at *
    have hG := Lib.hid hg
    clear hg
    go_wp2
    go_loopw [6, 23] (fun c i wr => ∃ k : Nat, k ≤ la ∧ i = .int .i64 k ∧ c = .int .u64 ((addC xs ys k : Nat) : Int) ∧ Own wr G G (la + 1) (fill (addD xs ys la) k (la + 1)) ∧ Below G w wr) (fun _ i _ => la - (intOf i).toNat)
    case atStart => exact ⟨0, Nat.zero_le _, rfl, rfl, hO, hB⟩
    case round =>
      clear hO hB
      obtain ⟨k, hk, rfl, rfl, hown, hbel⟩ := hrel
      by_cases hlt : k < la
      · 
        by_cases hk2 : k < lb
        · skip
          have hadd := run_Add64 (xs.getD k 0) (ys.getD k 0) (addC xs ys k) (addC_le hfx hfy k)
          have eD : (xs.getD k 0 + ys.getD k 0 + addC xs ys k) % LimbNum.B = addD xs ys la k := by simp [addD, hlt]
          have eC : (xs.getD k 0 + ys.getD k 0 + addC xs ys k) / LimbNum.B = addC xs ys (k + 1) := rfl
          rw [eD, eC] at hadd
          have hset := hown.set k (addD xs ys la k)
          rw [fill_set] at hset
          have hfree := hown.free k
          have hcell := (hbel.cell (p := ⟨b1, o1 + k, none⟩) hb1).trans (hca k hlt)
          have hold := hown.cell (i := k) (by omega)
          have hcell2 := (hbel.cell (p := ⟨b2, o2 + k, none⟩) hb2).trans (hcb k hk2)
          clear eD eC
          generalize xs.getD k 0 = x at *
          generalize ys.getD k 0 = y at *
          generalize (fill (addD xs ys la) k (la + 1)).getD k 0 = z at *
          go_wp2
          go_roundw
          case rel => exact ⟨k + 1, by omega, by go_num, rfl, hset, hbel.setCell (Nat.le_refl _) _⟩
          case measure => simp [intOf]; omega
        · have hy0 : ys.getD k 0 = 0 := by rw [getD_ge (by omega)]
          have hadd := run_Add64 (xs.getD k 0) (ys.getD k 0) (addC xs ys k) (addC_le hfx hfy k)
          have eD : (xs.getD k 0 + ys.getD k 0 + addC xs ys k) % LimbNum.B = addD xs ys la k := by simp [addD, hlt]
          have eC : (xs.getD k 0 + ys.getD k 0 + addC xs ys k) / LimbNum.B = addC xs ys (k + 1) := rfl
          rw [eD, eC] at hadd
          have hset := hown.set k (addD xs ys la k)
          rw [fill_set] at hset
          have hfree := hown.free k
          have hcell := (hbel.cell (p := ⟨b1, o1 + k, none⟩) hb1).trans (hca k hlt)
          have hold := hown.cell (i := k) (by omega)
          rw [hy0, show ((0 : Nat) : Int) = 0 from rfl] at hadd
          clear eD eC
          generalize xs.getD k 0 = x at *
          generalize ys.getD k 0 = y at *
          generalize (fill (addD xs ys la) k (la + 1)).getD k 0 = z at *
          go_wp2
          go_roundw
          case rel => exact ⟨k + 1, by omega, by go_num, rfl, hset, hbel.setCell (Nat.le_refl _) _⟩
          case measure => simp [intOf]; omega
      · obtain rfl : k = la := by omega
        have hset := hown.set k (addD xs ys k k)
        rw [fill_set] at hset
        rw [show addD xs ys k k = addC xs ys k by simp [addD]] at hset
        have hfree := hown.free k
        have hold := hown.cell (i := k) (by omega)
        generalize (fill (addD xs ys k) k (k + 1)).getD k 0 = z at *
        go_wp2_with fail
        have hbel2 := hbel.setCell (Nat.le_refl G) (p := ⟨G, k, none⟩) (.int .u64 ((addC xs ys k : Nat) : Int))
        have hrow := hset.row
        generalize (wr.setCell ⟨G, k, none⟩ (.int .u64 ((addC xs ys k : Nat) : Int))) = w2 at *
        refine (trimmed_any G 0 (k + 1) (k + 1) (fill (addD xs ys k) (k + 1) (k + 1)) w2 (fill_length _ _ _) (by omega) (Nat.le_refl _) (fun i hi => by rw [Nat.zero_add]; exact hset.cell hi)).mono ?_
        rintro e w' ⟨rfl, rfl⟩
        go_wp2
        go_ret
        refine ⟨_, rfl, ?_, by unfold Kept; rw [hG.out]; exact hbel2⟩
        rw [← Hall.out]
        exact lim_of_row hrow hfit (by rw [fill_length]; exact Nat.le_refl _)

set_option maxRecDepth 100000 in
set_option maxHeartbeats 1000000 in
theorem addLimbs_gt (b1 o1 ca la lb cb : Nat) (vb : Option Addr) (xs ys : List Nat) (w : World) (hla : xs.length = la) (hlb : ys.length = lb) (hle : lb < la) (hm : la ≤ 1073741824)
    (hfx : Fit xs) (hfy : Fit ys) (hb1 : b1 < w.heap.size)
    (hca : ∀ i, i < la → w.cell? ⟨b1, o1 + i, none⟩ = some (.int .u64 ((xs.getD i 0 : Nat) : Int)))
    (hvb : (vb = none ∧ lb = 0) ∨ ∃ b2 o2, vb = some ⟨b2, o2, none⟩ ∧ b2 < w.heap.size ∧ ∀ i, i < lb → w.cell? ⟨b2, o2 + i, none⟩ = some (.int .u64 ((ys.getD i 0 : Nat) : Int))) :
    Calls Tryz.prog 139 #[.slice vb lb cb, .slice (some ⟨b1, o1, none⟩) la ca] w fun e w' => ∃ v, e = .returned v ∧ Lim w' v (val xs + val ys) ∧ Kept w w' := by
  obtain ⟨i0, hi, hz0, hz1, hz2⟩ := info_parts Tryz.info_u64
  have hall := add_all (xs := xs) (ys := ys) (by omega)
  have hfit : Fit (fill (addD xs ys xs.length) (xs.length + 1) (xs.length + 1)) := fill_fit fun i _ => addD_lt hfx hfy _ i
  rw [hla] at hall hfit
  have Hall := Lib.hid hall
  clear hall
  have hnlt : decide ((lb : Int) < la) = true := by simp; omega
  clear hla
  rcases hvb with ⟨rfl, rfl⟩ | ⟨b2, o2, rfl, hb2, hcb⟩
  · have hlb' : ys.length ≤ 0 := by omega
    clear hlb

    go_enter Tryz.func139, Tryz.ntmps139
    go_wp2_with (at_make; go_loud (refine wpList_make_full _ rfl _ _ 69 rfl w.heap.size 178 i0 (.int .u64 0) 1 Tryz.underlying69 hi hz0 hz1 .i64 .i64 _ _ (la + 1) rfl rfl (by omega) (by omega) (by rw [hz2]; omega) (by unfold maxLen; omega) (Nat.le_refl _) ?_); intro w1 hown1 hgrow1)
    rw [cells_made, ← fill_zero (addD xs ys la)] at hown1
    have hO : Own w1 w.heap.size w.heap.size (la + 1) (fill (addD xs ys la) 0 (la + 1)) := ⟨fill_length _ _ _, hown1⟩
    have hB : Below w.heap.size w w1 := (Below.refl _ _).grown hgrow1 (Nat.le_refl _) (by intro k h; cases h)
    clear hown1 hgrow1 hi hz0 hz1 hz2
    generalize hg : w.heap.size = G at *
    have hG := Lib.hid hg
    clear hg
    go_wp2
    go_loopw [6, 23] (fun c i wr => ∃ k : Nat, k ≤ la ∧ i = .int .i64 k ∧ c = .int .u64 ((addC xs ys k : Nat) : Int) ∧ Own wr G G (la + 1) (fill (addD xs ys la) k (la + 1)) ∧ Below G w wr) (fun _ i _ => la - (intOf i).toNat)
    case atStart => exact ⟨0, Nat.zero_le _, rfl, rfl, hO, hB⟩
    case round =>
      clear hO hB
      obtain ⟨k, hk, rfl, rfl, hown, hbel⟩ := hrel
      by_cases hlt : k < la
      · have hy0 : ys.getD k 0 = 0 := by rw [getD_ge (by omega)]
        
        have hadd := run_Add64 (xs.getD k 0) (ys.getD k 0) (addC xs ys k) (addC_le hfx hfy k)
        have eD : (xs.getD k 0 + ys.getD k 0 + addC xs ys k) % LimbNum.B = addD xs ys la k := by simp [addD, hlt]
        have eC : (xs.getD k 0 + ys.getD k 0 + addC xs ys k) / LimbNum.B = addC xs ys (k + 1) := rfl
        rw [eD, eC] at hadd
        have hset := hown.set k (addD xs ys la k)
        rw [fill_set] at hset
        have hfree := hown.free k
        have hcell := (hbel.cell (p := ⟨b1, o1 + k, none⟩) hb1).trans (hca k hlt)
        have hold := hown.cell (i := k) (by omega)
        rw [hy0, show ((0 : Nat) : Int) = 0 from rfl] at hadd
        clear eD eC
        generalize xs.getD k 0 = x at *
        generalize ys.getD k 0 = y at *
        generalize (fill (addD xs ys la) k (la + 1)).getD k 0 = z at *
        go_wp2
        go_roundw
        case rel => exact ⟨k + 1, by omega, by go_num, rfl, hset, hbel.setCell (Nat.le_refl _) _⟩
        case measure => simp [intOf]; omega
      · obtain rfl : k = la := by omega
        have hset := hown.set k (addD xs ys k k)
        rw [fill_set] at hset
        rw [show addD xs ys k k = addC xs ys k by simp [addD]] at hset
        have hfree := hown.free k
        have hold := hown.cell (i := k) (by omega)
        generalize (fill (addD xs ys k) k (k + 1)).getD k 0 = z at *
        go_wp2_with fail
        have hbel2 := hbel.setCell (Nat.le_refl G) (p := ⟨G, k, none⟩) (.int .u64 ((addC xs ys k : Nat) : Int))
        have hrow := hset.row
        generalize (wr.setCell ⟨G, k, none⟩ (.int .u64 ((addC xs ys k : Nat) : Int))) = w2 at *
        refine (trimmed_any G 0 (k + 1) (k + 1) (fill (addD xs ys k) (k + 1) (k + 1)) w2 (fill_length _ _ _) (by omega) (Nat.le_refl _) (fun i hi => by rw [Nat.zero_add]; exact hset.cell hi)).mono ?_
        rintro e w' ⟨rfl, rfl⟩
        go_wp2
        go_ret
        refine ⟨_, rfl, ?_, by unfold Kept; rw [hG.out]; exact hbel2⟩
        rw [← Hall.out]
        exact lim_of_row hrow hfit (by rw [fill_length]; exact Nat.le_refl _)
  · have hlb' : ys.length ≤ lb := by omega
    clear hlb

    go_enter Tryz.func139, Tryz.ntmps139
    go_wp2_with (at_make; go_loud (refine wpList_make_full _ rfl _ _ 69 rfl w.heap.size 178 i0 (.int .u64 0) 1 Tryz.underlying69 hi hz0 hz1 .i64 .i64 _ _ (la + 1) rfl rfl (by omega) (by omega) (by rw [hz2]; omega) (by unfold maxLen; omega) (Nat.le_refl _) ?_); intro w1 hown1 hgrow1)
    rw [cells_made, ← fill_zero (addD xs ys la)] at hown1
    have hO : Own w1 w.heap.size w.heap.size (la + 1) (fill (addD xs ys la) 0 (la + 1)) := ⟨fill_length _ _ _, hown1⟩
    have hB : Below w.heap.size w w1 := (Below.refl _ _).grown hgrow1 (Nat.le_refl _) (by intro k h; cases h)
    clear hown1 hgrow1 hi hz0 hz1 hz2
    generalize hg : w.heap.size = G at *
    have hG := Lib.hid hg
    clear hg
    go_wp2
    go_loopw [6, 23] (fun c i wr => ∃ k : Nat, k ≤ la ∧ i = .int .i64 k ∧ c = .int .u64 ((addC xs ys k : Nat) : Int) ∧ Own wr G G (la + 1) (fill (addD xs ys la) k (la + 1)) ∧ Below G w wr) (fun _ i _ => la - (intOf i).toNat)
    case atStart => exact ⟨0, Nat.zero_le _, rfl, rfl, hO, hB⟩
    case round =>
      clear hO hB
      obtain ⟨k, hk, rfl, rfl, hown, hbel⟩ := hrel
      by_cases hlt : k < la
      · 
        by_cases hk2 : k < lb
        · skip
          have hadd := run_Add64 (xs.getD k 0) (ys.getD k 0) (addC xs ys k) (addC_le hfx hfy k)
          have eD : (xs.getD k 0 + ys.getD k 0 + addC xs ys k) % LimbNum.B = addD xs ys la k := by simp [addD, hlt]
          have eC : (xs.getD k 0 + ys.getD k 0 + addC xs ys k) / LimbNum.B = addC xs ys (k + 1) := rfl
          rw [eD, eC] at hadd
          have hset := hown.set k (addD xs ys la k)
          rw [fill_set] at hset
          have hfree := hown.free k
          have hcell := (hbel.cell (p := ⟨b1, o1 + k, none⟩) hb1).trans (hca k hlt)
          have hold := hown.cell (i := k) (by omega)
          have hcell2 := (hbel.cell (p := ⟨b2, o2 + k, none⟩) hb2).trans (hcb k hk2)
          clear eD eC
          generalize xs.getD k 0 = x at *
          generalize ys.getD k 0 = y at *
          generalize (fill (addD xs ys la) k (la + 1)).getD k 0 = z at *
          go_wp2
          go_roundw
          case rel => exact ⟨k + 1, by omega, by go_num, rfl, hset, hbel.setCell (Nat.le_refl _) _⟩
          case measure => simp [intOf]; omega
        · have hy0 : ys.getD k 0 = 0 := by rw [getD_ge (by omega)]
          have hadd := run_Add64 (xs.getD k 0) (ys.getD k 0) (addC xs ys k) (addC_le hfx hfy k)
          have eD : (xs.getD k 0 + ys.getD k 0 + addC xs ys k) % LimbNum.B = addD xs ys la k := by simp [addD, hlt]
          have eC : (xs.getD k 0 + ys.getD k 0 + addC xs ys k) / LimbNum.B = addC xs ys (k + 1) := rfl
          rw [eD, eC] at hadd
          have hset := hown.set k (addD xs ys la k)
          rw [fill_set] at hset
          have hfree := hown.free k
          have hcell := (hbel.cell (p := ⟨b1, o1 + k, none⟩) hb1).trans (hca k hlt)
          have hold := hown.cell (i := k) (by omega)
          rw [hy0, show ((0 : Nat) : Int) = 0 from rfl] at hadd
          clear eD eC
          generalize xs.getD k 0 = x at *
          generalize ys.getD k 0 = y at *
          generalize (fill (addD xs ys la) k (la + 1)).getD k 0 = z at *
          go_wp2
          go_roundw
          case rel => exact ⟨k + 1, by omega, by go_num, rfl, hset, hbel.setCell (Nat.le_refl _) _⟩
          case measure => simp [intOf]; omega
      · obtain rfl : k = la := by omega
        have hset := hown.set k (addD xs ys k k)
        rw [fill_set] at hset
        rw [show addD xs ys k k = addC xs ys k by simp [addD]] at hset
        have hfree := hown.free k
        have hold := hown.cell (i := k) (by omega)
        generalize (fill (addD xs ys k) k (k + 1)).getD k 0 = z at *
        go_wp2_with fail
        have hbel2 := hbel.setCell (Nat.le_refl G) (p := ⟨G, k, none⟩) (.int .u64 ((addC xs ys k : Nat) : Int))
        have hrow := hset.row
        generalize (wr.setCell ⟨G, k, none⟩ (.int .u64 ((addC xs ys k : Nat) : Int))) = w2 at *
        refine (trimmed_any G 0 (k + 1) (k + 1) (fill (addD xs ys k) (k + 1) (k + 1)) w2 (fill_length _ _ _) (by omega) (Nat.le_refl _) (fun i hi => by rw [Nat.zero_add]; exact hset.cell hi)).mono ?_
        rintro e w' ⟨rfl, rfl⟩
        go_wp2
        go_ret
        refine ⟨_, rfl, ?_, by unfold Kept; rw [hG.out]; exact hbel2⟩
        rw [← Hall.out]
        exact lim_of_row hrow hfit (by rw [fill_length]; exact Nat.le_refl _)

set_option maxRecDepth 100000 in
set_option maxHeartbeats 1000000 in
theorem addLimbs_nil (ca cb : Nat) (vb : Option Addr) (w : World) :
    Calls Tryz.prog 139 #[.slice none 0 ca, .slice vb 0 cb] w fun e w' => ∃ v, e = .returned v ∧ Lim w' v 0 ∧ Kept w w' := by
  obtain ⟨i0, hi, hz0, hz1, hz2⟩ := info_parts Tryz.info_u64
  go_enter Tryz.func139, Tryz.ntmps139
  go_wp2_with (at_make; go_loud (refine wpList_make_full _ rfl _ _ 69 rfl w.heap.size 178 i0 (.int .u64 0) 1 Tryz.underlying69 hi hz0 hz1 .i64 .i64 _ _ 1 rfl rfl (by omega) (by omega) (by rw [hz2]; omega) (by unfold maxLen; omega) (Nat.le_refl _) ?_); intro w1 hown1 hgrow1)
  rw [cells_made] at hown1
  have hO : Own w1 w.heap.size w.heap.size 1 [0] := ⟨rfl, hown1⟩
  have hB : Below w.heap.size w w1 := (Below.refl _ _).grown hgrow1 (Nat.le_refl _) (by intro k h; cases h)
  clear hown1 hgrow1 hi hz0 hz1 hz2
  generalize hg : w.heap.size = G at *
  have hG := Lib.hid hg
  clear hg
  go_wp2
  go_loopw [6, 23] (fun c i wr => i = .int .i64 0 ∧ c = .int .u64 0 ∧ Own wr G G 1 [0] ∧ Below G w wr) (fun _ i _ => 0)
  case atStart => exact ⟨rfl, rfl, hO, hB⟩
  case round =>
    clear hO hB
    obtain ⟨rfl, rfl, hown, hbel⟩ := hrel
    have hset := hown.set 0 0
    have hfree := hown.free 0
    have hold := hown.cell (i := 0) (by omega)
    go_wp2_with fail
    have hbel2 := hbel.setCell (Nat.le_refl G) (p := ⟨G, 0, none⟩) (.int .u64 ((0 : Nat) : Int))
    have hrow := hset.row
    rw [show ((0 : Nat) : Int) = 0 from rfl] at hset hbel2 hrow
    generalize (wr.setCell ⟨G, 0, none⟩ (.int .u64 0)) = w2 at *
    refine (trimmed_any G 0 1 1 [0] w2 rfl (by omega) (Nat.le_refl _) (fun i hi => by rw [Nat.zero_add]; exact hset.cell hi)).mono ?_
    rintro e w' ⟨rfl, rfl⟩
    go_wp2
    go_ret
    refine ⟨_, rfl, ?_, by unfold Kept; rw [hG.out]; exact hbel2⟩
    exact lim_of_row hrow (Fit.cons B_pos Fit.nil) (Nat.le_refl _)

theorem addLimbs_any (va vb : Value) (x y : Nat) (w : World) (ha : Lim w va x) (hb : Lim w vb y) (hx : size x ≤ 1073741824) (hy : size y ≤ 1073741824) :
    Calls Tryz.prog 139 #[va, vb] w fun e w' => ∃ v, e = .returned v ∧ Lim w' v (x + y) ∧ Kept w w' := by
  obtain ⟨a1, c1, rfl, _, hr1⟩ := ha
  obtain ⟨a2, c2, rfl, _, hr2⟩ := hb
  have e := val_limbs x
  have e2 := val_limbs y
  rcases hr1 with ⟨rfl, h1⟩ | ⟨b1, o1, rfl, hb1, hc1⟩
  · obtain rfl : x = 0 := limbs_eq_nil.1 h1
    rcases hr2 with ⟨rfl, h2⟩ | ⟨b2, o2, rfl, hb2, hc2⟩
    · obtain rfl : y = 0 := limbs_eq_nil.1 h2
      exact addLimbs_nil c1 c2 none w
    · by_cases hy0 : y = 0
      · subst hy0; exact addLimbs_nil c1 c2 _ w
      · have := addLimbs_gt b2 o2 c2 (size y) 0 c1 none (limbs y) (limbs 0) w rfl rfl (size_pos.2 hy0) hy (limbs_fit _) (limbs_fit _) hb2 hc2 (.inl ⟨rfl, rfl⟩)
        rw [e2, e, Nat.add_zero] at this
        rw [Nat.zero_add]
        exact this
  · by_cases hle : size y ≤ size x
    · have := addLimbs_le b1 o1 c1 (size x) (size y) c2 a2 (limbs x) (limbs y) w rfl rfl hle hx (limbs_fit _) (limbs_fit _) hb1 hc1 (hr2.imp (fun h => ⟨h.1, by unfold size; rw [h.2]; rfl⟩) fun h => h)
      rwa [e, e2] at this
    · rcases hr2 with ⟨rfl, h2⟩ | ⟨b2, o2, rfl, hb2, hc2⟩
      · exfalso; apply hle; unfold size; rw [h2]; exact Nat.zero_le _
      · have := addLimbs_gt b2 o2 c2 (size y) (size x) c1 _ (limbs y) (limbs x) w rfl rfl (by omega) hy (limbs_fit _) (limbs_fit _) hb2 hc2 (.inr ⟨b1, o1, rfl, hb1, hc1⟩)
        rwa [e, e2, Nat.add_comm] at this
end Go.Proofs.YtgjggfpofgfchaaGreatDoor

namespace Go.Proofs.YtgjggfpofgfchaaGreatDoor
open Go.RowKit LimbNum

theorem subD_eq {xs ys : List Nat} (hx : Fit xs) (hy : Fit ys) (k : Nat) : (xs.getD k 0 + LimbNum.B - (ys.getD k 0 + subC xs ys k)) % LimbNum.B = subD xs ys k := by
  have h1 := hx.get k; have h2 := hy.get k; have h3 := subC_le xs ys k
  unfold subD
  split
  · rw [Nat.mod_eq_of_lt (by omega)]
  · rw [show xs.getD k 0 + LimbNum.B - (ys.getD k 0 + subC xs ys k) = (xs.getD k 0 - (ys.getD k 0 + subC xs ys k)) + LimbNum.B by omega, Nat.add_mod_right, Nat.mod_eq_of_lt (by omega)]

set_option maxRecDepth 100000 in
set_option maxHeartbeats 1000000 in
theorem subtractLimbs_some (b1 o1 ca la lb cb : Nat) (vb : Option Addr) (xs ys : List Nat) (w : World) (hla : xs.length = la) (hlb : ys.length = lb) (hle : val ys ≤ val xs) (hl : lb ≤ la) (hm : la ≤ 1073741824)
    (hfx : Fit xs) (hfy : Fit ys) (hb1 : b1 < w.heap.size)
    (hca : ∀ i, i < la → w.cell? ⟨b1, o1 + i, none⟩ = some (.int .u64 ((xs.getD i 0 : Nat) : Int)))
    (hvb : (vb = none ∧ lb = 0) ∨ ∃ b2 o2, vb = some ⟨b2, o2, none⟩ ∧ b2 < w.heap.size ∧ ∀ i, i < lb → w.cell? ⟨b2, o2 + i, none⟩ = some (.int .u64 ((ys.getD i 0 : Nat) : Int))) :
    Calls Tryz.prog 140 #[.slice (some ⟨b1, o1, none⟩) la ca, .slice vb lb cb] w fun e w' => ∃ v, e = .returned v ∧ Lim w' v (val xs - val ys) ∧ Kept w w' := by
  obtain ⟨i0, hi, hz0, hz1, hz2⟩ := info_parts Tryz.info_u64
  have hall := sub_all hfx hfy (by omega) hle
  have hfit : Fit (fill (subD xs ys) xs.length xs.length) := fill_fit fun i _ => subD_lt hfx hfy i
  rw [hla] at hall hfit
  have Hall := Lib.hid hall
  clear hall hla hle
  rcases hvb with ⟨rfl, rfl⟩ | ⟨b2, o2, rfl, hb2, hcb⟩
  · have hlb' : ys.length ≤ 0 := by omega
    clear hlb

    go_enter Tryz.func140, Tryz.ntmps140
    go_wp2_with (at_make; go_loud (refine wpList_make_full _ rfl _ _ 69 rfl w.heap.size 178 i0 (.int .u64 0) 1 Tryz.underlying69 hi hz0 hz1 .i64 .i64 _ _ la rfl rfl (by omega) (by omega) (by rw [hz2]; omega) (by unfold maxLen; omega) (Nat.le_refl _) ?_); intro w1 hown1 hgrow1)
    rw [cells_made, ← fill_zero (subD xs ys)] at hown1
    have hO : Own w1 w.heap.size w.heap.size la (fill (subD xs ys) 0 la) := ⟨fill_length _ _ _, hown1⟩
    have hB : Below w.heap.size w w1 := (Below.refl _ _).grown hgrow1 (Nat.le_refl _) (by intro k h; cases h)
    clear hown1 hgrow1 hi hz0 hz1 hz2
    generalize hg : w.heap.size = G at *
    have hG := Lib.hid hg
    clear hg
    go_wp2
    go_loopw [6, 15] (fun c i wr => ∃ k : Nat, k ≤ la ∧ i = .int .i64 k ∧ c = .int .u64 ((subC xs ys k : Nat) : Int) ∧ Own wr G G la (fill (subD xs ys) k la) ∧ Below G w wr) (fun _ i _ => la - (intOf i).toNat)
    case atStart => exact ⟨0, Nat.zero_le _, rfl, rfl, hO, hB⟩
    case round =>
      clear hO hB
      obtain ⟨k, hk, rfl, rfl, hown, hbel⟩ := hrel
      by_cases hlt : k < la
      · skip
        have hy0 : ys.getD k 0 = 0 := by rw [getD_ge (by omega)]
        have hsub := run_Sub64 (xs.getD k 0) (ys.getD k 0) (subC xs ys k) (subC_le xs ys k)
        have eC : (if xs.getD k 0 < ys.getD k 0 + subC xs ys k then 1 else 0) = subC xs ys (k + 1) := rfl
        rw [subD_eq hfx hfy k, eC] at hsub
        have hset := hown.set k (subD xs ys k)
        rw [fill_set] at hset
        have hfree := hown.free k
        have hcell := (hbel.cell (p := ⟨b1, o1 + k, none⟩) hb1).trans (hca k hlt)
        have hold := hown.cell (i := k) (by omega)
        rw [hy0, show ((0 : Nat) : Int) = 0 from rfl] at hsub
        clear eC
        generalize xs.getD k 0 = x at *
        generalize ys.getD k 0 = y at *
        generalize (fill (subD xs ys) k la).getD k 0 = z at *
        go_wp2
        go_roundw
        case rel => exact ⟨k + 1, by omega, by go_num, rfl, hset, hbel.setCell (Nat.le_refl _) _⟩
        case measure => simp [intOf]; omega
      · obtain rfl : k = la := by omega
        go_wp2_with fail
        have hrow := hown.row
        refine (trimmed_any G 0 k k (fill (subD xs ys) k k) wr (fill_length _ _ _) (by omega) (Nat.le_refl _) (fun i hi => by rw [Nat.zero_add]; exact hown.cell hi)).mono ?_
        rintro e w' ⟨rfl, rfl⟩
        go_wp2
        go_ret
        refine ⟨_, rfl, ?_, by unfold Kept; rw [hG.out]; exact hbel⟩
        rw [← Hall.out]
        exact lim_of_row hrow hfit (by rw [fill_length]; exact Nat.le_refl _)
  · have hlb' : ys.length ≤ lb := by omega
    clear hlb

    go_enter Tryz.func140, Tryz.ntmps140
    go_wp2_with (at_make; go_loud (refine wpList_make_full _ rfl _ _ 69 rfl w.heap.size 178 i0 (.int .u64 0) 1 Tryz.underlying69 hi hz0 hz1 .i64 .i64 _ _ la rfl rfl (by omega) (by omega) (by rw [hz2]; omega) (by unfold maxLen; omega) (Nat.le_refl _) ?_); intro w1 hown1 hgrow1)
    rw [cells_made, ← fill_zero (subD xs ys)] at hown1
    have hO : Own w1 w.heap.size w.heap.size la (fill (subD xs ys) 0 la) := ⟨fill_length _ _ _, hown1⟩
    have hB : Below w.heap.size w w1 := (Below.refl _ _).grown hgrow1 (Nat.le_refl _) (by intro k h; cases h)
    clear hown1 hgrow1 hi hz0 hz1 hz2
    generalize hg : w.heap.size = G at *
    have hG := Lib.hid hg
    clear hg
    go_wp2
    go_loopw [6, 15] (fun c i wr => ∃ k : Nat, k ≤ la ∧ i = .int .i64 k ∧ c = .int .u64 ((subC xs ys k : Nat) : Int) ∧ Own wr G G la (fill (subD xs ys) k la) ∧ Below G w wr) (fun _ i _ => la - (intOf i).toNat)
    case atStart => exact ⟨0, Nat.zero_le _, rfl, rfl, hO, hB⟩
    case round =>
      clear hO hB
      obtain ⟨k, hk, rfl, rfl, hown, hbel⟩ := hrel
      by_cases hlt : k < la
      · skip
        by_cases hk2 : k < lb
        · skip
          have hsub := run_Sub64 (xs.getD k 0) (ys.getD k 0) (subC xs ys k) (subC_le xs ys k)
          have eC : (if xs.getD k 0 < ys.getD k 0 + subC xs ys k then 1 else 0) = subC xs ys (k + 1) := rfl
          rw [subD_eq hfx hfy k, eC] at hsub
          have hset := hown.set k (subD xs ys k)
          rw [fill_set] at hset
          have hfree := hown.free k
          have hcell := (hbel.cell (p := ⟨b1, o1 + k, none⟩) hb1).trans (hca k hlt)
          have hold := hown.cell (i := k) (by omega)
          have hcell2 := (hbel.cell (p := ⟨b2, o2 + k, none⟩) hb2).trans (hcb k hk2)
          clear eC
          generalize xs.getD k 0 = x at *
          generalize ys.getD k 0 = y at *
          generalize (fill (subD xs ys) k la).getD k 0 = z at *
          go_wp2
          go_roundw
          case rel => exact ⟨k + 1, by omega, by go_num, rfl, hset, hbel.setCell (Nat.le_refl _) _⟩
          case measure => simp [intOf]; omega
        · have hy0 : ys.getD k 0 = 0 := by rw [getD_ge (by omega)]
          have hsub := run_Sub64 (xs.getD k 0) (ys.getD k 0) (subC xs ys k) (subC_le xs ys k)
          have eC : (if xs.getD k 0 < ys.getD k 0 + subC xs ys k then 1 else 0) = subC xs ys (k + 1) := rfl
          rw [subD_eq hfx hfy k, eC] at hsub
          have hset := hown.set k (subD xs ys k)
          rw [fill_set] at hset
          have hfree := hown.free k
          have hcell := (hbel.cell (p := ⟨b1, o1 + k, none⟩) hb1).trans (hca k hlt)
          have hold := hown.cell (i := k) (by omega)
          rw [hy0, show ((0 : Nat) : Int) = 0 from rfl] at hsub
          clear eC
          generalize xs.getD k 0 = x at *
          generalize ys.getD k 0 = y at *
          generalize (fill (subD xs ys) k la).getD k 0 = z at *
          go_wp2
          go_roundw
          case rel => exact ⟨k + 1, by omega, by go_num, rfl, hset, hbel.setCell (Nat.le_refl _) _⟩
          case measure => simp [intOf]; omega
      · obtain rfl : k = la := by omega
        go_wp2_with fail
        have hrow := hown.row
        refine (trimmed_any G 0 k k (fill (subD xs ys) k k) wr (fill_length _ _ _) (by omega) (Nat.le_refl _) (fun i hi => by rw [Nat.zero_add]; exact hown.cell hi)).mono ?_
        rintro e w' ⟨rfl, rfl⟩
        go_wp2
        go_ret
        refine ⟨_, rfl, ?_, by unfold Kept; rw [hG.out]; exact hbel⟩
        rw [← Hall.out]
        exact lim_of_row hrow hfit (by rw [fill_length]; exact Nat.le_refl _)

set_option maxRecDepth 100000 in
set_option maxHeartbeats 1000000 in
theorem subtractLimbs_nil (ca cb : Nat) (vb : Option Addr) (w : World) :
    Calls Tryz.prog 140 #[.slice none 0 ca, .slice vb 0 cb] w fun e w' => ∃ v, e = .returned v ∧ Lim w' v 0 ∧ Kept w w' := by
  obtain ⟨i0, hi, hz0, hz1, hz2⟩ := info_parts Tryz.info_u64
  go_enter Tryz.func140, Tryz.ntmps140
  go_wp2_with (at_make; go_loud (refine wpList_make_full _ rfl _ _ 69 rfl w.heap.size 178 i0 (.int .u64 0) 1 Tryz.underlying69 hi hz0 hz1 .i64 .i64 _ _ 0 rfl rfl (by omega) (by omega) (by rw [hz2]; omega) (by unfold maxLen; omega) (Nat.le_refl _) ?_); intro w1 hown1 hgrow1)
  rw [cells_made] at hown1
  have hO : Own w1 w.heap.size w.heap.size 0 [] := ⟨rfl, hown1⟩
  have hB : Below w.heap.size w w1 := (Below.refl _ _).grown hgrow1 (Nat.le_refl _) (by intro k h; cases h)
  clear hown1 hgrow1 hi hz0 hz1 hz2
  generalize hg : w.heap.size = G at *
  have hG := Lib.hid hg
  clear hg
  go_wp2
  go_loopw [6, 15] (fun c i wr => i = .int .i64 0 ∧ c = .int .u64 0 ∧ Own wr G G 0 [] ∧ Below G w wr) (fun _ i _ => 0)
  case atStart => exact ⟨rfl, rfl, hO, hB⟩
  case round =>
    clear hO hB
    obtain ⟨rfl, rfl, hown, hbel⟩ := hrel
    go_wp2_with fail
    have hrow := hown.row
    refine (trimmed_any G 0 0 0 [] wr rfl (by omega) (Nat.le_refl _) (fun i hi => by omega)).mono ?_
    rintro e w' ⟨rfl, rfl⟩
    go_wp2
    go_ret
    refine ⟨_, rfl, ?_, by unfold Kept; rw [hG.out]; exact hbel⟩
    exact lim_of_row hrow Fit.nil (Nat.le_refl _)

theorem subtractLimbs_any (va vb : Value) (x y : Nat) (w : World) (ha : Lim w va x) (hb : Lim w vb y) (hx : size x ≤ 1073741824) (hle : y ≤ x) :
    Calls Tryz.prog 140 #[va, vb] w fun e w' => ∃ v, e = .returned v ∧ Lim w' v (x - y) ∧ Kept w w' := by
  obtain ⟨a1, c1, rfl, _, hr1⟩ := ha
  obtain ⟨a2, c2, rfl, _, hr2⟩ := hb
  have e := val_limbs x
  have e2 := val_limbs y
  rcases hr1 with ⟨rfl, h1⟩ | ⟨b1, o1, rfl, hb1, hc1⟩
  · obtain rfl : x = 0 := limbs_eq_nil.1 h1
    obtain rfl : y = 0 := by omega
    exact subtractLimbs_nil c1 c2 a2 w
  · have := subtractLimbs_some b1 o1 c1 (size x) (size y) c2 a2 (limbs x) (limbs y) w rfl rfl (by rw [e, e2]; exact hle) (size_mono hle) hx (limbs_fit _) (limbs_fit _) hb1 hc1 (hr2.imp (fun h => ⟨h.1, by unfold size; rw [h.2]; rfl⟩) fun h => h)
    rwa [e, e2] at this
end Go.Proofs.YtgjggfpofgfchaaGreatDoor
