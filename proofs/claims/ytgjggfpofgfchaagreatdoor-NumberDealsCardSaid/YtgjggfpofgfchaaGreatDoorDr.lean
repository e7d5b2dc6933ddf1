import Derived.StillTailTactics
import Derived.Test.YtgjggfpofgfchaaGreatDoorL7
set_option linter.unusedSectionVars false
set_option linter.unusedVariables false
set_option linter.unusedSimpArgs false
namespace Go.Proofs.YtgjggfpofgfchaaGreatDoor
open Go.RowKit LimbNum

/-- A row of machine integers. -/
def RowI (w : World) (v : Value) (xs : List Int) : Prop :=
  (v = .slice none 0 0 ∧ xs = []) ∨ ∃ b c, v = .slice (some ⟨b, 0, none⟩) xs.length c ∧ b < w.heap.size ∧ ∀ (i : Nat), i < xs.length → w.cell? ⟨b, i, none⟩ = some (.int .i64 (xs.getD i 0))
theorem RowI.kept {w w' : World} {v : Value} {xs : List Int} (h : RowI w v xs) (k : Kept w w') : RowI w' v xs := by
  rcases h with h | ⟨b, c, rfl, hb, hc⟩
  · exact .inl h
  · exact .inr ⟨b, c, rfl, Nat.lt_of_lt_of_le hb k.size, fun i hi => (k.cell (p := ⟨b, i, none⟩) hb).trans (hc i hi)⟩

def badDraw (key n : Int) : Bool := decide (key < 1) || decide (2147483646 < key) || decide (n < 0) || decide (256 < n)

theorem CheckDraw_any (key n : Int) (w : World) :
    Calls Tryz.prog 7 #[.int .i64 key, .int .i64 n] w fun e w' => e = .returned (.int .i64 (if badDraw key n then 3 else 0)) ∧ Kept w w' := by
  by_cases h1 : key < 1 <;> by_cases h2 : 2147483646 < key <;> by_cases h3 : n < 0 <;> by_cases h4 : 256 < n <;> try omega
  all_goals
    have hd : badDraw key n = (decide (key < 1) || decide (2147483646 < key) || decide (n < 0) || decide (256 < n)) := rfl
    simp only [h1, h2, h3, h4, decide_true, decide_false, Bool.or_true, Bool.or_false] at hd
    rw [hd]
    clear hd
    go_enter Tryz.func7, Tryz.ntmps7
    go_wp2
    go_ret
    exact ⟨rfl, by unfold Kept; repeat (first | exact Below.refl _ _ | apply Below.drew)⟩
end Go.Proofs.YtgjggfpofgfchaaGreatDoor

namespace Go.Proofs.YtgjggfpofgfchaaGreatDoor
open Go.RowKit LimbNum

theorem RowI.shape {w : World} {v : Value} {xs : List Int} (h : RowI w v xs) : ∃ a c, v = .slice a xs.length c ∧ (0 < xs.length → ∃ b, a = some ⟨b, 0, none⟩ ∧ b < w.heap.size ∧ ∀ (i : Nat), i < xs.length → w.cell? ⟨b, i, none⟩ = some (.int .i64 (xs.getD i 0))) := by
  rcases h with ⟨rfl, rfl⟩ | ⟨b, c, rfl, hb, hc⟩
  · exact ⟨none, 0, rfl, fun h => absurd h (by simp)⟩
  · exact ⟨_, c, rfl, fun _ => ⟨b, rfl, hb, hc⟩⟩

theorem getD_ne {xs ys : List Int} {i : Nat} (h : xs.getD i 0 ≠ ys.getD i 0) : xs ≠ ys := fun e => h (by rw [e])
theorem eq_of_getD {xs ys : List Int} (hl : xs.length = ys.length) (h : ∀ i, i < xs.length → xs.getD i 0 = ys.getD i 0) : xs = ys := by
  refine List.ext_getElem hl fun i h1 h2 => ?_
  have := h i h1
  simpa [List.getD_eq_getElem?_getD, h1, h2] using this

set_option maxRecDepth 100000 in
theorem SameInts_any (va vb : Value) (xs ys : List Int) (w : World) (ha : RowI w va xs) (hb : RowI w vb ys) (hx : xs.length ≤ 1099511627776) :
    Calls Tryz.prog 34 #[va, vb] w fun e w' => e = .returned (.bool (decide (xs = ys))) ∧ Kept w w' := by
  obtain ⟨a1, c1, rfl, r1⟩ := ha.shape
  obtain ⟨a2, c2, rfl, r2⟩ := hb.shape
  generalize hr : decide (xs = ys) = r
  have Hr := Lib.hid hr
  clear hr
  by_cases hl : xs.length = ys.length
  · by_cases h0 : 0 < xs.length
    · obtain ⟨b1, rfl, hb1, hc1⟩ := r1 h0
      obtain ⟨b2, rfl, hb2, hc2⟩ := r2 (by omega)
      have heq := @eq_of_getD xs ys hl
      rw [← hl] at hc2 ⊢
      generalize xs.length = n at *
      clear ha hb hl r1 r2
      go_enter Tryz.func34, Tryz.ntmps34
      go_wp2
      go_loopw [5] (fun i wr => ∃ k : Nat, k ≤ n ∧ i = .int .i64 k ∧ (∀ j, j < k → xs.getD j 0 = ys.getD j 0) ∧ Kept w wr) (fun i _ => n - (intOf i).toNat)
      case atStart => exact ⟨0, Nat.zero_le _, rfl, fun j hj => absurd hj (Nat.not_lt_zero _), Below.refl _ _⟩
      case round =>
        obtain ⟨k, hk, rfl, hpre, hbel⟩ := hrel
        by_cases hkn : k = n
        · have he := heq (fun i hi => hpre i (by omega))
          have He := Lib.hid he
          clear he heq hpre hc1 hc2
          go_wp2
          go_ret
          exact ⟨by rw [← Hr.out, decide_eq_true He.out]; rfl, hbel⟩
        · have hx1 := (hbel.cell (p := ⟨b1, k, none⟩) hb1).trans (hc1 k (by omega))
          have hx2 := (hbel.cell (p := ⟨b2, k, none⟩) hb2).trans (hc2 k (by omega))
          have hn1 := @getD_ne xs ys k
          have hstep : ∀ j, j < k + 1 → xs.getD k 0 = ys.getD k 0 → xs.getD j 0 = ys.getD j 0 := fun j hj e => by
            rcases Nat.lt_or_ge j k with h | h
            · exact hpre j h
            · obtain rfl : j = k := by omega
              exact e
          have Hn1 := Lib.hid hn1
          have Hs := Lib.hid hstep
          have Hp := Lib.hid hpre
          generalize e1 : xs.getD k 0 = z1 at *
          generalize e2 : ys.getD k 0 = z2 at *
          have E1 := Lib.hid e1
          have E2 := Lib.hid e2
          clear hc1 hc2 hpre heq hn1 hstep e1 e2
          by_cases he : z1 = z2
          · subst he
            go_wp2
            go_quiet (fail)
            go_wp2
            go_roundw
            case rel => exact ⟨k + 1, by omega, by go_num, fun j hj => Hs.out j hj (by first | trivial | rw [E1.out, E2.out]), hbel.trans ⟨rfl, rfl, rfl, Nat.le_refl _, fun _ _ => rfl⟩⟩
            case measure => simp [intOf]; omega
          · have hb : (z1 == z2) = false := by simpa using he
            go_wp2
            go_quiet (fail)
            go_wp2
            go_ret
            exact ⟨by rw [← Hr.out, decide_eq_false (Hn1.out (by first | exact he | rw [E1.out, E2.out]; exact he))]; rfl, hbel.trans ⟨rfl, rfl, rfl, Nat.le_refl _, fun _ _ => rfl⟩⟩
    · have e : xs = ys := by rw [List.eq_nil_of_length_eq_zero (by omega : xs.length = 0), List.eq_nil_of_length_eq_zero (by omega : ys.length = 0)]
      have e0 : xs.length = 0 := by omega
      rw [← hl, e0]
      have hd : r = true := by rw [← Hr.out, decide_eq_true e]
      rw [hd]
      clear Hr hd e e0 hl ha hb
      go_enter Tryz.func34, Tryz.ntmps34
      go_wp2
      refine wp_loop_rounds 1 ?_
      rw [rounds_succ]
      go_wp2
      go_ret
      exact ⟨rfl, Below.refl _ _⟩
  · have hb : (((xs.length : Nat) : Int) == ((ys.length : Nat) : Int)) = false := by rw [beq_eq_false_iff_ne]; omega
    have hd : r = false := by rw [← Hr.out, decide_eq_false (fun e => hl (by rw [e]))]
    rw [hd]
    clear Hr hd ha r1 r2
    generalize xs.length = n1 at *
    generalize ys.length = n2 at *
    go_enter Tryz.func34, Tryz.ntmps34
    go_wp2
    go_ret
    exact ⟨rfl, Below.refl _ _⟩
end Go.Proofs.YtgjggfpofgfchaaGreatDoor

namespace Go.Proofs.YtgjggfpofgfchaaGreatDoor
open Go.RowKit LimbNum

theorem list_bad (v : Value) (w : World) :
    Calls Tryz.prog 8 #[.slice none 0 0, .int .i64 3, .int .i64 3, v] w fun e w' => e = .returned (.bool true) ∧ Kept w w' := by
  go_enter Tryz.func8, Tryz.ntmps8
  go_wp2
  go_ret
  exact ⟨rfl, Below.refl _ _⟩

theorem list_ok (va vb : Value) (xs : List Int) (w : World) (ha : RowI w va xs) (hb : RowI w vb xs) (hx : xs.length ≤ 1099511627776) :
    Calls Tryz.prog 8 #[va, .int .i64 0, .int .i64 0, vb] w fun e w' => e = .returned (.bool true) ∧ Kept w w' := by
  have hS := fun w' (hk : Kept w w') => SameInts_any va vb xs xs w' (ha.kept hk) (hb.kept hk) hx
  simp only [decide_true] at hS
  have HS := Lib.hid hS
  obtain ⟨a1, c1, rfl, _⟩ := ha.shape
  obtain ⟨a2, c2, rfl, _⟩ := hb.shape
  generalize xs.length = n at *
  clear ha hb hS
  go_enter Tryz.func8, Tryz.ntmps8
  go_wp2_with (go_at_call 34; refine (HS.out _ (by unfold Kept; repeat (first | exact Below.refl _ _ | apply Below.drew))).mono ?_; rintro e w' ⟨rfl, hk⟩)
  go_ret
  exact ⟨rfl, hk⟩

theorem cell1_new (w : World) (x : Value) (t : TypeId) : ∀ j u, [x][j]? = some u → (w.alloc (.cells #[x] t)).cell? ((⟨w.heap.size, 0, none⟩ : Addr).add j) = some u := by
  intro j u hj
  match j, hj with
  | 0, hj =>
    simp at hj
    subst hj
    simp [Addr.add]
theorem Tryz.info_int : (Tryz.prog.info? 3).map (fun i => (i.zero, i.size, i.bytes)) = some (some (.int .i64 0), 1, 8) := by kernel_rfl

set_option maxRecDepth 100000 in
theorem Identity_any (n : Nat) (w : World) (hn : n ≤ 256) :
    Calls Tryz.prog 35 #[.int .i64 n] w fun e w' => ∃ v, e = .returned v ∧ w'.ownsRow w.heap.size 3 1 v n ((List.range n).map fun i => .int .i64 (i : Nat)) ∧ Kept w w' := by
  obtain ⟨i0, hi, hz0, hz1, hz2⟩ := info_parts Tryz.info_int
  generalize hg : w.heap.size = G
  have hG := Lib.hid hg
  clear hg
  go_enter Tryz.func35, Tryz.ntmps35
  go_wp2
  go_loopw [3, 4] (fun v i wr => ∃ k : Nat, k ≤ n ∧ i = .int .i64 k ∧ wr.ownsRow G 3 1 v k ((List.range k).map fun i => .int .i64 (i : Nat)) ∧ Below G w wr) (fun _ i _ => n - (intOf i).toNat)
  case atStart => exact ⟨0, Nat.zero_le _, rfl, ⟨rfl, .inl ⟨rfl, rfl⟩⟩, Below.refl _ _⟩
  case round =>
    obtain ⟨k, hk, rfl, hown, hbel⟩ := hrel
    by_cases hkn : k = n
    · go_wp2
      go_ret
      subst hkn
      exact ⟨_, rfl, hown, by unfold Kept; rw [hG.out]; exact hbel⟩
    · have hsize := hbel.size
      rw [hG.out] at hsize
      go_wp2_with (at_builtin; refine wpList_append_own _ rfl _ _ 23 rfl G 3 i0 (.int .i64 0) 1 8 Tryz.underlying23 hi hz0 hz1 hz2 rfl (by decide) _ _ _ rfl (hown.alloc _) ⟨wr.heap.size, 0, none⟩ 1 1 [.int .i64 (k : Nat)] rfl rfl (cell1_new _ _ _) (fun x hx => by simp at hx; subst hx; rfl) (by unfold maxLen; omega) (by omega) (by simp; omega) ?_; intro v' w3 hown' hgrow3 hnil3)
      have R : w3.ownsRow G 3 1 v' (k + 1) ((List.range (k + 1)).map fun i => .int .i64 (i : Nat)) ∧ Below G w w3 :=
        ⟨by rw [List.range_succ, List.map_append]; exact hown', (hbel.alloc hsize _).grown hgrow3 (by simp; omega) (fun q hq => (hown.lt q hq).1)⟩
      clear hown' hgrow3 hown hbel hi
      go_roundw
      case rel => exact ⟨k + 1, by omega, by go_num, R.1, R.2⟩
      case measure => simp [intOf]; omega
end Go.Proofs.YtgjggfpofgfchaaGreatDoor

namespace Go.Proofs.YtgjggfpofgfchaaGreatDoor
open Go.RowKit LimbNum

def cellsI (xs : List Int) : List Value := xs.map fun x => Value.int .i64 x
/-- A slice of the call's own with these integers. -/
def OwnI (w : World) (B : Nat) (g n c : Nat) (xs : List Int) : Prop :=
  xs.length = n ∧ w.ownsRow B 3 1 (.slice (some ⟨g, 0, none⟩) n c) n (cellsI xs)
theorem OwnI.cell {w : World} {B g n c : Nat} {xs : List Int} (h : OwnI w B g n c xs) {i : Nat} (hi : i < n) : w.cell? ⟨g, i, none⟩ = some (.int .i64 (xs.getD i 0)) := by
  rw [h.2.cellAt i (by omega)]
  have := h.1
  simp [cellsI, show i < xs.length by omega]
theorem OwnI.free {w : World} {B g n c : Nat} {xs : List Int} (h : OwnI w B g n c xs) (i : Nat) : w.frozen? ⟨g, i, none⟩ = false := h.2.frozenAt i
theorem OwnI.set {w : World} {B g n c : Nat} {xs : List Int} (h : OwnI w B g n c xs) (i : Nat) (v : Int) : OwnI (w.setCell ⟨g, i, none⟩ (.int .i64 v)) B g n c (xs.set i v) := by
  refine ⟨by simp [h.1], ?_⟩
  have := (h.2.stored i (.int .i64 v)).1
  rwa [show (cellsI xs).set i (.int .i64 v) = cellsI (xs.set i v) by simp [cellsI, List.map_set]] at this
theorem OwnI.lt {w : World} {B g n c : Nat} {xs : List Int} (h : OwnI w B g n c xs) : g < w.heap.size ∧ B ≤ g := by
  rcases h.2.2 with ⟨h', _⟩ | ⟨g', cap', cur, h', hb, hg, _⟩
  · simp at h'
  · simp only [Value.slice.injEq, Option.some.injEq, Addr.mk.injEq, and_true, true_and] at h'
    obtain ⟨rfl, rfl⟩ := h'
    exact ⟨by rcases Nat.lt_or_ge g w.heap.size with h | h; exact h; simp [h] at hg, hb⟩
theorem OwnI.row {w : World} {B g n c : Nat} {xs : List Int} (h : OwnI w B g n c xs) : RowI w (.slice (some ⟨g, 0, none⟩) n c) xs :=
  .inr ⟨g, c, by rw [h.1], h.lt.1, fun i hi => h.cell (by rw [← h.1]; exact hi)⟩
theorem OwnI.drewN {w : World} {B g n c : Nat} {xs : List Int} (h : OwnI w B g n c xs) (q : Nat) : OwnI (w.drewN q) B g n c xs := h
theorem OwnI.drew {w : World} {B g n c : Nat} {xs : List Int} (h : OwnI w B g n c xs) : OwnI w.drew B g n c xs := h

/-- The numbers up to n. -/
def idn (n : Nat) : List Int := (List.range n).map fun (i : Nat) => (i : Int)
theorem idn_length (n : Nat) : (idn n).length = n := by simp [idn]
theorem owns_of {w : World} {B n : Nat} {v : Value} {xs : List Int} (h : w.ownsRow B 3 1 v n (cellsI xs)) (hn : 0 < n) : ∃ g c, v = .slice (some ⟨g, 0, none⟩) n c ∧ OwnI w B g n c xs := by
  have hl : xs.length = n := by have := h.1; simpa [cellsI] using this
  rcases h.2 with ⟨rfl, h0⟩ | ⟨g, c, cur, rfl, _⟩
  · omega
  · exact ⟨g, c, rfl, hl, h⟩

/-- Two elements exchanged. -/
def swp (l : List Int) (i j : Nat) : List Int := (l.set i (l.getD j 0)).set j (l.getD i 0)
theorem swp_length (l : List Int) (i j : Nat) : (swp l i j).length = l.length := by simp [swp]
/-- The next number of the generator. -/
def nxt (x : Int) : Int := (39373 * x).tmod 2147483647
/-- The steps from the place i down. -/
def drawGo : Nat → Int → List Int → List Int
  | 0, _, l => l
  | i + 1, x, l => drawGo i (nxt x) (swp l (i + 1) (nxt x % ((i : Int) + 1 + 1)).toNat)
theorem drawGo_length : ∀ (i : Nat) (x : Int) (l : List Int), (drawGo i x l).length = l.length
  | 0, _, l => rfl
  | i + 1, x, l => by rw [drawGo, drawGo_length, swp_length]
def perm (key : Int) (n : Nat) : List Int := drawGo (n - 1) key (idn n)
theorem nxt_bounds {x : Int} (h : 0 ≤ x) : 0 ≤ nxt x ∧ nxt x < 2147483647 := by
  unfold nxt
  rw [Int.tmod_eq_emod_of_nonneg (by omega)]
  omega
theorem mod_bounds (x : Int) (i : Nat) : ∃ j : Nat, x % ((i : Int) + 1 + 1) = j ∧ j ≤ i + 1 := by
  have h1 := Int.emod_nonneg x (show (i : Int) + 1 + 1 ≠ 0 by omega)
  have h2 := Int.emod_lt_of_pos x (show 0 < (i : Int) + 1 + 1 by omega)
  exact ⟨(x % ((i : Int) + 1 + 1)).toNat, by omega, by omega⟩
end Go.Proofs.YtgjggfpofgfchaaGreatDoor

namespace Go.Proofs.YtgjggfpofgfchaaGreatDoor
open Go.RowKit LimbNum

theorem cellsI_idn (n : Nat) : (List.range n).map (fun (i : Nat) => Value.int .i64 (i : Int)) = cellsI (idn n) := by simp [cellsI, idn]

set_option maxRecDepth 100000 in
theorem refDraw_pos (key : Int) (n : Nat) (w : World) (hk : 1 ≤ key) (hk2 : key ≤ 2147483646) (h0 : 0 < n) (hn : n ≤ 256) :
    Calls Tryz.prog 9 #[.int .i64 key, .int .i64 n] w fun e w' => ∃ v, e = .returned v ∧ RowI w' v (perm key n) ∧ Kept w w' := by
  have hI := Lib.hid fun w' (_ : Kept w w') => Identity_any n w' hn
  have Hp := Lib.hid (show drawGo (n - 1) key (idn n) = perm key n from rfl)
  generalize perm key n = res at *
  go_enter Tryz.func9, Tryz.ntmps9
  go_wp2_with (go_at_call 35; refine (hI.out _ (by unfold Kept; repeat (first | exact Below.refl _ _ | apply Below.drew))).mono ?_; rintro e w1 ⟨v, rfl, hown0, hbel⟩)
  rw [cellsI_idn] at hown0
  obtain ⟨g, c, rfl, hown⟩ := owns_of hown0 h0
  clear hI hown0
  have hbel : Below w.heap.size w w1 := hbel
  generalize hg : w.heap.size = G at *
  have hG := Lib.hid hg
  clear hg
  go_wp2
  go_loopw [0, 6] (fun vx vi wr => ∃ (k : Nat) (x : Int) (l : List Int), k < n ∧ 0 ≤ x ∧ x < 2147483647 ∧ vx = .int .i64 x ∧ vi = .int .i64 k ∧ Hid (drawGo k x l = res) ∧ OwnI wr G g n c l ∧ Below G w wr) (fun _ vi _ => (intOf vi).toNat)
  case atStart => exact ⟨n - 1, key, idn n, by omega, by omega, by omega, rfl, by go_num, Hp, hown, hbel⟩
  case round =>
    clear Hp hown hbel
    obtain ⟨k, x, l, hkn, hx0, hx1, rfl, rfl, Hp, hown, hbel⟩ := hrel
    by_cases hk0 : k = 0
    · subst hk0
      have hrow := hown.row
      have e : l = res := Hp.out
      rw [e] at hrow
      clear e hown Hp
      go_wp2
      go_ret
      exact ⟨_, rfl, (by exact hrow), by unfold Kept; rw [hG.out]; exact hbel⟩
    · obtain ⟨i, rfl⟩ : ∃ i, k = i + 1 := ⟨k - 1, by omega⟩
      have hw : IntKind.i64.wrap (39373 * x) = 39373 * x := IntWalk.i64_in _ (by omega)
      obtain ⟨hn0, hn1⟩ := nxt_bounds hx0
      obtain ⟨j, hj, hji⟩ := mod_bounds (nxt x) i
      have hx' : (39373 * x).tmod 2147483647 = nxt x := rfl
      have hd : drawGo (i + 1) x l = drawGo i (nxt x) (swp l (i + 1) j) := by rw [drawGo, hj]; rfl
      have Hd : Hid (drawGo i (nxt x) (swp l (i + 1) j) = res) := Lib.hid (hd.symm.trans Hp.out)
      have c1 := hown.cell (i := i + 1) (by omega)
      have c2 := hown.cell (i := j) (by omega)
      have f1 := hown.free (i + 1)
      have f2 := hown.free j
      have hset : OwnI ((wr.setCell ⟨g, i + 1, none⟩ (.int .i64 (l.getD j 0))).setCell ⟨g, j, none⟩ (.int .i64 (l.getD (i + 1) 0))) G g n c (swp l (i + 1) j) := (hown.set (i + 1) _).set j _
      have hbel2 : ∀ u v, Below G w ((wr.setCell ⟨g, i + 1, none⟩ u).setCell ⟨g, j, none⟩ v) := fun u v => (hbel.setCell hown.lt.2 _).setCell hown.lt.2 _
      have c3 := (hown.set (i + 1) (l.getD j 0)).cell (i := j) (by omega)
      have f3 := (hown.set (i + 1) (l.getD j 0)).free j
      have Hset := Lib.hid hset
      have hgs := hown.lt.1
      clear hset hd hown Hp hbel
      generalize (l.set (i + 1) (l.getD j 0)).getD j 0 = y3 at *
      generalize l.getD j 0 = y1 at *
      generalize l.getD (i + 1) 0 = y2 at *
      generalize swp l (i + 1) j = l' at *
      generalize nxt x = x' at *
      go_wp2
      rw [hj]
      go_region
      go_wp2
      go_roundw
      case rel => exact ⟨i, x', l', by omega, by omega, by omega, rfl, by go_num, Hd, Hset.out.drew, (hbel2 _ _).drew⟩
      case measure => simp [intOf]

theorem refDraw_any (key : Int) (n : Nat) (w : World) (hk : 1 ≤ key) (hk2 : key ≤ 2147483646) (hn : n ≤ 256) :
    Calls Tryz.prog 9 #[.int .i64 key, .int .i64 n] w fun e w' => ∃ v, e = .returned v ∧ RowI w' v (perm key n) ∧ Kept w w' := by
  by_cases h0 : 0 < n
  · exact refDraw_pos key n w hk hk2 h0 hn
  obtain rfl : n = 0 := by omega
  have hI := Lib.hid fun w' (_ : Kept w w') => Identity_any 0 w' hn
  go_enter Tryz.func9, Tryz.ntmps9
  go_wp2_with (go_at_call 35; refine (hI.out _ (by unfold Kept; repeat (first | exact Below.refl _ _ | apply Below.drew))).mono ?_; rintro e w1 ⟨v, rfl, hown0, hbel⟩)
  rw [cellsI_idn] at hown0
  have hr : RowI w1 v [] := by
    rcases hown0.2 with ⟨rfl, _⟩ | ⟨g, c, cur, rfl, hg, hc, _⟩
    · exact .inl ⟨rfl, rfl⟩
    · exact .inr ⟨g, c, rfl, (Array.getElem?_eq_some_iff.1 hc).1, fun i hi => absurd hi (Nat.not_lt_zero _)⟩
  clear hown0 hI
  go_wp2
  refine wp_loop_rounds 1 ?_
  rw [rounds_succ]
  go_wp2
  go_ret
  exact ⟨_, rfl, (by exact hr), hbel⟩
end Go.Proofs.YtgjggfpofgfchaaGreatDoor

namespace Go.Proofs.YtgjggfpofgfchaaGreatDoor
open Go.RowKit LimbNum

theorem fill_set (k m : Nat) (h : 0 < m) : (idn k ++ List.replicate m 0).set k (k : Int) = idn (k + 1) ++ List.replicate (m - 1) 0 := by
  obtain ⟨m, rfl⟩ : ∃ j, m = j + 1 := ⟨m - 1, by omega⟩
  rw [List.set_append_right _ _ (by rw [idn_length]; exact Nat.le_refl _), idn_length, Nat.sub_self, List.replicate_succ, List.set_cons_zero]
  simp [idn, List.range_succ]
theorem cellsI_made (n : Nat) : (madeCells (Value.int .i64 0).cells (n * 1)).toList = cellsI (idn 0 ++ List.replicate n 0) := by
  rw [Nat.mul_one]
  have := toList_madeCells_one (.int .i64 0) n
  rw [show (Value.int .i64 0).cells = #[Value.int .i64 0] from rfl, this]
  simp [cellsI, idn]

theorem Draw_bad (key n : Int) (w : World) (h : badDraw key n = true) :
    Calls Tryz.prog 6 #[.int .i64 key, .int .i64 n] w fun e w' => e = .returned (.tuple #[.slice none 0 0, .int .i64 3]) ∧ Kept w w' := by
  have h : key < 1 ∨ 2147483647 ≤ key ∨ n < 0 ∨ 256 < n := by simp [badDraw] at h; omega
  by_cases h1 : key < 1 <;> by_cases h2 : 2147483647 ≤ key <;> by_cases h3 : n < 0 <;> by_cases h4 : 256 < n <;> try (exfalso; omega)
  all_goals
    clear h
    go_enter Tryz.func6, Tryz.ntmps6
    go_wp2
    go_ret2
    exact ⟨rfl, by unfold Kept; repeat (first | exact Below.refl _ _ | apply Below.drew)⟩

set_option maxRecDepth 100000 in
theorem Draw_pos (key : Int) (n : Nat) (w : World) (hk : 1 ≤ key) (hk2 : key ≤ 2147483646) (h0 : 0 < n) (hn : n ≤ 256) :
    Calls Tryz.prog 6 #[.int .i64 key, .int .i64 n] w fun e w' => ∃ v, e = .returned (.tuple #[v, .int .i64 0]) ∧ (∃ a c, v = .slice a n c) ∧ RowI w' v (perm key n) ∧ Kept w w' := by
  obtain ⟨i0, hi, hz0, hz1, hz2⟩ := info_parts Tryz.info_int
  have Hp := Lib.hid (show drawGo (n - 1) key (idn n) = perm key n from rfl)
  generalize perm key n = res at *
  go_enter Tryz.func6, Tryz.ntmps6
  go_wp2_with (at_make; go_loud (refine wpList_make_full _ rfl _ _ 23 rfl w.heap.size 3 i0 (.int .i64 0) 1 Tryz.underlying23 hi hz0 hz1 .i64 .i64 _ _ n rfl rfl (by omega) (by omega) (by rw [hz2]; omega) (by unfold maxLen; omega) (Nat.le_refl _) ?_); intro w1 hown1 hgrow1)
  rw [cellsI_made] at hown1
  have hO : OwnI w1 w.heap.size w.heap.size n n (idn 0 ++ List.replicate n 0) := ⟨by simp [idn], hown1⟩
  have hB : Below w.heap.size w w1 := (Below.refl _ _).grown hgrow1 (Nat.le_refl _) (by intro k h; cases h)
  clear hown1 hgrow1 hi hz0 hz1 hz2
  generalize hg : w.heap.size = G at *
  have hG := Lib.hid hg
  clear hg
  go_wp2
  go_loopw [7, 29] (fun _ vi wr => ∃ k : Nat, k ≤ n ∧ vi = .int .i64 k ∧ OwnI wr G G n n (idn k ++ List.replicate (n - k) 0) ∧ Below G w wr) (fun _ vi _ => n - (intOf vi).toNat)
  case atStart => exact ⟨0, Nat.zero_le _, rfl, hO, hB⟩
  case round =>
    clear hO hB
    obtain ⟨k, hkn, rfl, hown, hbel⟩ := hrel
    by_cases hk0 : k = n
    · have hown : OwnI wr G G n n (idn n) := by rw [hk0] at hown; simpa using hown
      go_wp2
      clear hk0 hkn
      go_loopw [8, 9] (fun vx vi wr => ∃ (k : Nat) (x : Int) (l : List Int), k < n ∧ 0 ≤ x ∧ x < 2147483647 ∧ vx = .int .i64 x ∧ vi = .int .i64 k ∧ Hid (drawGo k x l = res) ∧ OwnI wr G G n n l ∧ Below G w wr) (fun _ vi _ => (intOf vi).toNat)
      case atStart => exact ⟨n - 1, key, idn n, by omega, by omega, by omega, rfl, by go_num, Hp, hown, hbel⟩
      case round =>
        clear Hp hown hbel
        obtain ⟨k, x, l, hkn, hx0, hx1, rfl, rfl, Hp, hown, hbel⟩ := hrel
        by_cases hk0 : k = 0
        · subst hk0
          have hrow := hown.row
          have e : l = res := Hp.out
          rw [e] at hrow
          clear e hown Hp
          go_wp2
          go_ret2
          exact ⟨_, rfl, ⟨_, _, rfl⟩, (by exact hrow), by unfold Kept; rw [hG.out]; exact hbel⟩
        · obtain ⟨i, rfl⟩ : ∃ i, k = i + 1 := ⟨k - 1, by omega⟩
          have hw : IntKind.i64.wrap (39373 * x) = 39373 * x := IntWalk.i64_in _ (by omega)
          obtain ⟨hn0, hn1⟩ := nxt_bounds hx0
          obtain ⟨j, hj, hji⟩ := mod_bounds (nxt x) i
          have hx' : (39373 * x).tmod 2147483647 = nxt x := rfl
          have hd : drawGo (i + 1) x l = drawGo i (nxt x) (swp l (i + 1) j) := by rw [drawGo, hj]; rfl
          have Hd : Hid (drawGo i (nxt x) (swp l (i + 1) j) = res) := Lib.hid (hd.symm.trans Hp.out)
          have c1 := hown.cell (i := i + 1) (by omega)
          have c2 := hown.cell (i := j) (by omega)
          have f1 := hown.free (i + 1)
          have f2 := hown.free j
          have hset : OwnI ((wr.setCell ⟨G, i + 1, none⟩ (.int .i64 (l.getD j 0))).setCell ⟨G, j, none⟩ (.int .i64 (l.getD (i + 1) 0))) G G n n (swp l (i + 1) j) := (hown.set (i + 1) _).set j _
          have hbel2 : ∀ u v, Below G w ((wr.setCell ⟨G, i + 1, none⟩ u).setCell ⟨G, j, none⟩ v) := fun u v => (hbel.setCell hown.lt.2 _).setCell hown.lt.2 _
          have c3 := (hown.set (i + 1) (l.getD j 0)).cell (i := j) (by omega)
          have f3 := (hown.set (i + 1) (l.getD j 0)).free j
          have Hset := Lib.hid hset
          have hgs := hown.lt.1
          clear hset hd hown Hp hbel
          generalize (l.set (i + 1) (l.getD j 0)).getD j 0 = y3 at *
          generalize l.getD j 0 = y1 at *
          generalize l.getD (i + 1) 0 = y2 at *
          generalize swp l (i + 1) j = l' at *
          generalize nxt x = x' at *
          go_wp2
          rw [hj]
          go_region
          go_wp2
          go_roundw
          case rel => exact ⟨i, x', l', by omega, by omega, by omega, rfl, by go_num, Hd, Hset.out.drew, (hbel2 _ _).drew⟩
          case measure => simp [intOf]
    · have hset := hown.set k (k : Int)
      rw [fill_set k (n - k) (by omega), show n - k - 1 = n - (k + 1) by omega] at hset
      have hbel2 : Below G w (wr.setCell ⟨G, k, none⟩ (.int .i64 (k : Int))) := hbel.setCell (Nat.le_refl G) _
      have f1 := hown.free k
      have c1 := hown.cell (i := k) (by omega)
      have Hset := Lib.hid hset
      generalize (idn k ++ List.replicate (n - k) 0).getD k 0 = z at *
      clear hset hown hbel Hp
      go_wp2
      go_roundw
      case rel => exact ⟨k + 1, by omega, by go_num, Hset.out, hbel2⟩
      case measure => simp [intOf]; omega
end Go.Proofs.YtgjggfpofgfchaaGreatDoor
