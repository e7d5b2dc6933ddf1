import Derived.Laws.Entries
import GoSem.Instr.MapUpdate
import GoSem.Instr.MakeMap
import Derived.Scope
import Derived.LoopN
import Derived.Test.YtgjggfpofgfchaaGreatDoorSx2
set_option linter.unusedSectionVars false
set_option linter.unusedVariables false
set_option linter.unusedSimpArgs false
namespace Go.Sx
open LimbNum
variable [Glob]
section
variable {P : Program} {E : Env} {ρ : Operand → AV} {st : Hp} {o : Oper} {β : Type} {k : AV → Hp → Option β} {r : β}

theorem dropB_some {b : Option Nat} {c : Hp → Option β} (h : dropB st b c = some r) :
    ∃ st1, c st1 = some r ∧ st1.nx = st.nx ∧ (∀ i, some i ≠ b → st1.h.get i = st.h.get i) ∧ (∀ i, some i = b → st1.h.get i = none) ∧ Heaps st st1 := by
  unfold dropB at h
  cases b with
  | none => exact ⟨st, h, rfl, fun _ _ => rfl, fun i hi => (by cases hi), Heaps.rfl' _⟩
  | some b =>
    simp only at h
    split at h
    · obtain ⟨t', h1, h2, h3⟩ := Tr.setK_some _ _ _ _ _ _ h
      rw [forceN_eq] at h1
      exact ⟨⟨t', st.nx, Nat.min st.lo b⟩, h1, rfl, fun i hi => h3 i fun e => hi (by rw [e]), fun i hi => (by cases hi; exact h2), set_heaps h3 rfl rfl fun _ => .inl h2⟩
    · cases h

theorem setRow_laid {w : World} {rb o : Nat} {c : Array Value} {e : TypeId} {vs : List Value} (hb : w.heap[rb]? = some (.cells c e (0, 0))) (hl : o + vs.length ≤ c.size) :
    Laid w rb o vs (w.setRow rb (c.toList.take o ++ vs ++ c.toList.drop (o + vs.length)).toArray) := by
  refine ⟨by simp [World.setRow], ⟨rfl, rfl, rfl⟩, fun k hk => setRow_other w rb k _ hk, fun c' e' h => ?_⟩
  rw [hb] at h; cases h
  refine ⟨_, setRow_heap w rb c _ e _ hb, by simp; omega, fun j => ?_⟩
  rw [List.getElem?_toArray, List.append_assoc, List.getElem?_append]
  have hto : (c.toList.take o).length = o := by simp; omega
  rw [hto]
  split
  · rw [if_neg (by omega), List.getElem?_take, if_pos (by omega), Array.getElem?_toList]
  · rw [List.getElem?_append]
    split
    · rw [if_pos (by omega)]
    · rw [if_neg (by omega), List.getElem?_drop, Array.getElem?_toList]
      congr 1
      omega

theorem append_run {a : Act} {w : World} {args : Array Operand} {argTypes : Array TypeId} {t : TypeId} {x y : Operand} {v : Value} {w' : World} (ho : o.op = .call { callee := .builtin .append, args, argTypes }) (ht : argTypes.toList = [t, t]) (hx : args.toList = [x, y])
    (h : (Builtin.append_ #[t, t] o.type #[a.eval x, a.eval y]).run P w = .ok v w') : (execOp a.eval o).run P w = .ok (.value v) w' := by
  have e1 : argTypes = #[t, t] := Array.ext' (by simpa using ht)
  have e2 : args = #[x, y] := Array.ext' (by simpa using hx)
  subst e1 e2
  simp [execOp, ho, resolve, invoke, builtin, h]

theorem append_none {a : Act} {m : Nm} {w : World} {t : TypeId} {x y : Operand} {i2 : TypeInfo} {e ty : TypeId} {te : TyI} {b : Option Nat} {n : Nat} {cs cs' : List AV} (h2 : P.underlying t = some (.slice e)) (g1 : P.info? e = some i2)
    (hvx : RV m w (ρ x) (a.eval x)) (hvy : RV m w (ρ y) (a.eval y)) (hrow : rowOf st (ρ x) te.size = some (b, n, cs)) (hel : elemsOf st (ρ y) te.size = some (0, cs')) :
    (Builtin.append_ #[t, t] ty #[a.eval x, a.eval y]).run P w = .ok (a.eval x) w := by
  have hy : ∃ base len cap, a.eval y = .slice base len cap ∧ len = 0 := by
    unfold elemsOf at hel
    split at hel
    · rw [‹ρ y = _›, RV] at hvy; exact ⟨_, _, _, hvy, rfl⟩
    · split at hel
      · split at hel
        · simp only [Option.some.injEq, Prod.mk.injEq] at hel
          rw [‹ρ y = _›, RV] at hvy
          obtain ⟨rb, cap, _, hvy, _⟩ := hvy
          exact ⟨_, _, _, hvy, hel.1⟩
        · cases hel
      · cases hel
    · cases hel
  obtain ⟨base, len, cap, hy, rfl⟩ := hy
  have hx' : ∃ base n cap, a.eval x = .slice base n cap ∧ n ≤ cap := by
    unfold rowOf at hrow
    split at hrow
    · rw [‹ρ x = _›, RV] at hvx; exact ⟨_, _, _, hvx, Nat.le_refl _⟩
    · rw [‹ρ x = _›, RV] at hvx
      obtain ⟨rb, cap, _, hvx, hle, _⟩ := hvx
      exact ⟨_, _, _, hvx, hle⟩
    · cases hrow
  obtain ⟨base', n1, cap', hx', hle⟩ := hx'
  have hfc : (Builtin.firstCells i2.size 0 (.slice base 0 cap)).run P w = .ok #[] w := by
    cases base <;> simp [Builtin.firstCells, loadCells, loadCellsFrom]
  rw [hx', hy]
  cases base' <;> simp [Builtin.append_, run_underlying h2, run_size g1, Builtin.lenOf, hle, hfc, storeCells]

theorem append_ok {args : Array Operand} {argTypes : Array TypeId} {t : TypeId} {x y : Operand} {ti te : TyI} (ho : o.op = .call { callee := .builtin .append, args, argTypes }) (hat : argTypes.toList = [t, t]) (hax : args.toList = [x, y])
    (ht : TyOK P t ti) (hk : ti.kind = .slice) (hte : TyOK P ti.elem te) (h : appendA st (ρ x) (ρ y) te k = some r) :
    ∃ av st', k av st' = some r ∧ Heavy P ρ st o av st' := by
  obtain ⟨i, d, z, h1, h2, h3, h4, h5, h6, h7, h8, h9, h10, _⟩ := ht.ex
  obtain ⟨i2, d2, z2, g1, g2, g3, g4, g5, g6, _⟩ := hte.ex
  obtain rfl := h10 hk
  have hin : ∀ u, u = x ∨ u = y → u ∈ o.op.operands := fun u hu => by
    simp only [ho, Op.operands, Call.operands]
    refine Array.mem_append.2 (.inr ?_)
    rw [← Array.mem_toList_iff, hax]
    simpa using hu
  unfold appendA at h
  split at h
  · rename_i b n cs n' cs' hrow hel
    split at h
    · rename_i hc
      obtain ⟨c1, c2, c3, c4⟩ := hc
      split at h
      · rename_i hn0
        subst hn0
        refine ⟨_, st, h, heavy_run (Heaps.rfl' _) fun a m w hO hs hf => ?_⟩
        have hvx := hO x (hin x (.inl rfl))
        exact ⟨_, w, m, .inl (append_run ho hat hax (append_none h2 g1 hvx (hO y (hin y (.inr rfl))) hrow hel)), hvx, hs, To.rfl', fun _ _ => rfl⟩
      · rename_i hn0
        split at h
        · rename_i hcell
          simp only [forceL_eq, forceN_eq] at h
          obtain ⟨st1, d1, d2, d3, d4, d5⟩ := dropB_some h
          obtain ⟨st', s1, s2, s3, s4, s5, s6⟩ := newB_some d1
          have hbytes : ∀ q : Nat, q ≤ 65536 → q * i2.bytes ≤ 140737488355328 := fun q hq => by
            have := Nat.mul_le_mul hq (show i2.bytes ≤ 65536 by omega)
            omega
          refine ⟨_, st', s1, heavy_run (d5.comp (new_heaps s4 s5 s6)) fun a m w hO hs hf => ?_⟩
          have hvx := hO x (hin x (.inl rfl))
          have hvy := hO y (hin y (.inr rfl))
          obtain ⟨ad, cp, vs', ey, hvs', hl', hmem⟩ := elems_rv hs hvy hel hn0
          have h1c := one_of hvs' hcell.1
          have hnv' := noU_values hvs' hcell.1
          unfold rowOf at hrow
          split at hrow
          · -- nil before
            simp only [Option.some.injEq, Prod.mk.injEq] at hrow
            obtain ⟨rfl, rfl, rfl⟩ := hrow
            rw [‹ρ x = _›, RV] at hvx
            have hr := run_append_nil (P := P) w t o.type ti.elem i2 z2 h2 g1 g3 ad n' cp vs' (by rw [hl', g4]) hmem (by omega) (by omega) (by have := hbytes n' (by omega); omega)
            simp only [List.nil_append, Nat.zero_add] at s2 s3 ⊢
            obtain ⟨m', q1, q2, q3, q4⟩ := grown_ok (e := ti.elem) (z := z2) (cap := grownCap w n' 0 ti.elem) (st1 := st1) hs hf (fun b c hb => by rw [← d3 b (by simp)]; exact hb) d2 g6 c2 hcell.2 hvs' hnv' hl' (grownCap_ge w n' 0 _) (isM_cell s2) s3 s4 s5 _ rfl
            exact ⟨_, _, m', .inl (append_run ho hat hax (by rw [hvx, ey]; exact hr)), q1, q2, q3, q4⟩
          · rename_i b' off len e he
            split at hrow
            · rename_i cells hcells
              split at hrow
              · rename_i hcc
                simp only [Option.some.injEq, Prod.mk.injEq] at hrow
                obtain ⟨rfl, rfl, rfl⟩ := hrow
                obtain ⟨rfl, rfl, hcl⟩ := hcc
                rw [he, RV] at hvx
                obtain ⟨rb, cap, hm, ex, hle, hroom⟩ := hvx
                obtain ⟨c, ety, q2, q3, q4, q5⟩ := hs.blk b' cells rb (cellsAt_some hcells).1 (cellsAt_some hcells).2 hm
                have hroom' := hroom
                obtain ⟨cr, er, fr, r1, r2⟩ := hroom'
                rw [q2] at r1; cases r1
                have hsub : ∀ x c, st1.h.get x = some c → st.h.get x = some c := fun x c hx => by
                  by_cases hxb : some x = some b'
                  · rw [d4 x hxb] at hx; cases hx
                  · rw [← d3 x hxb]; exact hx
                by_cases hfit : len + n' ≤ cap
                · -- there is room
                  have hmul : (len + n') * te.size ≤ cap * te.size := Nat.mul_le_mul_right _ hfit
                  have hadd : (len + n') * te.size = len * te.size + n' * te.size := Nat.add_mul _ _ _
                  have hr : (Builtin.append_ #[t, t] o.type #[a.eval x, a.eval y]).run P w = .ok (.slice (some ⟨rb, 0, none⟩) (len + n') cap) (w.setRow rb (c.toList.take (len * te.size) ++ vs' ++ c.toList.drop (len * te.size + vs'.length)).toArray) := by
                    have hf := run_firstCells_some (P := P) w te.size n' ad n' cp vs' hl' hmem
                    have hst := run_storeCells_at P rb (len * te.size) ety vs' 0 c w q2 (by rw [hl']; omega) h1c
                    simp only [Nat.add_zero] at hst
                    rw [ex, ey]
                    simp [Builtin.append_, run_underlying h2, run_size g1, ← g4, Builtin.lenOf, hfit, hf, addr_add, hst]
                  have hL := setRow_laid (vs := vs') (o := len * te.size) q2 (by rw [hl']; omega)
                  have hlen' := hvs'.length
                  obtain ⟨tl, tl1, tl2, tl3⟩ : ∃ tl : Hf, tl b' = some (cells ++ cs') ∧ (∀ i, i ≠ b' → tl i = st.h.get i) ∧ True := ⟨fun i => if i = b' then some (cells ++ cs') else st.h.get i, by simp, fun i hi' => by simp [hi'], trivial⟩
                  obtain ⟨a1, a2⟩ := hs.laid (cells' := cells ++ cs') (n := 0 + cap * te.size) hm (cellsAt_some hcells).1 (cellsAt_some hcells).2 tl1 tl2 hvs' (fun x hx => List.all_eq_true.1 hcell.1 x hx) hL (by rw [List.length_append, hcl, hlen', hl']; omega) hroom (fun j => by
                    rw [List.getElem?_append, ← hcl]
                    split
                    · rw [if_neg (by omega)]
                    · split
                      · rfl
                      · rw [List.getElem?_eq_none (by omega), List.getElem?_eq_none (by omega)])
                  have hnx : m st1.nx = none := hf _ (by omega) (by omega)
                  have hbn : b' ≠ st1.nx := fun h => by rw [← h, hm] at hnx; cases hnx
                  obtain ⟨b1, b2⟩ := a1.rename (h' := st'.h.get) hnx hm tl1 s3 (by rw [s4 b' hbn]; exact d4 b' rfl) (fun i hi1 hi2 => by rw [s4 i hi1, d3 i (by simpa using hi2), tl2 i hi2])
                  refine ⟨_, _, _, .inl (append_run ho hat hax hr), ?_, b1, a2.comp b2, fun x hx => if_neg (by omega)⟩
                  rw [RV]
                  exact ⟨rb, cap, by simp, rfl, hfit, (hroom.keep a2.grow).keep b2.grow⟩
                · -- a new block
                  have hold : RVs m w cells (c.toList.take cells.length) := RVs.of_get (by simp; omega) fun i av ha => by
                    have hil := (List.getElem?_eq_some_iff.1 ha).1
                    rw [List.getElem?_take, if_pos hil, Array.getElem?_toList]
                    exact q4 i av ha
                  have holdm : ∀ j u, (c.toList.take cells.length)[j]? = some u → w.cell? ((⟨rb, 0, none⟩ : Addr).add j) = some u := fun j u hu => by
                    rw [addr_add, Nat.zero_add]
                    unfold World.cell?
                    rw [q2]
                    rw [List.getElem?_take] at hu
                    split at hu
                    · simpa using hu
                    · cases hu
                  have hr := run_append_grow (P := P) w t o.type ti.elem i2 z2 h2 g1 g3 ⟨rb, 0, none⟩ len cap (c.toList.take cells.length) (by simp only [List.length_take, Array.length_toList, ← g4]; omega) holdm ad n' cp vs' (by rw [hl', g4]) hmem (by omega) (by omega)
                    (growslice_fits (by omega) (hbytes _ c3))
                  obtain ⟨m', u1, u2, u3, u4⟩ := grown_ok (e := ti.elem) (z := z2) (cap := grownCap w (len + n') cap ti.elem) (n := len + n') (st1 := st1) hs hf hsub d2 g6 c2 hcell.2 (hold.append hvs') (fun u hu => by
                    rcases List.mem_append.1 hu with hu | hu
                    · intro q hq
                      obtain ⟨j, hj, he'⟩ := List.getElem_of_mem hu
                      have : c[j]? = some u := by
                        have hj' : j < cells.length ∧ j < c.size := by simpa [Nat.lt_min] using hj
                        rw [List.getElem_take, Array.getElem_toList] at he'
                        rw [← he', Array.getElem?_eq_getElem hj'.2]
                      exact q5 j q (hq ▸ this)
                    · exact hnv' u hu) (by rw [List.length_append, hl', ← hold.length, hcl, Nat.add_mul]) (grownCap_ge w _ _ _) (isM_cell s2) s3 s4 s5 ((c.toList.take cells.length).toArray ++ vs'.toArray ++ Builtin.zeroCells z2.cells (grownCap w (len + n') cap ti.elem - (len + n'))) (by simp)
                  exact ⟨_, _, m', .inl (append_run ho hat hax (by rw [ex, ey]; exact hr)), u1, u2, u3, u4⟩
              · cases hrow
            · cases hrow
          · cases hrow
        · cases h
    · cases h
  · cases h
end
end Go.Sx

/-
copy.
-/
namespace Go.Sx
open LimbNum
variable [Glob]
section
variable {P : Program} {E : Env} {ρ : Operand → AV} {st : Hp} {o : Oper} {β : Type} {k : AV → Hp → Option β} {r : β}

theorem copy_ok {args : Array Operand} {argTypes : Array TypeId} {t t' : TypeId} {x y : Operand} {ti te : TyI} {b off n e n' : Nat} {cs : List AV} (ho : o.op = .call { callee := .builtin .copy, args, argTypes }) (hat : argTypes.toList = [t, t']) (hax : args.toList = [x, y])
    (ht : TyOK P t ti) (hk : ti.kind = .slice) (hte : TyOK P ti.elem te) (hx : ρ x = .sl b off n e) (hel : elemsOf st (ρ y) te.size = some (n', cs)) (hsz : e = te.size ∧ te.size ≠ 0)
    (h : (setB st b off (cs.take (Nat.min n' n * te.size)) fun st => k (.int .i64 ((Nat.min n' n : Nat) : Int)) st) = some r) :
    ∃ av st', k av st' = some r ∧ Heavy P ρ st o av st' := by
  obtain ⟨i, d, z, h1, h2, h3, h4, h5, h6, h7, h8, h9, h10, _⟩ := ht.ex
  obtain ⟨i2, d2, z2, g1, g2, g3, g4, g5, g6, _⟩ := hte.ex
  obtain rfl := h10 hk
  have e1 : argTypes = #[t, t'] := Array.ext' (by simpa using hat)
  have e2 : args = #[x, y] := Array.ext' (by simpa using hax)
  subst e1 e2
  obtain ⟨cells, st', s1, s2, s3, s4, s5, s6, s7, s8⟩ := setB_some h
  refine ⟨_, st', s4, heavy_run (set_heaps s6 s7 s8 fun hb => by omega) fun a m w hO hs hf => ?_⟩
  have hvx := hO x (by simp [ho, Op.operands, Call.operands])
  have hvy := hO y (by simp [ho, Op.operands, Call.operands])
  rw [hx, RV] at hvx
  obtain ⟨rb, cap, hm, hvx, hcap, hroom⟩ := hvx
  have hfirst : ∃ vs, (Builtin.lenOf (a.eval y)).run P w = .ok n' w ∧ (Builtin.firstCells i2.size (Nat.min n' n) (a.eval y)).run P w = .ok vs.toArray w ∧ RVs m w (cs.take (Nat.min n' n * te.size)) vs := by
    unfold elemsOf at hel
    split at hel
    · rename_i hy
      simp only [Option.some.injEq, Prod.mk.injEq] at hel
      obtain ⟨rfl, rfl⟩ := hel
      rw [hy, RV] at hvy
      exact ⟨[], by simp [hvy, Builtin.lenOf], by simp [hvy, Builtin.firstCells], by simp [RVs]⟩
    · rename_i b' o' n'' e' hy
      split at hel
      · rename_i cells' hb'
        split at hel
        · rename_i hle
          simp only [Option.some.injEq, Prod.mk.injEq] at hel
          obtain ⟨rfl, rfl⟩ := hel
          rw [hy, RV] at hvy
          obtain ⟨rb', cap', hm', hvy, hcap', hroom'⟩ := hvy
          have hmin : Nat.min n'' n * te.size ≤ n'' * te.size := Nat.mul_le_mul_right _ (Nat.min_le_left _ _)
          obtain ⟨vs, q1, q2, _⟩ := get_rv (P := P) hs (cellsAt_some hb') hm' (o := o') (n := Nat.min n'' n * te.size) (by omega)
          refine ⟨vs, by simp [hvy, Builtin.lenOf], by rw [hvy]; simp only [Builtin.firstCells]; rw [← g4]; exact q1, ?_⟩
          rw [List.take_take, Nat.min_eq_left hmin]
          exact q2
        · cases hel
      · cases hel
    · cases hel
  obtain ⟨vs, f1, f2, f3⟩ := hfirst
  obtain ⟨w', q1, q2, q3⟩ := set_fits (P := P) hs s1 hm s2.2 s3 s5 s6 f3
  refine ⟨.int .i64 ((Nat.min n' n : Nat) : Int), w', m, .inl ?_, rv_int _ _ _ _, q2, q3, fun _ _ => rfl⟩
  simp [execOp, ho, resolve, invoke, builtin, Builtin.copy_, run_underlying h2, hvx, f1, run_size g1, f2, q1, goInt]
end
end Go.Sx

/-
Maps.
-/
namespace Go.Sx
open LimbNum
variable [Glob]
section
variable {P : Program} {E : Env} {ρ : Operand → AV} {st : Hp} {o : Oper} {β : Type} {k : AV → Hp → Option β} {r : β}

theorem newM_some (h : newM st k = some r) : ∃ st', k (.mp st.nx) st' = some r ∧ st'.h.get st.nx = some [.tup []] ∧ (∀ i, i ≠ st.nx → st'.h.get i = st.h.get i) ∧ st'.nx = st.nx + 1 ∧ st'.lo = st.lo := by
  unfold newM at h
  obtain ⟨t', h1, h2, h3⟩ := Tr.setK_some _ _ _ _ _ _ h
  simp only [forceN_eq] at h1
  exact ⟨⟨t', st.nx + 1, st.lo⟩, h1, h2, h3, rfl, rfl⟩
theorem setM_some {b : Nat} {es : List AV} (h : setM st b es k = some r) : ∃ st', k .dead st' = some r ∧ st'.h.get b = some [.tup es] ∧ (∀ i, i ≠ b → st'.h.get i = st.h.get i) ∧ st'.nx = st.nx ∧ st'.lo = Nat.min st.lo b := by
  unfold setM at h
  rw [forceL_eq] at h
  obtain ⟨t', h1, h2, h3⟩ := Tr.setK_some _ _ _ _ _ _ h
  simp only [forceN_eq] at h1
  exact ⟨⟨t', st.nx, Nat.min st.lo b⟩, h1, h2, h3, rfl, rfl⟩

theorem makeMap_ok {t : TypeId} {rs : Option Operand} (ho : o.op = .makeMap t rs) (hr : ∀ (a : Act) (m : Nm) (w : World), OpsRV m w ρ a o → (Instr.makeMap t (rs.map a.eval)).run P w = .ok (.map (some w.heap.size)) (w.alloc (.map #[] 0)))
    (h : newM st k = some r) : ∃ av st', k av st' = some r ∧ Heavy P ρ st o av st' := by
  obtain ⟨st', s1, s2, s3, s4, s5⟩ := newM_some h
  refine ⟨_, st', s1, heavy_run (new_heaps s3 s4 s5) fun a m w hO hs hf => ?_⟩
  obtain ⟨q1, q2⟩ := hs.newO (hf st.nx (Nat.le_refl _) (by omega)) s2 s3 (.map #[] 0) (.inr ⟨[], [], #[], 0, rfl, rfl, by simp [RVs]⟩)
  refine ⟨.map (some w.heap.size), _, _, .inl ?_, ?_, q1, q2, fun b hb => if_neg (by omega)⟩
  · simp [execOp, ho, hr a m w hO]
  · rw [RV]; exact ⟨w.heap.size, by simp, rfl⟩
theorem makeMap_none {t : TypeId} (a : Act) (w : World) : (Instr.makeMap t ((none : Option Operand).map a.eval)).run P w = .ok (.map (some w.heap.size)) (w.alloc (.map #[] 0)) := by
  simp [Instr.makeMap, newObj, Sem.run, Bind.bind, Sem.bind]
theorem makeMap_some {t : TypeId} {x : Operand} {ti : TyI} {i : IntKind} {n : Int} (ht : TyOK P t ti) (hk : ti.kind = .map) (a : Act) (w : World) (hx : a.eval x = .int i n) :
    (Instr.makeMap t ((some x).map a.eval)).run P w = .ok (.map (some w.heap.size)) (w.alloc (.map #[] 0)) := by
  have h2 := ht.mapk hk
  simp [Instr.makeMap, run_underlying h2, hx, asInt, asIntOf, newObj, Sem.run]

/-- Where a key lies, in the model. -/
def relF (m : Nm) (w : World) : Option (Nat × AV) → Option (Nat × Value) → Prop
  | none, none => True
  | some (j, a), some (j', v) => j = j' ∧ RV m w a v
  | _, _ => False

theorem sameNow_ok {t : TypeId} {d : TypeDesc} (hd : P.underlying t = some d) {u v : Value} {b : Bool} (h : Instr.sameNow d u v = some b) (D : Nat) (w : World) : (Op.equalIn (D + 1) t u v).run P w = .ok b w := by
  unfold Instr.sameNow at h
  split at h
  · rename_i k a k' b'
    split at h
    · subst_vars
      simp only [Option.some.injEq] at h
      subst h
      simp [Op.equalIn, run_underlying hd]
    · cases h
  · simp only [Option.some.injEq] at h
    subst h
    simp [Op.equalIn, run_underlying hd]
  · simp only [Option.some.injEq] at h
    subst h
    simp [Op.equalIn, run_underlying hd]
  · cases h

theorem find_ok (hty : ∀ t ti, E.ty.get t = some ti → TyOK P t ti) {kt : TypeId} {d : TypeDesc} (hd : P.underlying kt = some d) {m : Nm} {w : World} {kk : AV} {kv : Value} (hk : RV m w kk kv) :
    ∀ (es : List AV) (en : List MapEntry) (i : Nat) (q : Option (Nat × AV)), RVs m w es (en.map entV) → findA (eqA E 8 kt) kk es i = some q →
      ∃ q', (Instr.findAsking kt kv en i).run P w = .ok q' w ∧ relF m w q q' ∧ ∀ p, Instr.findNow d kv en i = some p → p = q'
  | [], en, i, q, he, h => by
    have : en = [] := by
      have := he.length
      simpa using this.symm
    subst this
    simp only [findA, Option.some.injEq] at h
    subst h
    exact ⟨none, by simp [Instr.findAsking], trivial, fun p hp => by simp only [Instr.findNow, Option.some.injEq] at hp; exact hp.symm⟩
  | e :: es, [], i, q, he, h => by
    have := he.length
    simp at this
  | e :: es, x :: en, i, q, he, h => by
    rw [List.map_cons, RVs] at he
    obtain ⟨v, l, he1, he2, he3⟩ := he
    cases he1
    unfold findA at h
    split at h
    · rename_i k' v'
      rw [RV] at he2
      obtain ⟨l, hl1, hl2⟩ := he2
      obtain ⟨rfl⟩ : l = [x.key, x.val] := by
        have : (#[x.key, x.val] : Array Value) = l.toArray := by
          unfold entV at hl1
          exact Value.agg.inj hl1
        have := congrArg Array.toList this
        simpa using this.symm
      rw [RVs] at hl2
      obtain ⟨_, _, hh, hkey, hl3⟩ := hl2
      cases hh
      rw [RVs] at hl3
      obtain ⟨_, _, hh, hval, _⟩ := hl3
      cases hh
      split at h
      · rename_i hq
        have hr := eqA_ok hty 8 kt kk k' true hq m w kv x.key hk hkey 10000 (by omega)
        simp only [Option.some.injEq] at h
        subst h
        refine ⟨some (i, x.val), ?_, ⟨rfl, hval⟩, fun p hp => ?_⟩
        · simp [Instr.findAsking, run_equal hr]
        · unfold Instr.findNow at hp
          split at hp
          · simp only [Option.some.injEq] at hp; exact hp.symm
          · rename_i hs
            have := (sameNow_ok hd hs 9999 w).symm.trans hr
            cases this
          · cases hp
      · rename_i hq
        have hr := eqA_ok hty 8 kt kk k' false hq m w kv x.key hk hkey 10000 (by omega)
        obtain ⟨q', h1, h2, h3⟩ := find_ok hty hd hk es en (i + 1) q he3 h
        refine ⟨q', ?_, h2, fun p hp => ?_⟩
        · simp [Instr.findAsking, run_equal hr, h1]
        · unfold Instr.findNow at hp
          split at hp
          · rename_i hs
            have := (sameNow_ok hd hs 9999 w).symm.trans hr
            cases this
          · exact h3 p hp
          · cases hp
      · cases h
    · cases h

theorem findKey_ok (hty : ∀ t ti, E.ty.get t = some ti → TyOK P t ti) {kt : TypeId} {d : TypeDesc} (hd : P.underlying kt = some d) {m : Nm} {w : World} {kk : AV} {kv : Value} (hk : RV m w kk kv) {es : List AV} {en : List MapEntry} {q : Option (Nat × AV)}
    (he : RVs m w es (en.map entV)) (h : findA (eqA E 8 kt) kk es 0 = some q) : ∃ q', (Instr.findKey kt kv en).run P w = .ok q' w ∧ relF m w q q' := by
  obtain ⟨q', h1, h2, h3⟩ := find_ok hty hd hk es en 0 q he h
  refine ⟨q', ?_, h2⟩
  unfold Instr.findKey
  simp only [Sem.run_bind, run_underlying hd, Result.andThen_ok]
  cases hf : Instr.findNow d kv en 0 with
  | none => simpa using h1
  | some p => rw [h3 p hf]; simp

theorem forIn_unit {α : Type} {w : World} {body : α → PUnit → Sem (ForInStep PUnit)} : ∀ (l : List α), (∀ f ∈ l, (body f ⟨⟩).run P w = .ok (.yield ⟨⟩) w) → (forIn l ⟨⟩ body).run P w = .ok ⟨⟩ w
  | [], _ => by simp
  | f :: l, h => by
    rw [List.forIn_cons]
    simp only [Sem.run_bind, h f (by simp), Result.andThen_ok]
    exact forIn_unit l fun g hg => h g (by simp [hg])

theorem forIn_unit' {α : Type} {w : World} {body : α → PUnit → Sem (ForInStep PUnit)} (l : List α) (h : ∀ f ∈ l, (body f ⟨⟩).run P w = .ok (.yield ⟨⟩) w) : ((forIn l ⟨⟩ body).run P w).andThen (fun _ w' => (pure () : Sem Unit).run P w') = .ok () w := by
  rw [forIn_unit l h]
  rfl

theorem key_ok (hty : ∀ t ti, E.ty.get t = some ti → TyOK P t ti) : ∀ (d : Nat) (t : TypeId) (x : AV), keyA E d t x = true → ∀ (m : Nm) (w : World) (v : Value), RV m w x v → ∀ (D : Nat) (em : Bool), d ≤ D → (Instr.checkKey em D t v).run P w = .ok () w
  | 0, t, x, h => by cases h
  | d + 1, t, x, h => by
    intro m w v hv D em hD
    obtain ⟨D, rfl⟩ : ∃ D', D = D' + 1 := ⟨D - 1, by omega⟩
    rw [keyA] at h
    split at h
    · cases h
    · rename_i ti hti
      have ht := hty _ _ hti
      obtain ⟨i, de, z, h1, h2, h3, h4, h5, h6, h7, h8, h9, h10, h11⟩ := ht.ex
      obtain ⟨m1, m2, m3, m4⟩ := ht.more de h2
      split at h
      · rename_i b hk
        obtain rfl := m3 hk
        rw [RV] at hv; subst hv
        simp [Instr.checkKey, run_underlying h2]
      · rename_i ik n hk
        obtain rfl := m1 hk
        rw [RV] at hv; subst hv
        simp [Instr.checkKey, run_underlying h2]
      · rename_i s hk
        obtain rfl := h11 hk
        rw [RV] at hv; subst hv
        simp [Instr.checkKey, run_underlying h2]
      · rename_i xs hk
        obtain ⟨fs, rfl, hfs⟩ := h8 hk
        rw [RV] at hv
        obtain ⟨vs, rfl, hvs⟩ := hv
        simp only [Instr.checkKey, Sem.run_bind, run_underlying h2, Result.andThen_ok]
        rw [← Array.forIn_toList]
        refine forIn_unit' _ fun f hf => ?_
        have hff := List.all_eq_true.1 h (fldI P f) (by rw [hfs]; exact List.mem_map.2 ⟨f, hf, rfl⟩)
        split at hff
        · cases hff
        · rename_i hs
          obtain ⟨j, e, e1, e2, _, _, _⟩ := fld_size (P := P) (fd := f) rfl hs
          have e3 : (fldI P f).1 = f.offset := by simp only [fldI, e1, e2]
          have ety : (fldI P f).2.1 = f.type := by simp only [fldI, e1, e2]
          have e4 : (fldI P f).2.2.1 = j.size := by simp only [fldI, e1, e2]
          have e5 : (fldI P f).2.2.2 = aggD e := by simp only [fldI, e1, e2]
          rw [e3, e4, e5, ety] at hff
          split at hff
          · rename_i x' hpx
            obtain ⟨u, p1, p2⟩ := part_rv e1 e2 rfl rfl hpx hvs
            have ih := key_ok hty d f.type x' hff m w u p2 D em (by omega)
            by_cases hn : f.name = "_"
            · simp [hn]
            · simp [hn, p1, ih]
          · cases hff
      · cases h

theorem eqP0_ok {a b : AV} (h : eqP0 a b = true) : ∀ (m m' : Nm) (w w' : World) (u v : Value), RV m w a u → RV m' w' b v → u = v ∧ ∀ n, Instr.sameBits n u u = true := by
  intro m m' w w' u v hu hv
  cases a <;> cases b <;> simp only [eqP0, Bool.false_eq_true] at h
  · rw [RV] at hu hv; subst hu hv
    have := eq_of_beq h
    subst this
    exact ⟨rfl, fun n => by cases n <;> simp [Instr.sameBits]⟩
  · rw [RV] at hu hv; subst hu hv
    simp only [Bool.and_eq_true, decide_eq_true_eq] at h
    obtain ⟨rfl, rfl⟩ := h
    exact ⟨rfl, fun n => by cases n <;> simp [Instr.sameBits]⟩
  · rw [RV] at hu hv; subst hu hv
    have := eq_of_beq h
    subst this
    exact ⟨rfl, fun n => by cases n <;> simp [Instr.sameBits, beq_toListBytes]⟩

theorem eqPs_ok : ∀ (a b : List AV), eqPs a b = true → ∀ (m m' : Nm) (w w' : World) (us vs : List Value), RVs m w a us → RVs m' w' b vs → us = vs ∧ ∀ n, ((us.zip us).all fun (x, y) => Instr.sameBits n x y) = true
  | [], [], _, m, m', w, w', us, vs, hu, hv => by
    rw [RVs] at hu hv; subst hu hv
    exact ⟨rfl, fun n => rfl⟩
  | [], _ :: _, h, _, _, _, _, _, _, _, _ => by cases h
  | _ :: _, [], h, _, _, _, _, _, _, _, _ => by cases h
  | a :: l, b :: l', h, m, m', w, w', us, vs, hu, hv => by
    simp only [eqPs, Bool.and_eq_true] at h
    rw [RVs] at hu hv
    obtain ⟨u, us, rfl, u1, u2⟩ := hu
    obtain ⟨v, vs, rfl, v1, v2⟩ := hv
    obtain ⟨rfl, q⟩ := eqP0_ok h.1 m m' w w' u v u1 v1
    obtain ⟨rfl, q'⟩ := eqPs_ok l l' h.2 m m' w w' us vs u2 v2
    exact ⟨rfl, fun n => by simp only [List.zip_cons_cons, List.all_cons, q n, q' n, Bool.and_self]⟩

theorem eqP_ok {a b : AV} (h : eqP a b = true) (m m' : Nm) (w w' : World) (u v : Value) (hu : RV m w a u) (hv : RV m' w' b v) : u = v ∧ Instr.sameBits 10000 u v = true := by
  unfold eqP at h
  split at h
  · rw [RV] at hu hv
    obtain ⟨us, rfl, hu⟩ := hu
    obtain ⟨vs, rfl, hv⟩ := hv
    obtain ⟨rfl, q⟩ := eqPs_ok _ _ h m m' w w' us vs hu hv
    refine ⟨rfl, ?_⟩
    show Instr.sameBits (9999 + 1) _ _ = true
    simp only [Instr.sameBits, beq_self_eq_true, Bool.true_and]
    exact q 9999
  · obtain ⟨rfl, q⟩ := eqP0_ok h m m' w w' u v hu hv
    exact ⟨rfl, q 10000⟩

theorem run_getMap {w : World} {rb : Nat} {en : Array MapEntry} {ck : Nat} (h : w.heap[rb]? = some (.map en ck)) : (getObj rb).run P w = .ok (.map en ck) w := by
  unfold getObj
  simp [Sem.run, h]
theorem run_setMap {w : World} {rb : Nat} {en : Array MapEntry} {ck : Nat} (h : w.heap[rb]? = some (.map en ck)) (ob : Obj) : (setObj rb ob).run P w = .ok () { w with heap := w.heap.setIfInBounds rb ob } := by
  unfold setObj
  simp [Sem.run, h]

/-- A map that is given other entries. -/
theorem map_fits {m : Nm} {w : World} {st st' : Hp} {b rb : Nat} {es es' l : List AV} {en en' : Array MapEntry} {ck ck' : Nat} (hs : RS m w st.h.get) (hb : st.h.get b = some (.tup es :: l)) (hm : m b = some rb) (hw : w.heap[rb]? = some (.map en ck))
    (hget : st'.h.get b = some [.tup es']) (hoth : ∀ i, i ≠ b → st'.h.get i = st.h.get i) (he : RVs m w es' (en'.toList.map entV)) :
    RS m { w with heap := w.heap.setIfInBounds rb (.map en' ck') } st'.h.get ∧ To m st.h.get w m st'.h.get { w with heap := w.heap.setIfInBounds rb (.map en' ck') } := by
  have hlt := heap_lt hw
  have hself : (w.heap.setIfInBounds rb (.map en' ck'))[rb]? = some (.map en' ck') := by simp [hlt]
  have hne : ∀ k, k ≠ rb → (w.heap.setIfInBounds rb (.map en' ck'))[k]? = w.heap[k]? := fun k hk => by rw [Array.getElem?_setIfInBounds_ne (by omega)]
  have hg : Grow w { w with heap := w.heap.setIfInBounds rb (.map en' ck') } := ⟨by simp, fun k c e f hk => by
    by_cases hkr : k = rb
    · subst hkr; rw [hw] at hk; cases hk
    · exact ⟨c, f, by show (w.heap.setIfInBounds rb _)[k]? = _; rw [hne k hkr]; exact hk, rfl⟩⟩
  have hu : U64 w { w with heap := w.heap.setIfInBounds rb (.map en' ck') } := fun a n ha => by
    unfold World.cell? at ha ⊢
    by_cases hab : a.block = rb
    · rw [hab, hw] at ha
      simp at ha
    · show (match (w.heap.setIfInBounds rb _)[a.block]? with | some (.cells c _ _) => _ | _ => _) = _
      rw [hne _ hab]; exact ha
  have hdom : ∀ x, st'.h.get x ≠ none → st.h.get x ≠ none := fun x hx' => by
    by_cases hxb : x = b
    · subst hxb; rw [hb]; simp
    · rwa [← hoth x hxb]
  have hto : To m st.h.get w m st'.h.get { w with heap := w.heap.setIfInBounds rb (.map en' ck') } :=
    ⟨Ext.rfl' _, hg, hu, ⟨rfl, rfl, rfl⟩, fun k hk hn => hne k fun hkr => by subst hkr; exact hn b (by rw [hb]; simp) hm, fun x y hx hmx => .inr ⟨x, hdom x hx, hmx⟩⟩
  refine ⟨⟨fun x cs y hx hmx => ?_, fun x y z hx hy hmx hmy => hs.inj x y z (hdom x hx) (hdom y hy) hmx hmy, hs.glob.to hto⟩, hto⟩
  by_cases hxb : x = b
  · subst hxb
    rw [hget] at hx; cases hx
    rw [hm] at hmx; cases hmx
    exact ⟨_, hself, .inr ⟨es', [], en', ck', rfl, rfl, hto.rvs he⟩⟩
  · rw [hoth x hxb] at hx
    obtain ⟨ob, q2, q3⟩ := hs.obj x cs y hx hmx
    have hr : y ≠ rb := fun hy => hxb (hs.inj x b rb (by rw [hx]; simp) (by rw [hb]; simp) (hy ▸ hmx) hm)
    exact ⟨ob, by show (w.heap.setIfInBounds rb _)[y]? = _; rw [hne y hr]; exact q2, q3.to hto⟩

theorem update_ok (hty : ∀ t ti, E.ty.get t = some ti → TyOK P t ti) {t : TypeId} {x y z : Operand} (ho : o.op = .mapUpdate t x y z ∨ o.op = .insert t x y z) (h : updateA E st t (ρ x) (ρ y) (ρ z) k = some r) :
    ∃ av st', k av st' = some r ∧ Heavy P ρ st o av st' := by
  have hex : ∀ (a : Act) (w : World), (execOp a.eval o).run P w = ((Instr.mapUpdate t (a.eval x) (a.eval y) (a.eval z)).run P w).andThen fun _ w' => .ok .skip w' := fun a w => by
    rcases ho with ho | ho <;> simp [execOp, ho]
  have hops : ∀ u, u = x ∨ u = y ∨ u = z → u ∈ o.op.operands := fun u hu => by
    rcases ho with ho | ho <;> (rw [ho]; simp only [Op.operands]; rcases hu with rfl | rfl | rfl <;> simp)
  unfold updateA at h
  split at h
  · rename_i ti b hti hx
    split at h
    · rename_i hk
      have hmap := (hty _ _ hti).mapk hk
      split at h
      · rename_i es hes
        obtain ⟨hlt, l, hb⟩ := mapAt_some hes
        split at h
        · rename_i hkey
          have hkd : ∃ d, P.underlying ti.len = some d := by
            rw [keyA] at hkey
            split at hkey
            · cases hkey
            · obtain ⟨_, d, _, _, h2, _⟩ := (hty _ _ ‹_›).ex
              exact ⟨d, h2⟩
          obtain ⟨d, hd⟩ := hkd
          have common : ∀ (a : Act) (m : Nm) (w : World), OpsRV m w ρ a o → RS m w st.h.get → ∃ rb en ck, m b = some rb ∧ a.eval x = .map (some rb) ∧ w.heap[rb]? = some (.map en ck) ∧ RVs m w es (en.toList.map entV) ∧ (Instr.checkKey false 10000 ti.len (a.eval y)).run P w = .ok () w := fun a m w hO hs => by
            have hv := hO x (hops x (.inl rfl))
            rw [hx, RV] at hv
            obtain ⟨rb, hm, hv⟩ := hv
            obtain ⟨en, ck, q1, q2⟩ := hs.mp b es l rb hb hm
            exact ⟨rb, en, ck, hm, hv, q1, q2, key_ok hty 8 ti.len (ρ y) hkey m w _ (hO y (hops y (.inr (.inl rfl)))) 10000 false (by omega)⟩
          split at h
          · rename_i hf
            obtain ⟨st', s1, s2, s3, s4, s5⟩ := setM_some h
            refine ⟨_, st', s1, heavy_run (set_heaps s3 s4 s5 fun hb' => by omega) fun a m w hO hs hfr => ?_⟩
            obtain ⟨rb, en, ck, hm, hv, q1, q2, q3⟩ := common a m w hO hs
            have hky := hO y (hops y (.inr (.inl rfl)))
            have hkz := hO z (hops z (.inr (.inr rfl)))
            obtain ⟨q', f1, f2⟩ := findKey_ok hty hd hky q2 hf
            cases q' with
            | some p => cases f2
            | none =>
              obtain ⟨g1, g2⟩ := map_fits (ck' := ck + 1) (en' := en.push { key := a.eval y, val := a.eval z, born := ck }) hs hb hm q1 s2 s3 (by
                rw [Array.toList_push, List.map_append]
                refine q2.append ?_
                rw [List.map_cons, List.map_nil, RVs]
                refine ⟨_, [], rfl, ?_, by rw [RVs]⟩
                rw [RV]
                exact ⟨[a.eval y, a.eval z], rfl, by rw [RVs]; exact ⟨_, _, rfl, hky, by rw [RVs]; exact ⟨_, _, rfl, hkz, by rw [RVs]⟩⟩⟩)
              refine ⟨undef, _, m, .inr ⟨?_, rfl⟩, rv_dead _ _ _, g1, g2, fun _ _ => rfl⟩
              rw [hex]
              simp [Instr.mapUpdate, run_underlying hmap, hv, run_getMap q1, q3, f1, run_setMap q1]
          · rename_i i v hf
            split at h
            · rename_i k' v' hn
              split at h
              · rename_i hp
                obtain ⟨st', s1, s2, s3, s4, s5⟩ := setM_some h
                refine ⟨_, st', s1, heavy_run (set_heaps s3 s4 s5 fun hb' => by omega) fun a m w hO hs hfr => ?_⟩
                obtain ⟨rb, en, ck, hm, hv, q1, q2, q3⟩ := common a m w hO hs
                have hky := hO y (hops y (.inr (.inl rfl)))
                have hkz := hO z (hops z (.inr (.inr rfl)))
                obtain ⟨q', f1, f2⟩ := findKey_ok hty hd hky q2 hf
                cases q' with
                | none => cases f2
                | some p =>
                  obtain ⟨j, pv⟩ := p
                  obtain ⟨rfl, f3⟩ := f2
                  rw [nth_eq] at hn
                  obtain ⟨ev, e1, e2⟩ := q2.get hn
                  rw [List.getElem?_map] at e1
                  cases hen : en.toList[i]? with
                  | none => rw [hen] at e1; cases e1
                  | some ent =>
                    rw [hen] at e1
                    simp only [Option.map_some, Option.some.injEq] at e1
                    subst e1
                    have hen' : en[i]? = some ent := by rw [← Array.getElem?_toList]; exact hen
                    rw [RV] at e2
                    obtain ⟨l2, hl1, hl2⟩ := e2
                    obtain ⟨rfl⟩ : l2 = [ent.key, ent.val] := by
                      have : (#[ent.key, ent.val] : Array Value) = l2.toArray := by
                        unfold entV at hl1
                        exact Value.agg.inj hl1
                      have := congrArg Array.toList this
                      simpa using this.symm
                    rw [RVs] at hl2
                    obtain ⟨_, _, hh, hkey', _⟩ := hl2
                    cases hh
                    obtain ⟨hsame1, hsame2⟩ := eqP_ok hp m m w w _ _ hkey' hky
                    have hstay : (Instr.keyThatStays ent.key (a.eval y)).run P w = .ok (a.eval y) w := by simp [Instr.keyThatStays, hsame2]
                    obtain ⟨g1, g2⟩ := map_fits (ck' := ck) (en' := en.modify i fun e => { e with key := a.eval y, val := a.eval z }) hs hb hm q1 s2 s3 (by
                      have : (en.modify i fun e => { e with key := a.eval y, val := a.eval z }).toList.map entV = (en.toList.map entV).set i (.agg #[a.eval y, a.eval z]) := by
                        apply List.ext_getElem?
                        intro j
                        rw [List.getElem?_map, Array.getElem?_toList, Array.getElem?_modify, List.getElem?_set, List.getElem?_map, Array.getElem?_toList]
                        by_cases hij : i = j
                        · subst hij
                          have hil : i < en.size := (Array.getElem?_eq_some_iff.1 hen').1
                          simp [hen', entV, hil]
                        · simp [hij]
                      rw [this]
                      refine q2.set i ?_
                      rw [RV]
                      exact ⟨[a.eval y, a.eval z], rfl, by rw [RVs]; exact ⟨_, _, rfl, hky, by rw [RVs]; exact ⟨_, _, rfl, hkz, by rw [RVs]⟩⟩⟩)
                    refine ⟨undef, _, m, .inr ⟨?_, rfl⟩, rv_dead _ _ _, g1, g2, fun _ _ => rfl⟩
                    rw [hex]
                    simp [Instr.mapUpdate, run_underlying hmap, hv, run_getMap q1, q3, f1, run_setMap q1, hen', hstay]
              · cases h
            · cases h
          · cases h
        · cases h
      · cases h
    · cases h
  · cases h

theorem only_self (b : Nat) (h : Hf) : only (some b) h b = h b := by simp [only]

theorem zero_rv {te : TyI} {t : TypeId} {i : TypeInfo} {z : Value} {za : AV} (ht : TyOK P t te) (h1 : P.info? t = some i) (h3 : i.zero = some z) (hz : zeroA te = some za) (m : Nm) (w : World) : RV m w za z := by
  obtain ⟨i', d, z', g1, g2, g3, g4, g5, g6, g7, _⟩ := ht.ex
  rw [h1] at g1; cases g1
  rw [h3] at g3; cases g3
  have hzf := ht.zform i z h1 h3
  have hcells : RVs m w te.zero z.cells.toList := by
    rw [g6]
    exact RVs.of_get (by simp) fun j a ha => by
      rw [List.getElem?_map] at ha
      cases hj : z.cells.toList[j]? with
      | none => rw [hj] at ha; cases ha
      | some v =>
        rw [hj] at ha
        simp only [Option.map_some, Option.some.injEq] at ha
        subst ha
        exact ⟨v, rfl, rv_avOf m w v⟩
  unfold zeroA at hz
  split at hz
  · rename_i hag
    cases hz
    rw [hzf.1 hag, RV]
    exact ⟨z.cells.toList, by simp, hcells⟩
  · rename_i v hag hzv
    cases hz
    rw [hzv, hzf.2 hag, RVs] at hcells
    obtain ⟨v', l, e1, e2, _⟩ := hcells
    simp only [List.cons.injEq] at e1
    rw [e1.1]; exact e2
  · cases hz

theorem lookup_ok (hty : ∀ t ti, E.ty.get t = some ti → TyOK P t ti) {t : TypeId} {x y : Operand} {ok : Bool} (ho : o.op = .lookup t x y ok) (h : lookA E st t (ρ x) (ρ y) ok k = some r) :
    ∃ av, k av st = some r ∧ Light P ρ st.h.get o av := by
  unfold lookA at h
  split at h
  · rename_i ti hti
    split at h
    · rename_i hk
      have hmap := (hty _ _ hti).mapk hk
      split at h
      · rename_i es hes
        split at h
        · rename_i hkey
          have hkd : ∃ d, P.underlying ti.len = some d := by
            rw [keyA] at hkey
            split at hkey
            · cases hkey
            · obtain ⟨_, d, _, _, h2, _⟩ := (hty _ _ ‹_›).ex
              exact ⟨d, h2⟩
          obtain ⟨d, hd⟩ := hkd
          have common : ∀ (a : Act) (m : Nm) (w : World), OpsRV m w ρ a o → RS m w (only (rdOf ρ o) st.h.get) → ∀ q, findA (eqA E 8 ti.len) (ρ y) es 0 = some q →
              ∃ q', relF m w q q' ∧ ∀ c : Value × Bool, (match q' with | some (_, v) => pure (v, true) | none => (do pure (← zeroValue ti.elem, false)) : Sem (Value × Bool)).run P w = .ok c w →
                (execOp a.eval o).run P w = .ok (.value (if ok then .tuple #[c.1, .bool c.2] else c.1)) w := by
            intro a m w hO hs q hq
            have hv := hO x (by simp [ho, Op.operands])
            have hky := hO y (by simp [ho, Op.operands])
            have hck : ∀ em, (Instr.checkKey em 10000 ti.len (a.eval y)).run P w = .ok () w := fun em => key_ok hty 8 ti.len (ρ y) hkey m w _ hky 10000 em (by omega)
            split at hes
            · rename_i b hx
              obtain ⟨hlt, l, hb⟩ := mapAt_some hes
              have hrd : rdOf ρ o = some b := by unfold rdOf; rw [ho]; simp only [hx]
              rw [hrd] at hs
              rw [hx, RV] at hv
              obtain ⟨rb, hm, hv⟩ := hv
              obtain ⟨en, ck, q1, q2⟩ := hs.mp b es l rb (by rw [only_self]; exact hb) hm
              obtain ⟨q', f1, f2⟩ := findKey_ok hty hd hky q2 hq
              refine ⟨q', f2, fun c hc => ?_⟩
              cases q' with
              | none =>
                simp only at hc
                simp only [execOp, ho, Sem.run_bind, Instr.lookup, run_underlying hmap, Result.andThen_ok, hv, run_getMap q1, Sem.run_pure, hck, f1]
                simp only [Sem.run_bind, Sem.run_pure] at hc
                cases hz : (zeroValue ti.elem).run P w with
                | ok z w' =>
                  rw [hz] at hc
                  simp only [Result.andThen_ok, Result.ok.injEq] at hc
                  obtain ⟨rfl, rfl⟩ := hc
                  simp
                | halt hh w' => rw [hz] at hc; simp [Result.andThen] at hc
              | some p =>
                obtain ⟨j, v⟩ := p
                simp only [Sem.run_pure, Result.ok.injEq, and_true] at hc
                subst hc
                simp [execOp, ho, Instr.lookup, run_underlying hmap, hv, run_getMap q1, hck, f1]
            · rename_i hx
              cases hes
              rw [hx, RV] at hv
              simp only [findA, Option.some.injEq] at hq
              subst hq
              have f1 : (Instr.findKey ti.len (a.eval y) []).run P w = .ok none w := by simp [Instr.findKey, run_underlying hd, Instr.findNow]
              refine ⟨none, trivial, fun c hc => ?_⟩
              simp only at hc
              simp only [execOp, ho, Sem.run_bind, Instr.lookup, run_underlying hmap, Result.andThen_ok, hv, Sem.run_pure, hck, f1]
              simp only [Sem.run_bind, Sem.run_pure] at hc
              cases hz : (zeroValue ti.elem).run P w with
              | ok z w' =>
                rw [hz] at hc
                simp only [Result.andThen_ok, Result.ok.injEq] at hc
                obtain ⟨rfl, rfl⟩ := hc
                simp
              | halt hh w' => rw [hz] at hc; simp [Result.andThen] at hc
            · cases hes
          split at h
          · rename_i hf
            split at h
            · rename_i te hte
              split at h
              · rename_i z hz
                obtain ⟨i2, d2, z2, g1, g2, g3, _⟩ := (hty _ _ hte).ex
                have hzv := fun m w => zero_rv (hty _ _ hte) g1 g3 hz m w
                split at h
                · refine ⟨_, h, fun a m w hO hs => ?_⟩
                  obtain ⟨q', f1, f2⟩ := common a m w hO hs none hf
                  cases q' with
                  | some p => cases f1
                  | none =>
                    refine ⟨_, f2 (z2, false) (by simp [run_zero g1 g3]), ?_⟩
                    simp only [if_true]
                    rw [RV]
                    exact ⟨[z2, .bool false], rfl, by rw [RVs]; exact ⟨_, _, rfl, hzv m w, by rw [RVs]; exact ⟨_, _, rfl, rv_bool _ _ _, by rw [RVs]⟩⟩⟩
                · refine ⟨_, h, fun a m w hO hs => ?_⟩
                  obtain ⟨q', f1, f2⟩ := common a m w hO hs none hf
                  cases q' with
                  | some p => cases f1
                  | none => exact ⟨_, f2 (z2, false) (by simp [run_zero g1 g3]), hzv m w⟩
              · cases h
            · cases h
          · rename_i i v hf
            split at h
            · refine ⟨_, h, fun a m w hO hs => ?_⟩
              obtain ⟨q', f1, f2⟩ := common a m w hO hs _ hf
              cases q' with
              | none => cases f1
              | some p =>
                obtain ⟨j, v'⟩ := p
                refine ⟨_, f2 (v', true) (by simp), ?_⟩
                simp only [if_true]
                rw [RV]
                exact ⟨[v', .bool true], rfl, by rw [RVs]; exact ⟨_, _, rfl, f1.2, by rw [RVs]; exact ⟨_, _, rfl, rv_bool _ _ _, by rw [RVs]⟩⟩⟩
            · refine ⟨_, h, fun a m w hO hs => ?_⟩
              obtain ⟨q', f1, f2⟩ := common a m w hO hs _ hf
              cases q' with
              | none => cases f1
              | some p =>
                obtain ⟨j, v'⟩ := p
                exact ⟨_, f2 (v', true) (by simp), f1.2⟩
          · cases h
        · cases h
      · cases h
    · cases h
  · cases h

theorem len_mp {t : TypeId} {x : Operand} {ti : TyI} {b : Nat} {es : List AV} {args : Array Operand} {argTypes : Array TypeId} (ho : o.op = .call { callee := .builtin .len, args, argTypes }) (ht : TyOK P t ti)
    (ha : argTypes[0]? = some t) (hx : args[0]? = some x) (hk : ti.kind = .map) (hv : ρ x = .mp b) (hes : mapAt st b = some es) : Light P ρ st.h.get o (.int .i64 ((es.length : Nat) : Int)) := by
  have hmap := ht.mapk hk
  obtain ⟨hlt, l, hb⟩ := mapAt_some hes
  have hrd : rdOf ρ o = some b := by unfold rdOf; rw [ho]; simp only [hx, hv]
  intro a m w hO hs
  have hev := hO x (by simp only [ho, Op.operands, Call.operands]; exact Array.mem_append.2 (.inr (Array.mem_of_getElem? hx)))
  rw [hv, RV] at hev
  obtain ⟨rb, hm, hev⟩ := hev
  rw [hrd] at hs
  obtain ⟨en, ck, q1, q2⟩ := hs.mp b es l rb (by rw [only_self]; exact hb) hm
  have hlen : es.length = en.size := by
    have := q2.length
    simpa using this
  refine ⟨.int .i64 ((es.length : Nat) : Int), ?_, by rw [RV]⟩
  simp [execOp, ho, resolve, invoke, builtin, Builtin.len_, ha, hx, run_underlying hmap, hev, goInt, run_getMap q1, hlen]
theorem len_nilm {t : TypeId} {x : Operand} {ti : TyI} {args : Array Operand} {argTypes : Array TypeId} (ho : o.op = .call { callee := .builtin .len, args, argTypes }) (ht : TyOK P t ti)
    (ha : argTypes[0]? = some t) (hx : args[0]? = some x) (hk : ti.kind = .map) (hv : ρ x = .nilm) : Light P ρ st.h.get o (.int .i64 0) := by
  have hmap := ht.mapk hk
  intro a m w hO hs
  have hev := hO x (by simp only [ho, Op.operands, Call.operands]; exact Array.mem_append.2 (.inr (Array.mem_of_getElem? hx)))
  rw [hv, RV] at hev
  refine ⟨.int .i64 0, ?_, by rw [RV]⟩
  simp [execOp, ho, resolve, invoke, builtin, Builtin.len_, ha, hx, run_underlying hmap, hev, goInt]
theorem len_big {t : TypeId} {x : Operand} {ti : TyI} {n : Nat} {args : Array Operand} {argTypes : Array TypeId} (ho : o.op = .call { callee := .builtin .len, args, argTypes }) (ht : TyOK P t ti)
    (ha : argTypes[0]? = some t) (hx : args[0]? = some x) (hk : ti.kind = .slice) (hv : ρ x = .big n) : Light P ρ st.h.get o (.int .i64 ((szL n : Nat) : Int)) := by
  obtain ⟨i1, d, z, h1, h2, h3, h4, h5, h6, h7, h8, h9, h10, h11⟩ := ht.ex
  obtain rfl := h10 hk
  intro a m w hO hs
  have hev := hO x (by simp only [ho, Op.operands, Call.operands]; exact Array.mem_append.2 (.inr (Array.mem_of_getElem? hx)))
  rw [hv, RV] at hev
  obtain ⟨ad, c, hev, _⟩ := hev
  refine ⟨.int .i64 ((szL n : Nat) : Int), ?_, by rw [RV]⟩
  rw [szL_eq]
  simp [execOp, ho, resolve, invoke, builtin, Builtin.len_, ha, hx, run_underlying h2, hev, goInt]
end
end Go.Sx

/-
Each operation of the interpreter fits.
-/
namespace Go.Sx
open LimbNum
variable [Glob]
section
variable {P : Program} {E : Env} {ρ : Operand → AV} {st : Hp} {o : Oper} {β : Type} {k : AV → Hp → Option β} {r : β}

theorem of_light {o' : Op} (ho : o.op = o') (hk : kd o' = 0) (h : ∃ av, k av st = some r ∧ Light P ρ st.h.get o av) : ∃ av st', k av st' = some r ∧ OpOK P ρ st o av st' := by
  obtain ⟨av, h1, h2⟩ := h
  exact ⟨av, st, h1, fun _ => ⟨rfl, h2⟩, fun hn => absurd (by rw [ho]; exact hk) hn⟩
theorem of_heavy {o' : Op} (ho : o.op = o') (hk : kd o' ≠ 0) (h : ∃ av st', k av st' = some r ∧ Heavy P ρ st o av st') : ∃ av st', k av st' = some r ∧ OpOK P ρ st o av st' := by
  obtain ⟨av, st', h1, h2⟩ := h
  exact ⟨av, st', h1, fun hn => absurd (by rw [← ho]; exact hn) hk, fun _ => h2⟩

theorem aop_ok (hty : ∀ t ti, E.ty.get t = some ti → TyOK P t ti) (h : aop E ρ st o k = some r) : ∃ av st', k av st' = some r ∧ OpOK P ρ st o av st' := by
  unfold aop at h
  split at h
  · rename_i x ho
    rw [forceH_eq] at h
    exact of_light ho rfl ⟨_, h, move_ok (.inl ho)⟩
  · rename_i x ho
    rw [forceH_eq] at h
    exact of_light ho rfl ⟨_, h, move_ok (.inr ho)⟩
  · rename_i c x y ho
    unfold oPick at h
    split at h
    · rw [forceH_eq] at h
      exact of_light ho rfl ⟨_, h, pick_ok (b := true) ho ‹_›⟩
    · rw [forceH_eq] at h
      exact of_light ho rfl ⟨_, h, pick_ok (b := false) ho ‹_›⟩
    · cases h
  · rename_i t ho
    unfold oAlloc at h
    split at h
    · exact of_heavy ho (by simp [kd]) (alloc_ok ho (hty _ _ ‹_›) h)
    · cases h
  · rename_i t x ho
    unfold oBox at h
    split at h
    · exact of_heavy ho (by simp [kd]) (box_ok ho ‹_› h)
    · cases h
  · rename_i t x ho
    unfold oLoad at h
    split at h
    · exact of_light ho rfl (load_ok ho (hty _ _ ‹_›) ‹_› h)
    · split at h
      · exact of_light ho rfl (load_gp ho (hty _ _ ‹_›) ‹_› ‹_› h)
      · cases h
    · cases h
  · rename_i t p x ho
    unfold oStore at h
    split at h
    · split at h
      · exact of_heavy ho (by simp [kd]) (store_ok ho (hty _ _ ‹_›) ‹_› ‹_› ‹_› h)
      · cases h
    · cases h
  · rename_i s x f ho
    unfold oFieldAddr at h
    split at h
    · split at h
      · split at h
        · split at h
          · cases h
          · rw [forceN_eq] at h
            exact of_light ho rfl ⟨_, h, fieldAddr_ok ho (hty _ _ ‹_›) ‹_› ‹_› ‹_› ‹_›⟩
        · cases h
      · cases h
    · split at h
      · split at h
        · split at h
          · cases h
          · rw [forceN_eq] at h
            exact of_light ho rfl ⟨_, h, fieldAddr_gp ho (hty _ _ ‹_›) ‹_› ‹_› ‹_› ‹_›⟩
        · cases h
      · cases h
    · cases h
  · rename_i s x f ho
    unfold oField at h
    split at h
    · split at h
      · split at h
        · split at h
          · cases h
          · exact of_light ho rfl (field_ok ho (hty _ _ ‹_›) ‹_› ‹_› ‹_› ‹_› h)
        · cases h
      · cases h
    · cases h
  · rename_i t x i ho
    unfold oIndexAddr at h
    split at h
    · split at h
      · split at h
        · rw [forceN_eq] at h
          exact of_light ho rfl ⟨_, h, indexAddr_sl ho (hty _ _ ‹_›) (hty _ _ ‹_›) ‹_› ‹_› ‹_› ‹_›⟩
        · cases h
      · split at h
        · rw [forceN_eq] at h
          exact of_light ho rfl ⟨_, h, indexAddr_arr ho (hty _ _ ‹_›) (hty _ _ ‹_›) ‹_› ‹_› ‹_› ‹_›⟩
        · cases h
      · split at h
        · rw [forceN_eq] at h
          exact of_light ho rfl ⟨_, h, indexAddr_gp ho (hty _ _ ‹_›) (hty _ _ ‹_›) ‹_› ‹_› ‹_› ‹_›⟩
        · cases h
      · cases h
    · cases h
  · rename_i t x i ho
    unfold oIndex at h
    split at h
    · split at h
      · split at h
        · split at h
          · rw [forceI_eq] at h
            exact of_light ho rfl ⟨_, h, index_str ho (hty _ _ ‹_›) ‹_› ‹_› ‹_› ‹_› ‹_›⟩
          · cases h
        · cases h
      · split at h
        · split at h
          · exact of_light ho rfl (index_arr ho (hty _ _ ‹_›) (hty _ _ ‹_›) ‹_› ‹_› ‹_› ‹_› h)
          · cases h
        · cases h
      · cases h
    · cases h
  · rename_i x i ho
    unfold oExtract at h
    split at h
    · split at h
      · rw [forceH_eq] at h
        exact of_light ho rfl ⟨_, h, extract_ok ho ‹_› ‹_›⟩
      · cases h
    · cases h
  · rename_i t parts ho
    unfold oBuild at h
    split at h
    · split at h
      · split at h
        · exact of_light ho rfl (build_struct_ok ho (hty _ _ ‹_›) ‹_› ‹_› h)
        · cases h
      · split at h
        · exact of_light ho rfl (build_array_ok ho (hty _ _ ‹_›) ‹_› (hty _ _ ‹_›) h)
        · cases h
      · cases h
    · cases h
  · rename_i t len parts ho
    unfold oBuildSlice at h
    split at h
    · split at h
      · split at h
        · exact of_heavy ho (by simp [kd]) (buildSlice_ok ho (hty _ _ ‹_›) ‹_› (hty _ _ ‹_›) ‹_› h)
        · cases h
      · cases h
    · cases h
  · rename_i op t x y t' ho
    unfold oBinOp at h
    split at h
    · split at h
      · exact of_light ho rfl (shift_ok ho (.inl rfl) ‹_› ‹_› h)
      · exact of_light ho rfl (shift_ok ho (.inr rfl) ‹_› ‹_› h)
      · split at h
        · subst_vars
          exact of_light ho rfl (binInt_ok ho ‹_› ‹_› h)
        · cases h
    · split at h
      · subst_vars
        exact of_light ho rfl (float_ok ho ‹_› ‹_› h)
      · cases h
    · exact of_light ho rfl (str_ok ho ‹_› ‹_› h)
    · split at h
      · split at h
        · exact of_light ho rfl (eqBool_ok ho (hty _ _ ‹_›) ‹_› ‹_› ‹_› h)
        · cases h
      · cases h
    · split at h
      · split at h
        · split at h
          · exact of_light ho rfl (eqAgg_ok hty ho (hty _ _ ‹_›) ‹_› ‹_› ‹_› ‹_› h)
          · cases h
        · cases h
      · cases h
    · cases h
  · rename_i x ho
    unfold oNilCheck at h
    split at h
    · exact of_light ho rfl ⟨_, h, nilCheck_ptr ho ‹_›⟩
    · exact of_light ho rfl ⟨_, h, nilCheck_fn ho ‹_›⟩
    · cases h
  · rename_i s d x ho
    unfold oConvert at h
    split at h
    · split at h
      · rw [forceI_eq] at h; exact of_light ho rfl ⟨_, h, conv_ii ho (hty _ _ ‹_›) (hty _ _ ‹_›) ‹_› ‹_›⟩
      · split at h
        · split at h
          · rw [forceI_eq] at h; exact of_light ho rfl ⟨_, h, conv_fi ho (hty _ _ ‹_›) (hty _ _ ‹_›) ‹_› ‹_› ‹_› ‹_›⟩
          · cases h
        · cases h
      · rw [forceN_eq] at h; exact of_light ho rfl ⟨_, h, conv_if ho (hty _ _ ‹_›) (hty _ _ ‹_›) ‹_› ‹_›⟩
      · split at h
        · rename_i heq
          rw [heq] at h
          exact of_light ho rfl ⟨_, h, conv_same ho (hty _ _ ‹_›) (hty _ _ ‹_›) ‹_› ‹_› ‹_›⟩
        · split at h
          · split at h
            · cases h
            · rw [forceN_eq] at h
              exact of_light ho rfl ⟨_, h, conv_ff ho (hty _ _ ‹_›) (hty _ _ ‹_›) ‹_› ‹_› ‹_› ‹_› ‹_›⟩
          · cases h
      · split at h
        · exact of_light ho rfl ⟨_, h, conv_ss ho (hty _ _ ‹_›) (hty _ _ ‹_›) ‹_› ‹_› ‹_›⟩
        · cases h
      · split at h
        · split at h
          · exact of_light ho rfl (conv_bytes ho (hty _ _ ‹_›) (hty _ _ ‹_›) ‹_› ‹_› (hty _ _ ‹_›) ‹_› ‹_› ‹_› h)
          · cases h
        · cases h
      · cases h
    · cases h
  · rename_i t x lo hi ho
    unfold oSlice at h
    split at h
    · split at h
      · split at h
        · simp only [forceN_eq] at h
          exact of_light ho rfl ⟨_, h, slice_sl ho (hty _ _ ‹_›) ‹_› (hty _ _ ‹_›) ‹_› ‹_› ‹_› ‹_›⟩
        · cases h
      · cases h
    · split at h
      · split at h
        · rw [forceL_eq] at h
          exact of_light ho rfl ⟨_, h, slice_str ho (hty _ _ ‹_›) ‹_› ‹_› ‹_› ‹_› ‹_›⟩
        · cases h
      · cases h
    · split at h
      · split at h
        · simp only [forceN_eq] at h
          exact of_light ho rfl ⟨_, h, slice_arr ho (hty _ _ ‹_›) ‹_› (hty _ _ ‹_›) ‹_› ‹_› ‹_› ‹_› ‹_›⟩
        · cases h
      · cases h
    · cases h
  · rename_i op t x ho
    unfold oUnOp at h
    split at h
    · rw [forceN_eq] at h; exact of_light ho rfl ⟨_, h, negF_ok ho ‹_›⟩
    · rw [forceB_eq] at h; exact of_light ho rfl ⟨_, h, not_ok ho ‹_›⟩
    · rw [forceI_eq] at h; exact of_light ho rfl ⟨_, h, neg_ok ho ‹_›⟩
    · cases h
  · rename_i t l c ho
    unfold oMakeSlice at h
    split at h
    · split at h
      · split at h
        · simp only [forceN_eq, forceL_eq] at h
          rename_i hc
          exact of_heavy ho (by simp [kd]) (makeSlice_ok ho (hty _ _ ‹_›) ‹_› (hty _ _ ‹_›) ‹_› ‹_› hc h)
        · cases h
      · cases h
    · cases h
  · rename_i args argTypes ho
    unfold oAppend at h
    split at h
    · split at h
      · subst_vars
        split at h
        · split at h
          · exact of_heavy ho (by simp [kd]) (append_ok ho ‹_› ‹_› (hty _ _ ‹_›) ‹_› (hty _ _ ‹_›) h)
          · cases h
        · cases h
      · cases h
    · cases h
  · rename_i args argTypes ho
    unfold oCopy at h
    split at h
    · split at h
      · split at h
        · split at h
          · split at h
            · simp only [forceN_eq, forceL_eq] at h
              exact of_heavy ho (by simp [kd]) (copy_ok ho ‹_› ‹_› (hty _ _ ‹_›) ‹_› (hty _ _ ‹_›) ‹_› ‹_› ‹_› h)
            · cases h
          · cases h
        · cases h
      · cases h
    · cases h
  · rename_i args argTypes ho
    unfold oMax at h
    split at h
    · split at h
      · split at h
        · rw [forceI_eq] at h
          exact of_light ho rfl ⟨_, h, max_ok ho ‹_› ‹_› ‹_›⟩
        · cases h
      · cases h
    · cases h
  · rename_i args argTypes ho
    unfold oMin at h
    split at h
    · split at h
      · split at h
        · rw [forceI_eq] at h
          exact of_light ho rfl ⟨_, h, min_ok ho ‹_› ‹_› ‹_›⟩
        · cases h
      · cases h
    · cases h
  · rename_i args argTypes ho
    unfold oLen at h
    split at h
    · split at h
      · split at h
        · exact of_light ho rfl ⟨_, h, len_ok ho (hty _ _ ‹_›) ‹_› ‹_› (.inl ⟨‹_›, .inl ⟨_, _, _, ‹_›⟩⟩)⟩
        · exact of_light ho rfl ⟨_, h, len_ok (n := 0) ho (hty _ _ ‹_›) ‹_› ‹_› (.inl ⟨‹_›, .inr ⟨‹_›, rfl⟩⟩)⟩
        · rw [forceN_eq] at h
          exact of_light ho rfl ⟨_, h, len_big ho (hty _ _ ‹_›) ‹_› ‹_› ‹_› ‹_›⟩
        · exact of_light ho rfl ⟨_, h, len_nilm ho (hty _ _ ‹_›) ‹_› ‹_› ‹_› ‹_›⟩
        · split at h
          · rw [forceN_eq] at h
            exact of_light ho rfl ⟨_, h, len_mp ho (hty _ _ ‹_›) ‹_› ‹_› ‹_› ‹_› ‹_›⟩
          · cases h
        · rw [forceN_eq] at h
          exact of_light ho rfl ⟨_, h, len_ok ho (hty _ _ ‹_›) ‹_› ‹_› (.inr ⟨‹_›, _, ‹_›, rfl⟩)⟩
        · cases h
      · cases h
    · cases h
  · rename_i t ho
    exact of_heavy ho (by simp [kd]) (makeMap_ok ho (fun a _ w _ => makeMap_none a w) h)
  · rename_i t x ho
    unfold oMakeMapS at h
    split at h
    · rename_i hti hx
      split at h
      · rename_i hk
        exact of_heavy ho (by simp [kd]) (makeMap_ok ho (fun a _ w hO => makeMap_some (hty _ _ hti) hk a w (int_of (hO x (by simp [ho, Op.operands])) hx)) h)
      · cases h
    · cases h
  · rename_i t x y z ho
    exact of_heavy ho (by simp [kd]) (update_ok hty (.inl ho) h)
  · rename_i t x y z ho
    exact of_heavy ho (by simp [kd]) (update_ok hty (.inr ho) h)
  · rename_i t x y ok ho
    exact of_light ho rfl (lookup_ok hty ho h)
  · rename_i f first captured ho
    unfold oMakeFunc at h
    split at h
    · rw [forceL_eq] at h
      exact of_light ho rfl ⟨_, h, makeFunc_ok ho ‹_›⟩
    · cases h
  · cases h
end
end Go.Sx

/-
Calls, and operations one after another.
-/
namespace Go.Sx
open LimbNum
variable [Glob]

/-- A call of a function does what the interpreter says. -/
def CallOK (P : Program) (call : FuncId → List AV → Hp → Option (AV × Hp)) : Prop :=
  ∀ g args st av st', call g args st = some (av, st') → (Heaps st st' ∧ (∃ fn, P.funcs[g]? = some fn ∧ fn.body.isNone = false ∧ (fn.name == "runtime.NumGoroutine") = false) ∧
    ∀ (m : Nm) (w : World) (vals : List Value), RVs m w args vals → RS m w st.h.get → Dom st → Fresh m st.nx st'.nx →
      Calls P g vals.toArray w fun e w' => ∃ v m', e = .returned v ∧ RV m' w' av v ∧ RS m' w' st'.h.get ∧ To m st.h.get w m' st'.h.get w' ∧ Same m m' st.nx st'.nx) ∨
    (st' = st ∧ (∃ fn, P.funcs[g]? = some fn ∧ fn.body = none) ∧ ∀ (m : Nm) (w : World) (vals : List Value), RVs m w args vals → ∃ v, (callFunc g vals.toArray).run P w = .ok (.value v) w ∧ RV m w av v)

section
variable {P : Program} {E : Env} {β : Type} {r : β}

def opA (E : Env) (call : FuncId → List AV → Hp → Option (AV × Hp)) (ρ : Operand → AV) (st : Hp) (o : Oper) (k : AV → Hp → Option β) : Option β :=
  match o.op with
  | .call { callee := .value f, args, .. } => match ρ f with
    | .fn g caps => match call g (args.toList.map ρ ++ caps) st with
      | some (av, st') => k av st'
      | none => none
    | _ => none
  | _ => aop E ρ st o k

theorem run_call {o : Oper} {a : Act} {w : World} {f : Operand} {args : Array Operand} {ts : Array TypeId} {g : FuncId} {caps : List Value} {fn : Func} (ho : o.op = .call { callee := .value f, args, argTypes := ts })
    (hf : a.eval f = .func (.func g) #[] caps.toArray) (h1 : P.funcs[g]? = some fn) (h2 : fn.body.isNone = false) (h3 : (fn.name == "runtime.NumGoroutine") = false) :
    (execOp a.eval o).run P w = .ok (.enter g (args.toList.map a.eval ++ caps).toArray) w := by
  have e : (args.toList.map a.eval ++ caps).toArray = args.map a.eval ++ caps.toArray := Array.ext' (by simp)
  rw [e]
  simp only [beq_eq_false_iff_ne, ne_eq] at h3
  have h2' : fn.body ≠ none := fun h => by rw [h] at h2; cases h2
  simp [execOp, ho, resolve, hf, Deferred.ofValue, invoke, callFunc, h1, h2', h3]

theorem run_ext {o : Oper} {a : Act} {w : World} {f : Operand} {args : Array Operand} {ts : Array TypeId} {g : FuncId} {caps : List Value} {v : Value} (ho : o.op = .call { callee := .value f, args, argTypes := ts })
    (hf : a.eval f = .func (.func g) #[] caps.toArray) (h : (callFunc g (args.toList.map a.eval ++ caps).toArray).run P w = .ok (.value v) w) :
    (execOp a.eval o).run P w = .ok (.value v) w := by
  have e : (args.toList.map a.eval ++ caps).toArray = args.map a.eval ++ caps.toArray := Array.ext' (by simp)
  rw [e] at h
  simp [execOp, ho, resolve, hf, Deferred.ofValue, invoke, h]

theorem opA_ok {call : FuncId → List AV → Hp → Option (AV × Hp)} {ρ : Operand → AV} {st : Hp} {o : Oper} {k : AV → Hp → Option β} (hc : CallOK P call) (hty : ∀ t ti, E.ty.get t = some ti → TyOK P t ti)
    (h : opA E call ρ st o k = some r) : ∃ av st', k av st' = some r ∧ OpOK P ρ st o av st' := by
  unfold opA at h
  split at h
  · rename_i f args ts ho
    split at h
    · rename_i g caps hf
      split at h
      · rename_i av st' hcall
        have hin : ∀ x, x = f ∨ x ∈ args → x ∈ o.op.operands := fun x hx => by
          simp only [ho, Op.operands, Call.operands]
          rcases hx with rfl | hx
          · exact Array.mem_append.2 (.inl (by simp))
          · exact Array.mem_append.2 (.inr hx)
        have hargs : ∀ (a : Act) (m : Nm) (w : World), OpsRV m w ρ a o → RVs m w (args.toList.map ρ) (args.toList.map a.eval) := fun a m w hO => RVs.of_get (by simp) fun i av hav => by
          rw [List.getElem?_map] at hav ⊢
          cases hx : args.toList[i]? with
          | none => rw [hx] at hav; cases hav
          | some x =>
            rw [hx] at hav
            simp only [Option.map_some, Option.some.injEq] at hav
            subst hav
            exact ⟨_, rfl, hO x (hin x (.inr (by rw [← Array.mem_toList_iff]; exact List.mem_of_getElem? hx)))⟩
        rcases hc _ _ _ _ _ hcall with ⟨h1, ⟨fn, h2, h3, h4⟩, h5⟩ | ⟨rfl, _, h5⟩
        · refine of_heavy ho (by simp [kd]) ⟨av, st', h, h1, fun a m w hO hs hd hfr K Q hK => ?_⟩
          have hfv := hO f (hin f (.inl rfl))
          rw [hf, RV] at hfv
          obtain ⟨l, hfv, hl⟩ := hfv
          unfold Oper.wp
          rw [run_call ho hfv h2 h3 h4]
          show Calls P g _ w _
          refine (h5 m w _ ((hargs a m w hO).append hl) hs hd hfr).mono ?_
          rintro e w' ⟨v, m', rfl, q1, q2, q3, q4⟩
          exact hK v w' m' q1 q2 q3 q4
        · refine of_heavy ho (by simp [kd]) ⟨av, st', h, heavy_run (Heaps.rfl' _) fun a m w hO hs hfr => ?_⟩
          have hfv := hO f (hin f (.inl rfl))
          rw [hf, RV] at hfv
          obtain ⟨l, hfv, hl⟩ := hfv
          obtain ⟨v, q1, q2⟩ := h5 m w _ ((hargs a m w hO).append hl)
          exact ⟨v, w, m, .inl (run_ext ho hfv q1), q2, hs, To.rfl', fun _ _ => rfl⟩
      · cases h
    · cases h
  · exact aop_ok hty h

/-- What an operation leaves that isn't run. -/
def skipA : AV := .tup []
theorem rv_skip (m : Nm) (w : World) : RV m w skipA undef := by
  unfold skipA
  rw [RV]
  exact ⟨[], rfl, by rw [RVs]⟩

def wantA (ops : Array Oper) (tm : Tr AV) (o : Oper) : Option Bool :=
  match o.guard with
  | none => some true
  | some (j, b) => match (ops[j]?).bind (·.dst) with
    | some t => match tm.get t with
      | some (.bool c) => some (c == b)
      | some (.tup _) => some false
      | _ => none
    | none => none

theorem wantA_ok {ops : Array Oper} {tm : Tr AV} {o : Oper} {b : Bool} (h : wantA ops tm o = some b) {m : Nm} {w : World} {a : Act}
    (hT : ∀ j b', o.guard = some (j, b') → ∀ t, (ops[j]?).bind (·.dst) = some t → ∀ av, tm.get t = some av → ∃ v, a.tmps[t]? = some v ∧ RV m w av v) : Region.wanted o (yielded ops a.tmps) = b := by
  unfold wantA at h
  unfold Region.wanted
  split at h
  · rename_i hg
    simp only [Option.some.injEq] at h
    simp only [hg]
    exact h
  · rename_i j b' hg
    simp only [hg]
    split at h
    · rename_i t ht
      split at h
      · rename_i c hc
        simp only [Option.some.injEq] at h
        obtain ⟨v, h1, h2⟩ := hT j b' hg t ht _ hc
        rw [RV] at h2
        subst h2
        unfold yielded
        rw [ht]
        simp only [Option.bind_some, h1]
        rw [← h]
        cases c <;> cases b' <;> rfl
      · rename_i l hc
        simp only [Option.some.injEq] at h
        obtain ⟨v, h1, h2⟩ := hT j b' hg t ht _ hc
        rw [RV] at h2
        obtain ⟨l', rfl, _⟩ := h2
        unfold yielded
        rw [ht]
        simp only [Option.bind_some, h1]
        rw [← h]
        cases b' <;> rfl
      · cases h
    · cases h

def putA (n : Nat) (d : Option Tmp) (av : AV) (tm : Tr AV) (k : Tr AV → Option β) : Option β :=
  match d with
  | none => k tm
  | some d => if d < n then Tr.setK Tr.depth tm d (some av) k else none

/-- The temporaries with one more value. -/
def Puts (n : Nat) (d : Option Tmp) (av : AV) (tm tm' : Tr AV) : Prop :=
  (∀ t, d = some t → t < n ∧ tm'.get t = some av) ∧ ∀ t, d ≠ some t → tm'.get t = tm.get t

theorem putA_some {n : Nat} {d : Option Tmp} {av : AV} {tm : Tr AV} {k : Tr AV → Option β} (h : putA n d av tm k = some r) : ∃ tm', k tm' = some r ∧ Puts n d av tm tm' := by
  unfold putA at h
  split at h
  · exact ⟨tm, h, ⟨fun t ht => (by cases ht), fun _ _ => rfl⟩⟩
  · rename_i d
    split at h
    · obtain ⟨t', h1, h2, h3⟩ := Tr.setK_some _ _ _ _ _ _ h
      exact ⟨t', h1, fun t ht => by cases ht; exact ⟨‹_›, h2⟩, fun t ht => h3 t fun e => ht (by rw [e])⟩
    · cases h

theorem put_size (a : Act) (d : Option Tmp) (v : Value) : (a.put d v).tmps.size = a.tmps.size := by
  cases d <;> simp [Act.put]
theorem put_defers (a : Act) (d : Option Tmp) (v : Value) : (a.put d v).defers = a.defers := by
  cases d <;> rfl
theorem put_get (a : Act) (d : Option Tmp) (v : Value) (t : Nat) : (a.put d v).tmps[t]? = if d = some t ∧ t < a.tmps.size then some v else a.tmps[t]? := by
  cases d with
  | none => simp [Act.put]
  | some d =>
    simp only [Act.put, Array.getElem?_setIfInBounds, Option.some.injEq]
    by_cases h : d = t
    · subst h
      by_cases h2 : d < a.tmps.size
      · simp [h2]
      · simp [h2]
    · simp [h]

theorem RT.put {n : Nat} {d : Option Tmp} {av : AV} {tm tm' : Tr AV} {m : Nm} {w : World} {a : Act} {v : Value} (h : RT m w tm a) (hp : Puts n d av tm tm') (hn : a.tmps.size = n) (hv : RV m w av v) : RT m w tm' (a.put d v) := by
  intro t x ht
  rw [put_get]
  by_cases hd : d = some t
  · obtain ⟨h1, h2⟩ := hp.1 t hd
    rw [h2] at ht; cases ht
    exact ⟨v, if_pos ⟨hd, Nat.lt_of_lt_of_eq h1 hn.symm⟩, hv⟩
  · rw [hp.2 t hd] at ht
    rw [if_neg fun h => hd h.1]
    exact h t x ht

theorem RT.to {m m' : Nm} {h h' : Hf} {w w' : World} {tm : Tr AV} {a : Act} (hT : RT m w tm a) (t : To m h w m' h' w') : RT m' w' tm a := fun i x hx => by
  obtain ⟨v, h1, h2⟩ := hT i x hx
  exact ⟨v, h1, t.rv h2⟩

theorem Fresh.left {m : Nm} {a b c : Nat} (h : Fresh m a c) (hb : b ≤ c) : Fresh m a b := fun x h1 h2 => h x h1 (by omega)
theorem Fresh.right {m m' : Nm} {a b c : Nat} (h : Fresh m a c) (hab : a ≤ b) (hs : Same m m' a b) : Fresh m' b c := fun x h1 h2 => by rw [hs x (.inr h1)]; exact h x (by omega) h2
theorem Same.rfl' (m : Nm) (a b : Nat) : Same m m a b := fun _ _ => rfl
theorem Same.comp {m m1 m2 : Nm} {a b c : Nat} (h : Same m m1 a b) (h' : Same m1 m2 b c) (hab : a ≤ b) (hbc : b ≤ c) : Same m m2 a c := fun x hx => by
  rw [h' x (by omega), h x (by omega)]

/-- Operations in the order of the text. -/
def runA (E : Env) (call : FuncId → List AV → Hp → Option (AV × Hp)) (n : Nat) (ops : Array Oper) : List Oper → Tr AV → Hp → (Tr AV → Hp → Option β) → Option β
  | [], tm, st, k => k tm st
  | o :: l, tm, st, k => match wantA ops tm o with
    | some true => opA E call (evO tm) st o fun av st => putA n o.dst av tm fun tm => runA E call n ops l tm st k
    | some false => putA n o.dst skipA tm fun tm => runA E call n ops l tm st k
    | none => none

/-- What a piece of the program does, from one state to another. -/
def Moves (n : Nat) (tm : Tr AV) (st : Hp) (tm' : Tr AV) (st' : Hp) (W : Act → World → (Act → World → Prop) → Prop) : Prop :=
  ∀ (a : Act) (m : Nm) (w : World), RT m w tm a → RS m w st.h.get → Dom st → a.tmps.size = n → Fresh m st.nx st'.nx → ∀ K : Act → World → Prop,
    (∀ a' m' w', RT m' w' tm' a' → RS m' w' st'.h.get → a'.tmps.size = n → a'.defers = a.defers → To m st.h.get w m' st'.h.get w' → Same m m' st.nx st'.nx → K a' w') → W a w K

theorem runA_ok {call : FuncId → List AV → Hp → Option (AV × Hp)} {n : Nat} {ops : Array Oper} (hc : CallOK P call) (hty : ∀ t ti, E.ty.get t = some ti → TyOK P t ti) (Q : Exit → Act → World → Prop) :
    ∀ (l : List Oper) (tm : Tr AV) (st : Hp) (k : Tr AV → Hp → Option β), runA E call n ops l tm st k = some r →
      ∃ tm' st', k tm' st' = some r ∧ Heaps st st' ∧ Moves n tm st tm' st' fun a w K => (∀ a w, K a w → Q .normal a w) → wpList P ops Q l a w
  | [], tm, st, k, h => ⟨tm, st, h, Heaps.rfl' _, fun a m w hT hs hd hn hf K hK hQ => hQ a w (hK a m w hT hs hn rfl To.rfl' (Same.rfl' _ _ _))⟩
  | o :: l, tm, st, k, h => by
    rw [runA] at h
    split at h
    · rename_i hw
      obtain ⟨av, st1, h1, h2⟩ := opA_ok hc hty h
      obtain ⟨tm1, h3, h4⟩ := putA_some h1
      obtain ⟨tm', st', h5, h6, h7⟩ := runA_ok hc hty Q l tm1 st1 k h3
      have hh : Heaps st st1 := by
        by_cases hk : kd o.op = 0
        · rw [(h2.1 hk).1]; exact Heaps.rfl' _
        · exact (h2.2 hk).1
      refine ⟨tm', st', h5, hh.comp h6, fun a m w hT hs hd hn hf K hK hQ => ?_⟩
      have hwant := wantA_ok (a := a) hw fun j b' _ t _ av hav => hT t av hav
      rw [wpList, if_pos hwant]
      refine Or.inl ?_
      have hO : OpsRV m w (evO tm) a o := fun x _ => ev_rv hT x
      have next : ∀ v w1 m1, RV m1 w1 av v → RS m1 w1 st1.h.get → To m st.h.get w m1 st1.h.get w1 → Same m m1 st.nx st1.nx → wpList P ops Q l (a.put o.dst v) w1 := fun v w1 m1 q1 q2 q3 q4 =>
        h7 (a.put o.dst v) m1 w1 ((hT.to q3).put h4 hn q1) q2 (hh.dom hd) (by rw [put_size]; exact hn) (hf.right hh.nx q4) K (fun a' m' w' r1 r2 r3 r4 r5 r6 => hK a' m' w' r1 r2 r3 (by rw [r4, put_defers]) (q3.comp r5) (q4.comp r6 hh.nx h6.nx)) hQ
      by_cases hk : kd o.op = 0
      · obtain ⟨rfl, hl⟩ := h2.1 hk
        obtain ⟨v, hr, hv⟩ := hl a m w hO (hs.sub (only_sub _ _)).1
        unfold Oper.wp
        rw [hr]
        exact next v w m hv hs To.rfl' (Same.rfl' _ _ _)
      · exact (h2.2 hk).2 a m w hO hs hd (hf.left h6.nx) _ Q next
    · rename_i hw
      obtain ⟨tm1, h3, h4⟩ := putA_some h
      obtain ⟨tm', st', h5, h6, h7⟩ := runA_ok hc hty Q l tm1 st k h3
      refine ⟨tm', st', h5, h6, fun a m w hT hs hd hn hf K hK hQ => ?_⟩
      have hwant := wantA_ok (a := a) hw fun j b' _ t _ av hav => hT t av hav
      rw [wpList, if_neg (by rw [hwant]; simp)]
      exact h7 (a.put o.dst undef) m w (hT.put h4 hn (rv_skip _ _)) hs hd (by rw [put_size]; exact hn) hf K (fun a' m' w' r1 r2 r3 r4 r5 r6 => hK a' m' w' r1 r2 r3 (by rw [r4, put_defers]) r5 r6) hQ
    · cases h
end
end Go.Sx

/-
Code, and functions.
-/
namespace Go.Sx
open LimbNum
variable [Glob]

inductive Ex where
  | nrm
  | ext (id : Nat)
  | ret

def exOf : Ex → Exit
  | .nrm => .normal
  | .ext id => .exit id
  | .ret => .ret

section
variable {P : Program} {E : Env} {β : Type} {r : β}

def loopA (step : Tr AV → Hp → Option (Ex × Tr AV × Hp)) : Nat → Tr AV → Hp → Option (Ex × Tr AV × Hp)
  | 0, _, _ => none
  | f + 1, tm, st => match step tm st with
    | some (.nrm, tm, st) => loopA step f tm st
    | r => r

/-- Code, with regions as 'reg' has them. -/
def codeA (reg : Array Oper → Bool → Tr AV → Hp → Option (Tr AV × Hp)) (fuel : Nat) : Code → Tr AV → Hp → Option (Ex × Tr AV × Hp)
  | .skip, tm, st => some (.nrm, tm, st)
  | .label _, tm, st => some (.nrm, tm, st)
  | .region _ ops draw, tm, st => match reg ops draw tm st with
    | some (tm, st) => some (.nrm, tm, st)
    | none => none
  | .seq a b, tm, st => match codeA reg fuel a tm st with
    | some (.nrm, tm, st) => codeA reg fuel b tm st
    | r => r
  | .cond c a b, tm, st => match evO tm c with
    | .bool true => codeA reg fuel a tm st
    | .bool false => codeA reg fuel b tm st
    | _ => none
  | .block id body, tm, st => match codeA reg fuel body tm st with
    | some (.ext i, tm, st) => if i = id then some (.nrm, tm, st) else some (.ext i, tm, st)
    | r => r
  | .loop body, tm, st => loopA (codeA reg fuel body) fuel tm st
  | .exit id, tm, st => some (.ext id, tm, st)
  | .scope body, tm, st => codeA reg fuel body tm st
  | .ret, tm, st => some (.ret, tm, st)
  | _, _, _ => none

/-- Code whose regions may be run in any order. -/
def goodC (chk : Array Oper → Bool) : Code → Bool
  | .region _ ops draw => !draw || chk ops
  | .seq a b => goodC chk a && goodC chk b
  | .cond _ a b => goodC chk a && goodC chk b
  | .block _ b => goodC chk b
  | .loop b => goodC chk b
  | .scope b => goodC chk b
  | _ => true

/-- Regions do what the interpreter says. -/
def RegOK (P : Program) (chk : Array Oper → Bool) (n : Nat) (reg : Array Oper → Bool → Tr AV → Hp → Option (Tr AV × Hp)) : Prop :=
  ∀ ops draw tm st tm' st', (!draw || chk ops) = true → reg ops draw tm st = some (tm', st') → Heaps st st' ∧ Moves n tm st tm' st' fun a w K => ∀ id Q, (∀ a w, K a w → Q .normal a w) → (Code.region id ops draw).wp P Q a w

def CodeMoves (P : Program) (n : Nat) (c : Code) (tm : Tr AV) (st : Hp) (x : Ex) (tm' : Tr AV) (st' : Hp) : Prop :=
  Heaps st st' ∧ Moves n tm st tm' st' fun a w K => ∀ Q : Exit → Act → World → Prop, (∀ a w, K a w → Q (exOf x) a w) → c.wp P Q a w

theorem code_stay {n : Nat} {c : Code} {tm : Tr AV} {st : Hp} {x : Ex} (h : ∀ Q : Exit → Act → World → Prop, ∀ a w, Q (exOf x) a w → c.wp P Q a w) : CodeMoves P n c tm st x tm st :=
  ⟨Heaps.rfl' _, fun a m w hT hs _ hn _ _ hK Q hQ => h Q a w (hQ a w (hK a m w hT hs hn rfl To.rfl' (Same.rfl' _ _ _)))⟩

theorem loop_ok {n : Nat} {body : Code} {step : Tr AV → Hp → Option (Ex × Tr AV × Hp)} (hb : ∀ tm st x tm' st', step tm st = some (x, tm', st') → CodeMoves P n body tm st x tm' st') :
    ∀ (f : Nat) (tm : Tr AV) (st : Hp) (x : Ex) (tm' : Tr AV) (st' : Hp), loopA step f tm st = some (x, tm', st') → x ≠ .nrm ∧ Heaps st st' ∧
      Moves n tm st tm' st' fun a w K => ∀ Q : Exit → Act → World → Prop, (∀ a w, K a w → Q (exOf x) a w) → Code.rounds P body Q f a w
  | 0, tm, st, x, tm', st', h => by cases h
  | f + 1, tm, st, x, tm', st', h => by
    rw [loopA] at h
    split at h
    · rename_i tm1 st1 h1
      obtain ⟨h2, h3⟩ := hb _ _ _ _ _ h1
      obtain ⟨h4, h5, h6⟩ := loop_ok hb f tm1 st1 x tm' st' h
      refine ⟨h4, h2.comp h5, fun a m w hT hs hd hn hf K hK Q hQ => ?_⟩
      rw [rounds_succ]
      refine h3 a m w hT hs hd hn (hf.left h5.nx) (fun a w => Code.rounds P body Q f a w) (fun a' m' w' q1 q2 q3 q4 q5 q6 => ?_) _ fun a w h => h
      exact h6 a' m' w' q1 q2 (h2.dom hd) q3 (hf.right h2.nx q6) K (fun a2 m2 w2 r1 r2 r3 r4 r5 r6 => hK a2 m2 w2 r1 r2 r3 (r4.trans q4) (q5.comp r5) (q6.comp r6 h2.nx h5.nx)) Q hQ
    · rename_i hne
      obtain ⟨h2, h3⟩ := hb _ _ _ _ _ h
      have hx : x ≠ .nrm := fun hx => by subst hx; exact hne _ _ h
      refine ⟨hx, h2, fun a m w hT hs hd hn hf K hK Q hQ => ?_⟩
      rw [rounds_succ]
      refine h3 a m w hT hs hd hn hf K hK _ fun a w hk => ?_
      have := hQ a w hk
      cases x with
      | nrm => exact absurd rfl hx
      | ext id => exact this
      | ret => exact this

theorem code_ok {reg : Array Oper → Bool → Tr AV → Hp → Option (Tr AV × Hp)} {chk : Array Oper → Bool} {n fuel : Nat} (hr : RegOK P chk n reg) :
    ∀ (c : Code), goodC chk c = true → ∀ (tm : Tr AV) (st : Hp) (x : Ex) (tm' : Tr AV) (st' : Hp), codeA reg fuel c tm st = some (x, tm', st') → CodeMoves P n c tm st x tm' st' := by
  intro c
  induction c with
  | skip =>
    intro hg tm st x tm' st' h
    simp only [codeA, Option.some.injEq, Prod.mk.injEq] at h
    obtain ⟨rfl, rfl, rfl⟩ := h
    exact code_stay fun Q a w h => wp_skip h
  | label l =>
    intro hg tm st x tm' st' h
    simp only [codeA, Option.some.injEq, Prod.mk.injEq] at h
    obtain ⟨rfl, rfl, rfl⟩ := h
    exact code_stay fun Q a w h => wp_label h
  | exit id =>
    intro hg tm st x tm' st' h
    simp only [codeA, Option.some.injEq, Prod.mk.injEq] at h
    obtain ⟨rfl, rfl, rfl⟩ := h
    exact code_stay fun Q a w h => wp_exit h
  | ret =>
    intro hg tm st x tm' st' h
    simp only [codeA, Option.some.injEq, Prod.mk.injEq] at h
    obtain ⟨rfl, rfl, rfl⟩ := h
    exact code_stay fun Q a w h => wp_ret h
  | goto l => intro _ tm st x tm' st' h; cases h
  | refuse s => intro _ tm st x tm' st' h; cases h
  | rangeFunc f p a b => intro _ tm st x tm' st' h; cases h
  | region id ops draw =>
    intro hg tm st x tm' st' h
    rw [codeA] at h
    split at h
    · rename_i tm1 st1 h1
      simp only [Option.some.injEq, Prod.mk.injEq] at h
      obtain ⟨rfl, rfl, rfl⟩ := h
      obtain ⟨h2, h3⟩ := hr _ _ _ _ _ _ hg h1
      exact ⟨h2, fun a m w hT hs hd hn hf K hK Q hQ => h3 a m w hT hs hd hn hf K hK id Q hQ⟩
    · cases h
  | seq c1 c2 ih1 ih2 =>
    intro hg tm st x tm' st' h
    rw [codeA] at h
    split at h
    · rename_i tm1 st1 h1
      obtain ⟨h2, h3⟩ := ih1 (by simp only [goodC, Bool.and_eq_true] at hg; exact hg.1) _ _ _ _ _ h1
      obtain ⟨h4, h5⟩ := ih2 (by simp only [goodC, Bool.and_eq_true] at hg; exact hg.2) _ _ _ _ _ h
      refine ⟨h2.comp h4, fun a m w hT hs hd hn hf K hK Q hQ => wp_seq ?_⟩
      refine h3 a m w hT hs hd hn (hf.left h4.nx) (fun a w => c2.wp P Q a w) (fun a' m' w' q1 q2 q3 q4 q5 q6 => ?_) _ fun a w h => h
      exact h5 a' m' w' q1 q2 (h2.dom hd) q3 (hf.right h2.nx q6) K (fun a2 m2 w2 r1 r2 r3 r4 r5 r6 => hK a2 m2 w2 r1 r2 r3 (r4.trans q4) (q5.comp r5) (q6.comp r6 h2.nx h4.nx)) Q hQ
    · rename_i hne
      obtain ⟨h2, h3⟩ := ih1 (by simp only [goodC, Bool.and_eq_true] at hg; exact hg.1) _ _ _ _ _ h
      have hx : x ≠ .nrm := fun hx => by subst hx; exact hne _ _ h
      refine ⟨h2, fun a m w hT hs hd hn hf K hK Q hQ => wp_seq ?_⟩
      refine h3 a m w hT hs hd hn hf K hK _ fun a w hk => ?_
      have := hQ a w hk
      cases x with
      | nrm => exact absurd rfl hx
      | ext id => exact this
      | ret => exact this
  | cond c c1 c2 ih1 ih2 =>
    intro hg tm st x tm' st' h
    rw [codeA] at h
    split at h
    · rename_i hc
      obtain ⟨h2, h3⟩ := ih1 (by simp only [goodC, Bool.and_eq_true] at hg; exact hg.1) _ _ _ _ _ h
      exact ⟨h2, fun a m w hT hs hd hn hf K hK Q hQ => wp_cond_true (by have := ev_rv hT c; rwa [hc, RV] at this) (h3 a m w hT hs hd hn hf K hK Q hQ)⟩
    · rename_i hc
      obtain ⟨h2, h3⟩ := ih2 (by simp only [goodC, Bool.and_eq_true] at hg; exact hg.2) _ _ _ _ _ h
      exact ⟨h2, fun a m w hT hs hd hn hf K hK Q hQ => wp_cond_false (by have := ev_rv hT c; rwa [hc, RV] at this) (h3 a m w hT hs hd hn hf K hK Q hQ)⟩
    · cases h
  | block id c ih =>
    intro hg tm st x tm' st' h
    rw [codeA] at h
    split at h
    · rename_i i tm1 st1 h1
      obtain ⟨h2, h3⟩ := ih hg _ _ _ _ _ h1
      split at h
      · rename_i hid
        simp only [Option.some.injEq, Prod.mk.injEq] at h
        obtain ⟨rfl, rfl, rfl⟩ := h
        refine ⟨h2, fun a m w hT hs hd hn hf K hK Q hQ => wp_block (h3 a m w hT hs hd hn hf K hK _ fun a w hk => ?_)⟩
        simp only [exOf, Exit.inBlock, hid, if_true]
        exact hQ a w hk
      · rename_i hid
        simp only [Option.some.injEq, Prod.mk.injEq] at h
        obtain ⟨rfl, rfl, rfl⟩ := h
        refine ⟨h2, fun a m w hT hs hd hn hf K hK Q hQ => wp_block (h3 a m w hT hs hd hn hf K hK _ fun a w hk => ?_)⟩
        simp only [exOf, Exit.inBlock, hid, if_false]
        exact hQ a w hk
    · rename_i hne
      obtain ⟨h2, h3⟩ := ih hg _ _ _ _ _ h
      refine ⟨h2, fun a m w hT hs hd hn hf K hK Q hQ => wp_block (h3 a m w hT hs hd hn hf K hK _ fun a w hk => ?_)⟩
      have := hQ a w hk
      cases x with
      | nrm => exact this
      | ext i => exact absurd h (hne _ _ _)
      | ret => exact this
  | loop c ih =>
    intro hg tm st x tm' st' h
    rw [codeA] at h
    obtain ⟨h1, h2, h3⟩ := loop_ok (P := P) (n := n) (body := c) (fun tm st x tm' st' h => ih hg tm st x tm' st' h) fuel tm st x tm' st' h
    exact ⟨h2, fun a m w hT hs hd hn hf K hK Q hQ => wp_loop_rounds fuel (h3 a m w hT hs hd hn hf K hK Q hQ)⟩
  | scope c ih =>
    intro hg tm st x tm' st' h
    rw [codeA] at h
    obtain ⟨h2, h3⟩ := ih hg _ _ _ _ _ h
    refine ⟨h2, fun a m w hT hs hd hn hf K hK Q hQ => wp_scope_straight (h3 a m w hT hs hd hn hf K hK _ fun a w hk => ?_)⟩
    have := hQ a w hk
    cases x <;> exact this

/-- The results. -/
def resA (E : Env) (tm : Tr AV) (st : Hp) : List ResultVar → (List AV → Option β) → Option β
  | [], k => k []
  | .tmp t :: l, k => resA E tm st l fun vs => k ((tm.get t).getD .dead :: vs)
  | .cell t ty :: l, k => match E.ty.get ty, tm.get t with
    | some ti, some (.ptr b o) => match ti.agg with
      | true => getB st b o ti.size fun cs => resA E tm st l fun vs => k (.agg cs :: vs)
      | false => getB st b o 1 fun cs => match cs with
        | [v] => resA E tm st l fun vs => k (v :: vs)
        | _ => none
    | _, _ => none

def tupA : List AV → AV
  | [v] => v
  | vs => .tup vs
end
end Go.Sx
