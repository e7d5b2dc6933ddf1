import Derived.Orders
import Derived.Test.YtgjggfpofgfchaaGreatDoorSx3
set_option linter.unusedSectionVars false
set_option linter.unusedVariables false
set_option linter.unusedSimpArgs false
/-
Regions that draw their order.
-/
namespace Go.Sx
open LimbNum
variable [Glob]

mutual
def beqAV : AV → AV → Bool
  | .bool a, .bool b => a == b
  | .int k a, .int l b => decide (k = l) && decide (a = b)
  | .float k a, .float l b => decide (k = l) && Nat.beq a b
  | .str a, .str b => a == b
  | .nilp, .nilp => true
  | .ptr a b, .ptr c d => Nat.beq a c && Nat.beq b d
  | .nils, .nils => true
  | .sl a b c d, .sl e f g h => Nat.beq a e && Nat.beq b f && Nat.beq c g && Nat.beq d h
  | .big a, .big b => Nat.beq a b
  | .mp a, .mp b => Nat.beq a b
  | .nilm, .nilm => true
  | .gp a b, .gp c d => Nat.beq a c && Nat.beq b d
  | .fn f a, .fn g b => Nat.beq f g && beqAVs a b
  | .nilf, .nilf => true
  | .agg a, .agg b => beqAVs a b
  | .tup a, .tup b => beqAVs a b
  | _, _ => false
def beqAVs : List AV → List AV → Bool
  | [], [] => true
  | a :: l, b :: m => beqAV a b && beqAVs l m
  | _, _ => false
end
mutual
theorem beqAV_eq : ∀ a b, beqAV a b = true → a = b
  | .bool a, b, h => by cases b <;> simp_all [beqAV]
  | .int k a, b, h => by cases b <;> simp_all [beqAV]
  | .float k a, b, h => by cases b <;> simp_all [beqAV]
  | .str a, b, h => by cases b <;> simp_all [beqAV]
  | .nilp, b, h => by cases b <;> simp_all [beqAV]
  | .ptr a c, b, h => by cases b <;> simp_all [beqAV]
  | .nils, b, h => by cases b <;> simp_all [beqAV]
  | .sl a c d e, b, h => by cases b <;> simp_all [beqAV]
  | .big a, b, h => by cases b <;> simp_all [beqAV]
  | .mp a, b, h => by cases b <;> simp_all [beqAV]
  | .nilm, b, h => by cases b <;> simp_all [beqAV]
  | .gp a c, b, h => by cases b <;> simp_all [beqAV]
  | .fn f a, b, h => by
    cases b <;> simp only [beqAV, Bool.and_eq_true, Bool.false_eq_true] at h
    rw [beqAVs_eq _ _ h.2, Nat.eq_of_beq_eq_true h.1]
  | .nilf, b, h => by cases b <;> simp_all [beqAV]
  | .agg a, b, h => by
    cases b <;> simp only [beqAV, Bool.false_eq_true] at h
    rw [beqAVs_eq _ _ h]
  | .tup a, b, h => by
    cases b <;> simp only [beqAV, Bool.false_eq_true] at h
    rw [beqAVs_eq _ _ h]
  | .dead, b, h => by cases b <;> simp [beqAV] at h
theorem beqAVs_eq : ∀ a b, beqAVs a b = true → a = b
  | [], b, h => by cases b <;> simp_all [beqAVs]
  | x :: l, b, h => by
    cases b with
    | nil => simp [beqAVs] at h
    | cons y m =>
      simp only [beqAVs, Bool.and_eq_true] at h
      rw [beqAV_eq _ _ h.1, beqAVs_eq _ _ h.2]
end
def beqO : Option (List AV) → Option (List AV) → Bool
  | none, none => true
  | some a, some b => beqAVs a b
  | _, _ => false
theorem beqO_eq {a b : Option (List AV)} (h : beqO a b = true) : a = b := by
  cases a <;> cases b <;> simp_all [beqO]
  exact beqAVs_eq _ _ h

/-- What waits for what: for each operation the digits of those that it waits for. -/
def befO (acc : List Nat) (o : Oper) : Nat :=
  o.after.toList.foldl (fun s e => if Region.binds .any e then s ||| 2 ^ e.on ||| acc.getD e.on 0 else s) 0
def befL : List Oper → List Nat → List Nat
  | [], acc => acc
  | o :: l, acc => befL l (acc ++ [befO acc o])

theorem befO_bit (acc : List Nat) (o : Oper) (j : Nat) (h : (befO acc o).testBit j = true) : ∃ e ∈ o.after, Region.binds .any e = true ∧ (e.on = j ∨ (acc.getD e.on 0).testBit j = true) := by
  unfold befO at h
  have key : ∀ (l : List Edge) (s : Nat), (l.foldl (fun s e => if Region.binds .any e then s ||| 2 ^ e.on ||| acc.getD e.on 0 else s) s).testBit j = true →
      s.testBit j = true ∨ ∃ e ∈ l, Region.binds .any e = true ∧ (e.on = j ∨ (acc.getD e.on 0).testBit j = true) := by
    intro l
    induction l with
    | nil => intro s h; exact .inl h
    | cons e l ih =>
      intro s h
      rw [List.foldl_cons] at h
      rcases ih _ h with h1 | ⟨e', h1, h2⟩
      · split at h1
        · rename_i hb
          simp only [Nat.testBit_or, Bool.or_eq_true] at h1
          rcases h1 with (h1 | h1) | h1
          · exact .inl h1
          · refine .inr ⟨e, by simp, hb, .inl ?_⟩
            rw [Nat.testBit_two_pow] at h1
            simpa using h1
          · exact .inr ⟨e, by simp, hb, .inr h1⟩
        · exact .inl h1
      · exact .inr ⟨e', by simp [h1], h2⟩
  rcases key _ 0 h with h1 | ⟨e, h1, h2⟩
  · simp at h1
  · exact ⟨e, by simpa using h1, h2⟩

theorem getD_none {α : Type} {l : List α} {i : Nat} {d : α} (h : l.length ≤ i) : l.getD i d = d := by
  rw [List.getD_eq_getElem?_getD, List.getElem?_eq_none h]; rfl
theorem getD_left {α : Type} {l m : List α} {i : Nat} {d : α} (h : i < l.length) : (l ++ m).getD i d = l.getD i d := by
  rw [List.getD_eq_getElem?_getD, List.getD_eq_getElem?_getD, List.getElem?_append_left h]
theorem getD_last {α : Type} {l : List α} {x d : α} : (l ++ [x]).getD l.length d = x := by
  rw [List.getD_eq_getElem?_getD, List.getElem?_append_right (Nat.le_refl _), Nat.sub_self]; rfl

theorem befL_bit : ∀ (l : List Oper) (acc : List Nat) (ops : List Oper), ops.drop acc.length = l →
    (∀ i o j, i < acc.length → ops[i]? = some o → (acc.getD i 0).testBit j = true → ∃ e ∈ o.after, Region.binds .any e = true ∧ (e.on = j ∨ (e.on < acc.length ∧ (acc.getD e.on 0).testBit j = true))) →
    ∀ i o j, ops[i]? = some o → ((befL l acc).getD i 0).testBit j = true → ∃ e ∈ o.after, Region.binds .any e = true ∧ (e.on = j ∨ ((befL l acc).getD e.on 0).testBit j = true)
  | [], acc, ops, hd, hacc, i, o, j, ho, h => by
    simp only [befL] at h ⊢
    have hi : i < acc.length := by
      rcases Nat.lt_or_ge i acc.length with h' | h'
      · exact h'
      · rw [getD_none h'] at h; simp at h
    obtain ⟨e, h1, h2, h3⟩ := hacc i o j hi ho h
    exact ⟨e, h1, h2, h3.imp id (·.2)⟩
  | x :: l, acc, ops, hd, hacc, i, o, j, ho, h => by
    refine befL_bit l (acc ++ [befO acc x]) ops ?_ ?_ i o j ho h
    · rw [List.length_append, List.length_singleton, ← List.drop_drop, hd]; rfl
    · intro i o j hi ho h
      rw [List.length_append, List.length_singleton] at hi
      by_cases hia : i < acc.length
      · rw [getD_left hia] at h
        obtain ⟨e, h1, h2, h3⟩ := hacc i o j hia ho h
        exact ⟨e, h1, h2, h3.imp id fun h => ⟨by simp; omega, by rw [getD_left h.1]; exact h.2⟩⟩
      · obtain rfl : i = acc.length := by omega
        have hx : o = x := by
          have : (ops.drop acc.length)[0]? = some x := by rw [hd]; rfl
          rw [List.getElem?_drop, Nat.add_zero, ho] at this
          simpa using this
        subst hx
        rw [getD_last] at h
        obtain ⟨e, h1, h2, h3⟩ := befO_bit acc o j h
        refine ⟨e, h1, h2, h3.imp id fun h3 => ?_⟩
        have : e.on < acc.length := by
          rcases Nat.lt_or_ge e.on acc.length with h' | h'
          · exact h'
          · rw [getD_none h'] at h3; simp at h3
        exact ⟨by simp; omega, by rw [getD_left this]; exact h3⟩

def bef (ops : Array Oper) : List Nat := befL ops.toList []
def rch (ops : Array Oper) (i j : Nat) : Bool := ((bef ops).getD i 0).testBit j
theorem rch_edge {ops : Array Oper} {i j : Nat} {o : Oper} (ho : ops[i]? = some o) (h : rch ops i j = true) : ∃ e ∈ o.after, Region.binds .any e = true ∧ (e.on = j ∨ rch ops e.on j = true) :=
  befL_bit ops.toList [] ops.toList rfl (fun i o j hi => by simp at hi) i o j (by simpa using ho) h

/-- What an operation reads. -/
def rdsOf (ops : Array Oper) (o : Oper) : List Nat :=
  (o.op.operands.toList.filterMap fun | .tmp t => some t | _ => none) ++ (match o.guard with | some (g, _) => ((ops[g]?).bind (·.dst)).toList | none => [])

def clash (ops : Array Oper) (oi oj : Oper) : Bool :=
  (match oi.dst with | some d => oj.dst == some d || (rdsOf ops oj).contains d | none => false) || (match oj.dst with | some d => (rdsOf ops oi).contains d | none => false)

/-- The number of operations before the first one that changes something. -/
def preN : List Oper → Nat
  | [] => 0
  | o :: l => if kd o.op = 3 then 0 else preN l + 1

/-- A region that may be run in any order. -/
def chkS (ops : Array Oper) : Bool :=
  let p := preN ops.toList
  (List.range ops.size).all fun i => match ops[i]? with
    | none => true
    | some oi => (oi.after.all fun e => !Region.binds .any e || Nat.blt e.on i) &&
      (List.range i).all fun j => match ops[j]? with
        | none => true
        | some oj => rch ops i j || (!clash ops oi oj && (Nat.blt i p || (Nat.blt j p && Nat.beq (kd oj.op) 0)))
end Go.Sx

/-
A region is run and its run is recorded.
-/
namespace Go.Sx
open LimbNum
variable [Glob]

structure Ent where
  tm : Tr AV
  st : Hp
  st' : Hp
  av : AV
  run : Bool

section
variable {P : Program} {E : Env} {β : Type} {r : β}

/-- An operation that must leave all old blocks as they are. -/
def opP (E : Env) (call : FuncId → List AV → Hp → Option (AV × Hp)) (ρ : Operand → AV) (st : Hp) (o : Oper) (k : AV → Hp → Option β) : Option β :=
  opA E call ρ ⟨st.h, st.nx, st.nx⟩ o fun av st' => if Nat.beq st'.lo st.nx then k av ⟨st'.h, st'.nx, st.lo⟩ else none

def opD (E : Env) (call : FuncId → List AV → Hp → Option (AV × Hp)) : Nat → (Operand → AV) → Hp → Oper → (AV → Hp → Option β) → Option β
  | 0 => opA E call
  | _ + 1 => opP E call

def runT (E : Env) (call : FuncId → List AV → Hp → Option (AV × Hp)) (n : Nat) (ops : Array Oper) : Nat → List Oper → Tr AV → Hp → (List Ent → Tr AV → Hp → Option β) → Option β
  | _, [], tm, st, k => k [] tm st
  | p, o :: l, tm, st, k => match wantA ops tm o with
    | some true => opD E call p (evO tm) st o fun av st' => putA n o.dst av tm fun tm' => runT E call n ops (p - 1) l tm' st' fun es tm2 st2 => k (⟨tm, st, st', av, true⟩ :: es) tm2 st2
    | some false => putA n o.dst skipA tm fun tm' => runT E call n ops (p - 1) l tm' st fun es tm2 st2 => k (⟨tm, st, st, skipA, false⟩ :: es) tm2 st2
    | none => none

/-- One operation's part of a run. -/
structure StepE (P : Program) (n : Nat) (ops : Array Oper) (pre : Bool) (o : Oper) (tm : Tr AV) (st : Hp) (av : AV) (st' : Hp) (run : Bool) (tm' : Tr AV) : Prop where
  want : wantA ops tm o = some run
  puts : Puts n o.dst av tm tm'
  heaps : Heaps st st'
  light : kd o.op = 0 → st'.h = st.h ∧ st'.nx = st.nx ∧ (run = true → Light P (evO tm) st.h.get o av)
  acts : kd o.op ≠ 0 → run = true → Acts P (evO tm) st o av st'
  skip : run = false → av = skipA ∧ st' = st
  pure : pre = true → ∀ b, b < st.nx → st'.h.get b = st.h.get b
  rdlt : run = true → ∀ b, rdOf (evO tm) o = some b → b < st.nx

theorem opA_lt {call : FuncId → List AV → Hp → Option (AV × Hp)} {ρ : Operand → AV} {st : Hp} {o : Oper} {k : AV → Hp → Option β} (h : opA E call ρ st o k = some r) : ∀ b, rdOf ρ o = some b → b < st.nx := by
  intro b hb
  unfold opA at h
  split at h
  · rename_i ho
    unfold rdOf at hb
    rw [ho] at hb
    cases hb
  · exact load_lt h hb

theorem opD_ok {call : FuncId → List AV → Hp → Option (AV × Hp)} {n : Nat} {ops : Array Oper} (hc : CallOK P call) (hty : ∀ t ti, E.ty.get t = some ti → TyOK P t ti) {p : Nat} {tm : Tr AV} {st : Hp} {o : Oper} {k : AV → Hp → Option β}
    (hw : wantA ops tm o = some true) (h : opD E call p (evO tm) st o k = some r) :
    ∃ av st', k av st' = some r ∧ ∀ tm', Puts n o.dst av tm tm' → StepE P n ops (decide (0 < p)) o tm st av st' true tm' := by
  cases p with
  | zero =>
    obtain ⟨av, st', h1, h2⟩ := opA_ok hc hty h
    have hh : Heaps st st' := by
      by_cases hk : kd o.op = 0
      · rw [(h2.1 hk).1]; exact Heaps.rfl' _
      · exact (h2.2 hk).1
    exact ⟨av, st', h1, fun tm' hp => ⟨hw, hp, hh, fun hk => (by obtain ⟨rfl, q⟩ := h2.1 hk; exact ⟨rfl, rfl, fun _ => q⟩), fun hk _ => (h2.2 hk).2, fun h => (by cases h), fun h => (by simp at h), fun _ => opA_lt h⟩⟩
  | succ p =>
    have hlt := opA_lt (st := ⟨st.h, st.nx, st.nx⟩) h
    obtain ⟨av, st', h1, h2⟩ := opA_ok hc hty h
    split at h1
    · rename_i hlo
      have hlo' : st'.lo = st.nx := Nat.eq_of_beq_eq_true hlo
      have hh : Heaps ⟨st.h, st.nx, st.nx⟩ st' := by
        by_cases hk : kd o.op = 0
        · rw [(h2.1 hk).1]; exact Heaps.rfl' _
        · exact (h2.2 hk).1
      have hp : ∀ b, b < st.nx → st'.h.get b = st.h.get b := fun b hb => hh.old b (by rw [hlo']; exact hb) hb
      refine ⟨av, ⟨st'.h, st'.nx, st.lo⟩, h1, fun tm' hpt => ⟨hw, hpt, ⟨hh.nx, Nat.le_refl _, fun b _ hb => hp b hb, hh.far⟩, fun hk => ?_, fun hk _ => ?_, fun h => (by cases h), fun _ => hp, fun _ => hlt⟩⟩
      · obtain ⟨e, q⟩ := h2.1 hk
        rw [e]
        exact ⟨rfl, rfl, fun _ => q⟩
      · have q := (h2.2 hk).2
        intro a m w hO hs hd hf K Q hK
        exact q a m w hO hs hd hf K Q hK
    · cases h1

/-- The whole run, place by place. -/
structure Track (P : Program) (n : Nat) (ops : Array Oper) (p : Nat) (l : List Oper) (tms : Nat → Tr AV) (sts : Nat → Hp) (avs : Nat → AV) (rns : Nat → Bool) (es : List Ent) : Prop where
  step : ∀ i o, l[i]? = some o → StepE P n ops (decide (i < p)) o (tms i) (sts i) (avs i) (sts (i + 1)) (rns i) (tms (i + 1))
  ent : ∀ i, i < l.length → es[i]? = some ⟨tms i, sts i, sts (i + 1), avs i, rns i⟩

theorem runT_ok {call : FuncId → List AV → Hp → Option (AV × Hp)} {n : Nat} {ops : Array Oper} (hc : CallOK P call) (hty : ∀ t ti, E.ty.get t = some ti → TyOK P t ti) :
    ∀ (l : List Oper) (p : Nat) (tm : Tr AV) (st : Hp) (k : List Ent → Tr AV → Hp → Option β), runT E call n ops p l tm st k = some r →
      ∃ es tm' st', k es tm' st' = some r ∧ ∃ tms sts avs rns, tms 0 = tm ∧ sts 0 = st ∧ tms l.length = tm' ∧ sts l.length = st' ∧ Track P n ops p l tms sts avs rns es
  | [], p, tm, st, k, h => ⟨[], tm, st, h, fun _ => tm, fun _ => st, fun _ => .dead, fun _ => false, rfl, rfl, rfl, rfl, ⟨fun i o h => by simp at h, fun i h => by simp at h⟩⟩
  | o :: l, p, tm, st, k, h => by
    have glue : ∀ (av : AV) (st1 : Hp) (run : Bool) (tm1 : Tr AV) (k' : List Ent → Tr AV → Hp → Option β), StepE P n ops (decide (0 < p)) o tm st av st1 run tm1 →
        runT E call n ops (p - 1) l tm1 st1 (fun es tm2 st2 => k (⟨tm, st, st1, av, run⟩ :: es) tm2 st2) = some r →
        ∃ es tm' st', k es tm' st' = some r ∧ ∃ tms sts avs rns, tms 0 = tm ∧ sts 0 = st ∧ tms (o :: l).length = tm' ∧ sts (o :: l).length = st' ∧ Track P n ops p (o :: l) tms sts avs rns es := by
      intro av st1 run tm1 _ hs h
      obtain ⟨es, tm', st', h1, tms, sts, avs, rns, e1, e2, e3, e4, T⟩ := runT_ok hc hty l (p - 1) tm1 st1 _ h
      refine ⟨_, tm', st', h1, fun i => match i with | 0 => tm | i + 1 => tms i, fun i => match i with | 0 => st | i + 1 => sts i, fun i => match i with | 0 => av | i + 1 => avs i, fun i => match i with | 0 => run | i + 1 => rns i, rfl, rfl, e3, e4,
        ⟨fun i o' ho => ?_, fun i hi => ?_⟩⟩
      · cases i with
        | zero =>
          simp only [List.getElem?_cons_zero, Option.some.injEq] at ho
          subst ho
          simp only [e1, e2]
          exact hs
        | succ i =>
          simp only [List.getElem?_cons_succ] at ho
          have := T.step i o' ho
          have e : decide (i + 1 < p) = decide (i < p - 1) := by
            by_cases h' : i + 1 < p
            · have : i < p - 1 := by omega
              simp [h', this]
            · have : ¬ i < p - 1 := by omega
              simp [h', this]
          rw [e]
          exact this
      · cases i with
        | zero => simp [e2]
        | succ i => simpa using T.ent i (by simpa using hi)
    rw [runT] at h
    split at h
    · rename_i hw
      obtain ⟨av, st1, h1, h2⟩ := opD_ok (n := n) hc hty hw h
      obtain ⟨tm1, h3, h4⟩ := putA_some h1
      exact glue av st1 true tm1 k (h2 tm1 h4) h3
    · rename_i hw
      obtain ⟨tm1, h3, h4⟩ := putA_some h
      refine glue skipA st false tm1 k ⟨hw, h4, Heaps.rfl' _, fun _ => ⟨rfl, rfl, fun h => (by cases h)⟩, fun _ h => (by cases h), fun _ => ⟨rfl, rfl⟩, fun _ _ _ => rfl, fun h => (by cases h)⟩ h3
    · cases h

def forceNs : List Nat → (List Nat → β) → β
  | [], k => k []
  | x :: l, k => forceN x fun x => forceNs l fun l => k (x :: l)
theorem forceNs_eq : ∀ (l : List Nat) (k : List Nat → β), forceNs l k = k l
  | [], k => rfl
  | x :: l, k => by rw [forceNs, forceN_eq, forceNs_eq l]

/-- What an operation reads that may come late is left alone by those that do not wait for it. -/
def chkD (ops : Array Oper) (B : List Nat) (p : Nat) (es : List Ent) : Bool :=
  (List.range ops.size).all fun j => Nat.blt j p || (List.range p).all fun i => (B.getD j 0).testBit i || match ops[i]?, es[i]?, es[j]? with
    | some oi, some ei, some ej => !ei.run || match rdOf (evO ei.tm) oi with
      | some b => beqO (ej.st.h.get b) (ej.st'.h.get b)
      | none => true
    | _, _, _ => false

def drawA (E : Env) (call : FuncId → List AV → Hp → Option (AV × Hp)) (n : Nat) (ops : Array Oper) (tm : Tr AV) (st : Hp) : Option (Tr AV × Hp) :=
  forceN (preN ops.toList) fun p => runT E call n ops p ops.toList tm st fun es tm' st' =>
    if p = ops.size then some (tm', st') else forceNs (bef ops) fun B => if chkD ops B p es then some (tm', st') else none
end
end Go.Sx

/-
A region in any order does what its recorded run says.
-/
namespace Go.Sx
open LimbNum
variable [Glob]

section
variable {P : Program} {n : Nat} {ops : Array Oper} {p : Nat} {tms : Nat → Tr AV} {sts : Nat → Hp} {avs : Nat → AV} {rns : Nat → Bool} {es : List Ent}

theorem Track.at (T : Track P n ops p ops.toList tms sts avs rns es) {i : Nat} {o : Oper} (ho : ops[i]? = some o) : StepE P n ops (decide (i < p)) o (tms i) (sts i) (avs i) (sts (i + 1)) (rns i) (tms (i + 1)) :=
  T.step i o (by simpa using ho)

theorem op_at {i : Nat} (hi : i < ops.size) : ∃ o, ops[i]? = some o := ⟨ops[i], Array.getElem?_eq_getElem hi⟩
theorem op_lt {i : Nat} {o : Oper} (h : ops[i]? = some o) : i < ops.size := (Array.getElem?_eq_some_iff.1 h).1

theorem Track.tm (T : Track P n ops p ops.toList tms sts avs rns es) {t : Nat} {k : Nat} : ∀ i, k ≤ i → i ≤ ops.size → (∀ j o, k ≤ j → j < i → ops[j]? = some o → o.dst ≠ some t) → (tms i).get t = (tms k).get t := by
  intro i
  induction i with
  | zero => intro hk _ _; rw [show k = 0 by omega]
  | succ i ih =>
    intro hk hi h
    by_cases hki : k = i + 1
    · rw [hki]
    · obtain ⟨o, ho⟩ := op_at (ops := ops) (i := i) (by omega)
      rw [(T.at ho).puts.2 t (h i o (by omega) (by omega) ho)]
      exact ih (by omega) (by omega) fun j o h1 h2 => h j o h1 (by omega)

theorem Track.nx (T : Track P n ops p ops.toList tms sts avs rns es) {i : Nat} : ∀ j, i ≤ j → j ≤ ops.size → (sts i).nx ≤ (sts j).nx := by
  intro j
  induction j with
  | zero => intro h _; rw [show i = 0 by omega]; exact Nat.le_refl _
  | succ j ih =>
    intro h hj
    by_cases hij : i = j + 1
    · rw [hij]; exact Nat.le_refl _
    · obtain ⟨o, ho⟩ := op_at (ops := ops) (i := j) (by omega)
      exact Nat.le_trans (ih (by omega) (by omega)) (T.at ho).heaps.nx

theorem Track.heaps (T : Track P n ops p ops.toList tms sts avs rns es) : ∀ j, j ≤ ops.size → Heaps (sts 0) (sts j) := by
  intro j
  induction j with
  | zero => intro _; exact Heaps.rfl' _
  | succ j ih =>
    intro hj
    obtain ⟨o, ho⟩ := op_at (ops := ops) (i := j) (by omega)
    exact (ih (by omega)).comp (T.at ho).heaps

theorem Track.pure (T : Track P n ops p ops.toList tms sts avs rns es) (hp : p ≤ ops.size) {i b : Nat} (hb : b < (sts i).nx) : ∀ j, i ≤ j → j ≤ p → (sts j).h.get b = (sts i).h.get b := by
  intro j
  induction j with
  | zero => intro h _; rw [show i = 0 by omega]
  | succ j ih =>
    intro h hj
    by_cases hij : i = j + 1
    · rw [hij]
    · obtain ⟨o, ho⟩ := op_at (ops := ops) (i := j) (by omega)
      rw [(T.at ho).pure (by simp; omega) b (Nat.lt_of_lt_of_le hb (T.nx j (by omega) (by omega)))]
      exact ih (by omega) (by omega)

/-- What the static look has found. -/
structure Stat (ops : Array Oper) (p : Nat) : Prop where
  le : p ≤ ops.size
  back : ∀ i o, ops[i]? = some o → ∀ e ∈ o.after, Region.binds .any e = true → e.on < i
  pair : ∀ i oi j oj, ops[i]? = some oi → ops[j]? = some oj → j < i → rch ops i j = true ∨ (clash ops oi oj = false ∧ (i < p ∨ (j < p ∧ kd oj.op = 0)))

theorem preN_le : ∀ l : List Oper, preN l ≤ l.length
  | [] => Nat.le_refl _
  | o :: l => by
    rw [preN]
    split
    · exact Nat.zero_le _
    · simp only [List.length_cons]; have := preN_le l; omega

theorem chkS_ok (h : chkS ops = true) : Stat ops (preN ops.toList) := by
  unfold chkS at h
  have key : ∀ i oi, ops[i]? = some oi → (oi.after.all fun e => !Region.binds .any e || Nat.blt e.on i) = true ∧ ∀ j oj, j < i → ops[j]? = some oj →
      (rch ops i j || (!clash ops oi oj && (Nat.blt i (preN ops.toList) || (Nat.blt j (preN ops.toList) && Nat.beq (kd oj.op) 0)))) = true := by
    intro i oi ho
    have h1 := List.all_eq_true.1 h i (List.mem_range.2 (op_lt ho))
    simp only [ho, Bool.and_eq_true] at h1
    refine ⟨h1.1, fun j oj hj hoj => ?_⟩
    have h2 := List.all_eq_true.1 h1.2 j (List.mem_range.2 hj)
    simpa only [hoj] using h2
  refine ⟨by have := preN_le ops.toList; simpa using this, fun i o ho e he hb => ?_, fun i oi j oj hi hj hlt => ?_⟩
  · have h1 := Array.all_eq_true_iff_forall_mem.1 (key i o ho).1 e he
    simpa [hb, Nat.blt_eq] using h1
  · have h2 := (key i oi hi).2 j oj hlt hj
    simp only [Bool.or_eq_true, Bool.and_eq_true, Bool.not_eq_true', Nat.blt_eq] at h2
    rcases h2 with h2 | ⟨h2, h3⟩
    · exact .inl h2
    · exact .inr ⟨h2, h3.imp id fun h => ⟨h.1, Nat.eq_of_beq_eq_true h.2⟩⟩

def Cl (ops : Array Oper) (L : Nat → Bool) : Prop := ∀ i o, L i = true → ops[i]? = some o → ∀ e ∈ o.after, Region.binds .any e = true → L e.on = true

theorem Cl.rch {L : Nat → Bool} (S : Stat ops p) (hc : Cl ops L) : ∀ (i : Nat) (o : Oper), ops[i]? = some o → (∀ e ∈ o.after, Region.binds .any e = true → L e.on = true) → ∀ j, rch ops i j = true → L j = true := by
  intro i
  induction i using Nat.strongRecOn with
  | ind i ih =>
    intro o ho hd j hr
    obtain ⟨e, he, hb, h⟩ := rch_edge ho hr
    rcases h with rfl | h
    · exact hd e he hb
    · have hlt := S.back i o ho e he hb
      obtain ⟨o', ho'⟩ := op_at (ops := ops) (i := e.on) (by have := op_lt ho; omega)
      exact ih e.on hlt o' ho' (hc e.on o' (hd e he hb) ho') j h

/-- The value of a temporary when the operations of L have been run. -/
def Val (ops : Array Oper) (tms : Nat → Tr AV) (avs : Nat → AV) (L : Nat → Bool) (t : Nat) (av : AV) : Prop :=
  (∃ j o, L j = true ∧ ops[j]? = some o ∧ o.dst = some t ∧ avs j = av ∧ ∀ j' o', j < j' → L j' = true → ops[j']? = some o' → o'.dst ≠ some t) ∨
  ((∀ j o, L j = true → ops[j]? = some o → o.dst ≠ some t) ∧ (tms 0).get t = some av)

theorem last_writer (ops : Array Oper) (t : Nat) : ∀ i : Nat, (∀ (j : Nat) (o : Oper), j < i → ops[j]? = some o → o.dst ≠ some t) ∨ ∃ (j : Nat) (o : Oper), j < i ∧ ops[j]? = some o ∧ o.dst = some t ∧ ∀ (j' : Nat) (o' : Oper), j < j' → j' < i → ops[j']? = some o' → o'.dst ≠ some t
  | 0 => .inl fun j o h => by omega
  | i + 1 => by
    by_cases hx : ∃ o, ops[i]? = some o ∧ o.dst = some t
    · obtain ⟨o, h1, h2⟩ := hx
      exact .inr ⟨i, o, by omega, h1, h2, fun j' o' h3 h4 => by omega⟩
    · have hi : ∀ o, ops[i]? = some o → o.dst ≠ some t := fun o h1 h2 => hx ⟨o, h1, h2⟩
      rcases last_writer ops t i with h | ⟨j, o, h1, h2, h3, h4⟩
      · refine .inl fun j o hj ho => ?_
        by_cases hji : j = i
        · subst hji; exact hi o ho
        · exact h j o (by omega) ho
      · refine .inr ⟨j, o, by omega, h2, h3, fun j' o' h5 h6 ho' => ?_⟩
        by_cases hji : j' = i
        · subst hji; exact hi o' ho'
        · exact h4 j' o' h5 (by omega) ho'

theorem clash_left {oi oj : Oper} {t : Nat} (h1 : oi.dst = some t) (h2 : t ∈ rdsOf ops oj) : clash ops oi oj = true := by
  unfold clash
  simp only [h1, Bool.or_eq_true]
  exact .inl (.inr (by simpa using h2))
theorem clash_right {oi oj : Oper} {t : Nat} (h1 : oj.dst = some t) (h2 : t ∈ rdsOf ops oi) : clash ops oi oj = true := by
  unfold clash
  simp only [h1, Bool.or_eq_true]
  exact .inr (by simpa using h2)
theorem clash_both {oi oj : Oper} {t : Nat} (h1 : oi.dst = some t) (h2 : oj.dst = some t) : clash ops oi oj = true := by
  unfold clash
  simp [h1, h2]

/-- What an operation that comes up reads is what it reads in the text's order. -/
theorem read_val (T : Track P n ops p ops.toList tms sts avs rns es) (S : Stat ops p) {L : Nat → Bool} (hc : Cl ops L) {i : Nat} {o : Oper} (ho : ops[i]? = some o) (hu : L i = false)
    (hd : ∀ e ∈ o.after, Region.binds .any e = true → L e.on = true) {t : Nat} (ht : t ∈ rdsOf ops o) {av : AV} (h : (tms i).get t = some av) : Val ops tms avs L t av := by
  have hdep := hc.rch S i o ho hd
  have late : ∀ j oj, i < j → L j = true → ops[j]? = some oj → oj.dst ≠ some t := fun j oj hij hj hoj hdst => by
    rcases S.pair j oj i o hoj ho hij with h1 | ⟨h1, _⟩
    · rw [hc.rch S j oj hoj (hc j oj hj hoj) i h1] at hu; cases hu
    · rw [clash_left hdst ht] at h1; cases h1
  rcases last_writer ops t i with h1 | ⟨j, oj, h1, h2, h3, h4⟩
  · refine .inr ⟨fun j oj hj hoj => ?_, ?_⟩
    · rcases Nat.lt_trichotomy j i with h5 | h5 | h5
      · exact h1 j oj h5 hoj
      · subst h5; rw [hj] at hu; cases hu
      · exact late j oj h5 hj hoj
    · rw [← h]
      exact (T.tm (k := 0) i (Nat.zero_le _) (Nat.le_of_lt (op_lt ho)) fun j o _ h5 => h1 j o h5).symm
  · have hj : L j = true := by
      rcases S.pair i o j oj ho h2 h1 with h5 | ⟨h5, _⟩
      · exact hdep j h5
      · rw [clash_right h3 ht] at h5; cases h5
    refine .inl ⟨j, oj, hj, h2, h3, ?_, fun j' o' h5 h6 h7 => ?_⟩
    · have e := T.tm (t := t) (k := j + 1) i (by omega) (Nat.le_of_lt (op_lt ho)) fun j' o' h5 h6 h7 => h4 j' o' (by omega) h6 h7
      rw [((T.at h2).puts.1 t h3).2, h] at e
      simpa using e.symm
    · rcases Nat.lt_trichotomy j' i with h8 | h8 | h8
      · exact h4 j' o' h5 h8 h7
      · subst h8; rw [h6] at hu; cases hu
      · exact late j' o' h8 h6 h7

/-- When all have been run. -/
theorem full_val (T : Track P n ops p ops.toList tms sts avs rns es) {L : Nat → Bool} (hall : ∀ i, i < ops.size → L i = true) {t : Nat} {av : AV} (h : (tms ops.size).get t = some av) : Val ops tms avs L t av := by
  rcases last_writer ops t ops.size with h1 | ⟨j, oj, h1, h2, h3, h4⟩
  · refine .inr ⟨fun j oj _ hoj => h1 j oj (op_lt hoj) hoj, ?_⟩
    rw [← h]
    exact (T.tm (k := 0) ops.size (Nat.zero_le _) (Nat.le_refl _) fun j o _ h5 => h1 j o h5).symm
  · refine .inl ⟨j, oj, hall j h1, h2, h3, ?_, fun j' o' h5 _ h7 => h4 j' o' h5 (op_lt h7) h7⟩
    have e := T.tm (t := t) (k := j + 1) ops.size (by omega) (Nat.le_refl _) fun j' o' h5 h6 h7 => h4 j' o' (by omega) h6 h7
    rw [((T.at h2).puts.1 t h3).2, h] at e
    simpa using e.symm

/-- One more. -/
theorem put_val (S : Stat ops p) {L L' : Nat → Bool} {i : Nat} (hL : ∀ j, L' j = (j == i || L j)) (hc : Cl ops L) {o : Oper} (ho : ops[i]? = some o) (hu : L i = false) {a : Act} {m m' : Nm} {w w' : World} {v : Value} (hn : a.tmps.size = n)
    (hd : ∀ t, o.dst = some t → t < n) (h : ∀ t av, Val ops tms avs L t av → ∃ v, a.tmps[t]? = some v ∧ RV m w av v) (hk : ∀ av v, RV m w av v → RV m' w' av v) (hv : RV m' w' (avs i) v) :
    ∀ t av, Val ops tms avs L' t av → ∃ u, (a.put o.dst v).tmps[t]? = some u ∧ RV m' w' av u := by
  intro t av hV
  rw [put_get]
  by_cases hdst : o.dst = some t
  · rw [if_pos ⟨hdst, by have := hd t hdst; exact Nat.lt_of_lt_of_eq this hn.symm⟩]
    have : avs i = av := by
      rcases hV with ⟨j, oj, h1, h2, h3, h4, h5⟩ | ⟨h1, _⟩
      · by_cases hji : j = i
        · subst hji; exact h4
        · have hj : L j = true := by simpa [hL, hji] using h1
          rcases Nat.lt_or_ge j i with h6 | h6
          · exact absurd hdst (h5 i o h6 (by simp [hL]) ho)
          · rcases S.pair j oj i o h2 ho (by omega) with h7 | ⟨h7, _⟩
            · rw [hc.rch S j oj h2 (hc j oj hj h2) i h7] at hu; cases hu
            · rw [clash_both h3 hdst] at h7; cases h7
      · exact absurd hdst (h1 i o (by simp [hL]) ho)
    exact ⟨v, rfl, this ▸ hv⟩
  · rw [if_neg fun h => hdst h.1]
    have hV' : Val ops tms avs L t av := by
      rcases hV with ⟨j, oj, h1, h2, h3, h4, h5⟩ | ⟨h1, h2⟩
      · have hji : j ≠ i := fun e => by subst e; rw [ho] at h2; cases h2; exact hdst h3
        exact .inl ⟨j, oj, by simpa [hL, hji] using h1, h2, h3, h4, fun j' o' h6 h7 => h5 j' o' h6 (by simp [hL, h7])⟩
      · exact .inr ⟨fun j oj hj => h1 j oj (by simp [hL, hj]), h2⟩
    obtain ⟨u, h1, h2⟩ := h t av hV'
    exact ⟨u, h1, hk _ _ h2⟩
end
end Go.Sx

/-
Functions.
-/
namespace Go.Sx
open LimbNum Go.RowKit
variable [Glob]
section
variable {P : Program} {E : Env} {β : Type} {r : β}

def resF (tmps : Array Value) : ResultVar → Sem Value
  | .tmp t => pure (tmps.getD t undef)
  | .cell a t => do loadVar t (← asAddr (tmps.getD a undef))

theorem results_eq (fn : Func) (tmps : Array Value) : results fn tmps = (do
    let vs ← fn.results.mapM (resF tmps)
    pure (if h : vs.size = 1 then vs[0] else .tuple vs)) := by
  unfold results
  congr 1

theorem resA_ok (hty : ∀ t ti, E.ty.get t = some ti → TyOK P t ti) {tm : Tr AV} {st : Hp} : ∀ (l : List ResultVar) (k : List AV → Option β), resA E tm st l k = some r →
    ∃ avs, k avs = some r ∧ avs.length = l.length ∧ ∀ (a : Act) (m : Nm) (w : World), RT m w tm a → RS m w st.h.get → ∃ vs, (l.mapM (resF a.tmps)).run P w = .ok vs w ∧ RVs m w avs vs
  | [], k, h => ⟨[], h, rfl, fun a m w _ _ => ⟨[], by simp, by rw [RVs]⟩⟩
  | .tmp t :: l, k, h => by
    rw [resA] at h
    obtain ⟨avs, h1, h2, h3⟩ := resA_ok hty l _ h
    refine ⟨_, h1, by simp [h2], fun a m w hT hs => ?_⟩
    obtain ⟨vs, q1, q2⟩ := h3 a m w hT hs
    refine ⟨a.tmps.getD t undef :: vs, ?_, ?_⟩
    · simp [List.mapM_cons, resF, q1]
    · rw [RVs]
      exact ⟨_, _, rfl, ev_rv hT (.tmp t), q2⟩
  | .cell t ty :: l, k, h => by
    rw [resA] at h
    split at h
    · rename_i ti b off hti htm
      obtain ⟨i, d, z, h1, h2, h3, h4, h5, h6, h7, _⟩ := (hty _ _ hti).ex
      have hagg := fun w => run_isAgg h2 w
      rw [← h7] at hagg
      split at h
      · rename_i hag
        rw [hag] at hagg
        obtain ⟨cells, g1, g2, g3⟩ := getB_some h
        obtain ⟨avs, e1, e2, e3⟩ := resA_ok hty l _ g3
        refine ⟨_, e1, by simp [e2], fun a m w hT hs => ?_⟩
        obtain ⟨vs, q1, q2⟩ := e3 a m w hT hs
        obtain ⟨v, hv1, hv2⟩ := hT t _ htm
        rw [RV] at hv2
        obtain ⟨rb, hm, rfl⟩ := hv2
        obtain ⟨us, u1, u2, _⟩ := get_rv (P := P) hs g1 hm g2
        rw [h4] at u1
        refine ⟨.agg us.toArray :: vs, ?_, ?_⟩
        · simp [List.mapM_cons, resF, Array.getD_eq_getD_getElem?, hv1, asAddr, loadVar, hagg, run_size h1, u1, q1]
        · rw [RVs]
          exact ⟨_, _, rfl, by rw [RV]; exact ⟨us, rfl, u2⟩, q2⟩
      · rename_i hag
        rw [hag] at hagg
        obtain ⟨cells, g1, g2, g3⟩ := getB_some h
        split at g3
        · rename_i av hcs
          obtain ⟨avs, e1, e2, e3⟩ := resA_ok hty l _ g3
          refine ⟨_, e1, by simp [e2], fun a m w hT hs => ?_⟩
          obtain ⟨vs, q1, q2⟩ := e3 a m w hT hs
          obtain ⟨v, hv1, hv2⟩ := hT t _ htm
          rw [RV] at hv2
          obtain ⟨rb, hm, rfl⟩ := hv2
          obtain ⟨us, u1, u2, u3⟩ := get_rv (P := P) hs g1 hm g2
          obtain ⟨u, rfl, u4⟩ := u3 rfl
          rw [hcs, RVs] at u2
          obtain ⟨u', l', x1, x2, _⟩ := u2
          simp only [List.cons.injEq] at x1
          obtain ⟨rfl, _⟩ := x1
          refine ⟨u :: vs, ?_, ?_⟩
          · simp [List.mapM_cons, resF, Array.getD_eq_getD_getElem?, hv1, asAddr, loadVar, hagg, load, Sem.run, u4, q1]
          · rw [RVs]
            exact ⟨_, _, rfl, x2, q2⟩
        · cases g3
    · cases h

theorem results_ok {fn : Func} {a : Act} {m : Nm} {w : World} {avs : List AV} {vs : List Value} (h : (fn.results.toList.mapM (resF a.tmps)).run P w = .ok vs w) (hv : RVs m w avs vs) :
    ∃ v, (results fn a.tmps).run P w = .ok v w ∧ RV m w (tupA avs) v := by
  refine ⟨match vs with | [v] => v | vs => .tuple vs.toArray, ?_, ?_⟩
  · rw [results_eq, Array.mapM_eq_mapM_toList]
    simp only [Sem.run_bind, Sem.run_map, h, Result.andThen_ok]
    match vs with
    | [] => simp
    | [v] => simp
    | v :: u :: l => simp
  · match avs, vs, hv with
    | [], vs, hv => rw [RVs] at hv; subst hv; simp only [tupA]; rw [RV]; exact ⟨[], rfl, by rw [RVs]⟩
    | [x], vs, hv =>
      rw [RVs] at hv
      obtain ⟨v, l, rfl, h2, h3⟩ := hv
      rw [RVs] at h3
      subst h3
      exact h2
    | x :: y :: l, vs, hv =>
      have hlen := hv.length
      match vs, hv, hlen with
      | [], hv, hlen => simp at hlen
      | [v], hv, hlen => simp at hlen
      | v :: u :: l', hv, _ => simp only [tupA]; rw [RV]; exact ⟨_, rfl, hv⟩

/-- The parameters in their temporaries. -/
def initT : List AV → Nat → Tr AV → (Tr AV → Option β) → Option β
  | [], _, tm, k => k tm
  | a :: l, i, tm, k => Tr.setK Tr.depth tm i (some a) fun tm => initT l (i + 1) tm k

theorem initT_some : ∀ (l : List AV) (i : Nat) (tm : Tr AV) (k : Tr AV → Option β), initT l i tm k = some r → ∃ tm', k tm' = some r ∧ ∀ t, tm'.get t = if i ≤ t ∧ t < i + l.length then l[t - i]? else tm.get t
  | [], i, tm, k, h => ⟨tm, h, fun t => by rw [if_neg (by simp only [List.length_nil]; omega)]⟩
  | a :: l, i, tm, k, h => by
    obtain ⟨t1, h1, h2, h3⟩ := Tr.setK_some _ _ _ _ _ _ h
    obtain ⟨tm', h4, h5⟩ := initT_some l (i + 1) t1 k h1
    refine ⟨tm', h4, fun t => ?_⟩
    rw [h5]
    simp only [List.length_cons]
    by_cases ht : t = i
    · subst ht
      rw [if_neg (by omega), if_pos (by omega), h2]
      simp
    · by_cases h6 : i + 1 ≤ t ∧ t < i + 1 + l.length
      · rw [if_pos h6, if_pos (by omega), show t - i = (t - (i + 1)) + 1 by omega]
        simp
      · rw [if_neg h6, if_neg (by omega), h3 t ht]

/-- Functions; n levels of calls. -/
def callA (E : Env) (fuel : Nat) (reg : (FuncId → List AV → Hp → Option (AV × Hp)) → Nat → Array Oper → Bool → Tr AV → Hp → Option (Tr AV × Hp)) : Nat → FuncId → List AV → Hp → Option (AV × Hp)
  | 0, _, _, _ => none
  | d + 1, f, args, st => match E.ext f args with
    | some av => forceAV av fun av => some (av, st)
    | none => match E.fn.get f with
    | none => none
    | some (n, res, code) => match E.prim f st.h args with
      | some av => forceAV av fun av => some (av, st)
      | none => if args.length ≤ n then initT args 0 .lf fun tm => match codeA (reg (callA E fuel reg d) n) fuel code tm st with
          | some (.nrm, tm, st) => resA E tm st res fun vs => some (tupA vs, st)
          | some (.ret, tm, st) => resA E tm st res fun vs => some (tupA vs, st)
          | _ => none
        else none

/-- The table of functions is the program's. -/
def FnOK (P : Program) (E : Env) (chk : Array Oper → Bool) : Prop :=
  ∀ f n res code, E.fn.get f = some (n, res, code) → ∃ fn, P.funcs[f]? = some fn ∧ fn.body = some code ∧ fn.ntmps = n ∧ fn.results.toList = res ∧ (fn.name == "runtime.NumGoroutine") = false ∧ goodC chk code = true

/-- What is taken for granted of some functions has been proved. -/
def PrimOK (P : Program) (E : Env) : Prop :=
  (∀ f args av, E.ext f args = some av → (∃ fn, P.funcs[f]? = some fn ∧ fn.body = none) ∧ ∀ (m : Nm) (w : World) (vals : List Value), RVs m w args vals → ∃ v, (callFunc f vals.toArray).run P w = .ok (.value v) w ∧ RV m w av v) ∧
  ∀ f h args av, E.prim f h args = some av → ∀ (m : Nm) (w : World) (vals : List Value), RVs m w args vals → RS m w h.get →
    Calls P f vals.toArray w fun e w' => ∃ v, e = .returned v ∧ RV m w' av v ∧ Below w.heap.size w w'

theorem below_to {m : Nm} {w w' : World} {h : Hf} (hs : RS m w h) (hb : Below w.heap.size w w') : RS m w' h ∧ To m h w m h w' := by
  have hold : ∀ (b : Nat) (o : Obj), w.heap[b]? = some o → w'.heap[b]? = some o := fun b o ho => by rw [hb.block b (heap_lt ho)]; exact ho
  have hto : To m h w m h w' := ⟨Ext.rfl' _, ⟨hb.size, fun b c e f hx => ⟨c, f, hold b _ hx, rfl⟩⟩, fun a n ha => by
    unfold World.cell? at ha ⊢
    cases hx : w.heap[a.block]? with
    | none => rw [hx] at ha; cases ha
    | some o => rw [hold _ _ hx]; rw [hx] at ha; exact ha, ⟨hb.os, hb.tape, hb.output⟩, fun rb hr _ => hb.block rb hr, fun b rb h1 h2 => .inr ⟨b, h1, h2⟩⟩
  exact ⟨⟨fun b cells rb h1 h2 => by
    obtain ⟨o, q1, q2⟩ := hs.obj b cells rb h1 h2
    exact ⟨o, hold _ _ q1, q2.to hto⟩, hs.inj, hs.glob.to hto⟩, hto⟩

theorem callA_ok {fuel : Nat} {reg : (FuncId → List AV → Hp → Option (AV × Hp)) → Nat → Array Oper → Bool → Tr AV → Hp → Option (Tr AV × Hp)} (hty : ∀ t ti, E.ty.get t = some ti → TyOK P t ti) {chk : Array Oper → Bool} (hfn : FnOK P E chk) (hpr : PrimOK P E)
    (hreg : ∀ call n, CallOK P call → RegOK P chk n (reg call n)) : ∀ d, CallOK P (callA E fuel reg d)
  | 0 => fun g args st av st' h => by cases h
  | d + 1 => fun g args st av st' h => by
    have ih := callA_ok (fuel := fuel) hty hfn hpr hreg d
    rw [callA] at h
    split at h
    · rename_i av' hx
      rw [forceAV_eq] at h
      simp only [Option.some.injEq, Prod.mk.injEq] at h
      obtain ⟨rfl, rfl⟩ := h
      exact .inr ⟨rfl, (hpr.1 _ _ _ hx).1, fun m w vals hv => (hpr.1 _ _ _ hx).2 m w vals hv⟩
    refine .inl ?_
    split at h
    · cases h
    · rename_i n res code hf
      obtain ⟨fn, f1, f2, f3, f4, f5, f6⟩ := hfn _ _ _ _ hf
      split at h
      · rename_i av' hp
        rw [forceAV_eq] at h
        simp only [Option.some.injEq, Prod.mk.injEq] at h
        obtain ⟨rfl, rfl⟩ := h
        refine ⟨Heaps.rfl' _, ⟨fn, f1, by rw [f2]; rfl, f5⟩, fun m w vals hv hs _ _ => ?_⟩
        refine (hpr.2 _ _ _ _ hp m w vals hv hs).mono ?_
        rintro e w' ⟨v, rfl, q1, q2⟩
        obtain ⟨q3, q4⟩ := below_to hs q2
        exact ⟨v, m, rfl, q1, q3, q4, Same.rfl' _ _ _⟩
      · split at h
        · rename_i hle
          obtain ⟨tm, h1, h2⟩ := initT_some _ _ _ _ h
          have main : ∀ (x : Ex) (tm' : Tr AV) (st1 : Hp), codeA (reg (callA E fuel reg d) n) fuel code tm st = some (x, tm', st1) → (x = .nrm ∨ x = .ret) → (resA E tm' st1 res fun vs => some (tupA vs, st1)) = some (av, st') →
              Heaps st st' ∧ (∃ fn, P.funcs[g]? = some fn ∧ fn.body.isNone = false ∧ (fn.name == "runtime.NumGoroutine") = false) ∧
              ∀ (m : Nm) (w : World) (vals : List Value), RVs m w args vals → RS m w st.h.get → Dom st → Fresh m st.nx st'.nx →
                Calls P g vals.toArray w fun e w' => ∃ v m', e = .returned v ∧ RV m' w' av v ∧ RS m' w' st'.h.get ∧ To m st.h.get w m' st'.h.get w' ∧ Same m m' st.nx st'.nx := by
            intro x tm' st1 hcode hx hres
            obtain ⟨g1, g2⟩ := code_ok (hreg _ n ih) code f6 tm st x tm' st1 hcode
            obtain ⟨avs, e1, e2, e3⟩ := resA_ok hty res _ hres
            simp only [Option.some.injEq, Prod.mk.injEq] at e1
            obtain ⟨rfl, rfl⟩ := e1
            refine ⟨g1, ⟨fn, f1, by rw [f2]; rfl, f5⟩, fun m w vals hv hs hd hfr => ?_⟩
            have hlen := hv.length
            refine calls_of_wp f1 f2 ?_
            rw [f3]
            have hT : RT m w tm { tmps := vals.toArray ++ Array.replicate (n - vals.toArray.size) undef, defers := [] } := fun t a ht => by
              rw [h2] at ht
              split at ht
              · rename_i htl
                rw [Nat.sub_zero] at ht
                obtain ⟨v, q1, q2⟩ := hv.get ht
                refine ⟨v, ?_, q2⟩
                have : t < vals.length := (List.getElem?_eq_some_iff.1 q1).1
                show (vals.toArray ++ _)[t]? = _
                rw [Array.getElem?_append_left (by simpa using this)]
                simpa using q1
              · rw [Tr.get_lf] at ht; cases ht
            refine g2 _ m w hT hs hd (by simp; omega) hfr (fun a' w' => a'.defers = [] ∧ ∃ v, (results fn a'.tmps).run P w' = .ok v w' ∧ ∃ m', RV m' w' (tupA avs) v ∧ RS m' w' st1.h.get ∧ To m st.h.get w m' st1.h.get w' ∧ Same m m' st.nx st1.nx)
              (fun a' m' w' q1 q2 q3 q4 q5 q6 => ?_) _ fun a' w' hk => ?_
            · obtain ⟨vs, u1, u2⟩ := e3 a' m' w' q1 q2
              rw [← f4] at u1
              obtain ⟨v, u3, u4⟩ := results_ok u1 u2
              exact ⟨q4, v, u3, m', u4, q2, q5, q6⟩
            · obtain ⟨k1, v, k2, m', k3, k4, k5, k6⟩ := hk
              rcases hx with rfl | rfl
              · exact ⟨k1, v, k2, v, m', rfl, k3, k4, k5, k6⟩
              · exact ⟨k1, v, k2, v, m', rfl, k3, k4, k5, k6⟩
          split at h1
          · exact main _ _ _ ‹_› (.inl rfl) h1
          · exact main _ _ _ ‹_› (.inr rfl) h1
          · cases h1
        · cases h
end
end Go.Sx
