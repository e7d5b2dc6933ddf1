import Derived.Test.YtgjggfpofgfchaaGreatDoorMemo
import Derived.Test.YtgjggfpofgfchaaGreatDoorK5
import Derived.Test.YtgjggfpofgfchaaGreatDoorSeatty
import Derived.Test.YtgjggfpofgfchaaGreatDoorSeatfn
import Derived.Test.YtgjggfpofgfchaaGreatDoorSeatpr
set_option linter.unusedSectionVars false
set_option linter.unusedVariables false
set_option linter.unusedSimpArgs false
namespace Go.Sx.Seat
open Go Go.Proofs
theorem mixed : Tryz.prog.follows .mixedOrders = true := by kernel_rfl
theorem ty_ok : ∀ t ti, E.ty.get t = some ti → TyOK Tryz.prog t ti := tyOK_of tyT_ok
theorem fn_ok : FnOK Tryz.prog E chkS := fnOK_of fnT_ok
theorem bo5 : ∀ fn, Tryz.prog.funcs[5]? = some fn → fn.body.isNone = false := fun fn h => by rw [Tryz.func5] at h; cases h; kernel_rfl
theorem bo11 : ∀ fn, Tryz.prog.funcs[11]? = some fn → fn.body.isNone = false := fun fn h => by rw [Tryz.func11] at h; cases h; kernel_rfl
theorem bo12 : ∀ fn, Tryz.prog.funcs[12]? = some fn → fn.body.isNone = false := fun fn h => by rw [Tryz.func12] at h; cases h; kernel_rfl
theorem bo13 : ∀ fn, Tryz.prog.funcs[13]? = some fn → fn.body.isNone = false := fun fn h => by rw [Tryz.func13] at h; cases h; kernel_rfl
theorem bo15 : ∀ fn, Tryz.prog.funcs[15]? = some fn → fn.body.isNone = false := fun fn h => by rw [Tryz.func15] at h; cases h; kernel_rfl
theorem bo16 : ∀ fn, Tryz.prog.funcs[16]? = some fn → fn.body.isNone = false := fun fn h => by rw [Tryz.func16] at h; cases h; kernel_rfl
theorem bo17 : ∀ fn, Tryz.prog.funcs[17]? = some fn → fn.body.isNone = false := fun fn h => by rw [Tryz.func17] at h; cases h; kernel_rfl
theorem bo18 : ∀ fn, Tryz.prog.funcs[18]? = some fn → fn.body.isNone = false := fun fn h => by rw [Tryz.func18] at h; cases h; kernel_rfl
theorem bo19 : ∀ fn, Tryz.prog.funcs[19]? = some fn → fn.body.isNone = false := fun fn h => by rw [Tryz.func19] at h; cases h; kernel_rfl
theorem bo20 : ∀ fn, Tryz.prog.funcs[20]? = some fn → fn.body.isNone = false := fun fn h => by rw [Tryz.func20] at h; cases h; kernel_rfl
theorem bo21 : ∀ fn, Tryz.prog.funcs[21]? = some fn → fn.body.isNone = false := fun fn h => by rw [Tryz.func21] at h; cases h; kernel_rfl
theorem bo22 : ∀ fn, Tryz.prog.funcs[22]? = some fn → fn.body.isNone = false := fun fn h => by rw [Tryz.func22] at h; cases h; kernel_rfl
theorem bo24 : ∀ fn, Tryz.prog.funcs[24]? = some fn → fn.body.isNone = false := fun fn h => by rw [Tryz.func24] at h; cases h; kernel_rfl
theorem bo25 : ∀ fn, Tryz.prog.funcs[25]? = some fn → fn.body.isNone = false := fun fn h => by rw [Tryz.func25] at h; cases h; kernel_rfl
theorem bo28 : ∀ fn, Tryz.prog.funcs[28]? = some fn → fn.body.isNone = false := fun fn h => by rw [Tryz.func28] at h; cases h; kernel_rfl
theorem bo29 : ∀ fn, Tryz.prog.funcs[29]? = some fn → fn.body.isNone = false := fun fn h => by rw [Tryz.func29] at h; cases h; kernel_rfl
theorem known_ok : ∀ x ∈ known, Ran Tryz.prog x := by
  unfold known
  simp only [List.forall_mem_cons]
  exact ⟨Ran.of mixed ty_ok fn_ok prim_ok bo11 r0, Ran.of mixed ty_ok fn_ok prim_ok bo12 r1, Ran.of mixed ty_ok fn_ok prim_ok bo13 r2, Ran.of mixed ty_ok fn_ok prim_ok bo15 r3, Ran.of mixed ty_ok fn_ok prim_ok bo16 r4, Ran.of mixed ty_ok fn_ok prim_ok bo17 r5, Ran.of mixed ty_ok fn_ok prim_ok bo17 r6, Ran.of mixed ty_ok fn_ok prim_ok bo18 r7, Ran.of mixed ty_ok fn_ok prim_ok bo19 r8, Ran.of mixed ty_ok fn_ok prim_ok bo19 r9, Ran.of mixed ty_ok fn_ok prim_ok bo20 r10, Ran.of mixed ty_ok fn_ok prim_ok bo21 r11, Ran.of mixed ty_ok fn_ok prim_ok bo22 r12, Ran.of mixed ty_ok fn_ok prim_ok bo24 r13, Ran.of mixed ty_ok fn_ok prim_ok bo25 r14, Ran.of mixed ty_ok fn_ok prim_ok bo28 r15, Ran.of mixed ty_ok fn_ok prim_ok bo29 r16, Ran.of mixed ty_ok fn_ok prim_ok bo28 r17, fun x h => by cases h⟩
theorem awake_ok : Ran Tryz.prog (5, [], .bool true) := Ran.of (E := withR E known) mixed ty_ok fn_ok (withR_ok prim_ok known_ok) bo5 aw
end Go.Sx.Seat
