import Derived.Test.YtjbcmmaniphkkaaGreatDoorSeatTab
set_option linter.unusedSectionVars false
set_option linter.unusedVariables false
set_option linter.unusedSimpArgs false
namespace Go.Sx.Seat
open Go Go.Proofs
theorem Km:Tr.Fa (fun t ti=>tyI Tryz.prog t=some ti) tyT:=by
 unfold tyT
 repeat' first
  | exact trivial
  |(show tyI _ _=_;kernel_rfl)
  | refine ⟨?_,?_,?_⟩
end Go.Sx.Seat
namespace Go.Sx.Seat
open Go Go.Proofs
variable [Unk]
theorem FnI.cf {P : Program} {f : FuncId} {fn : Func} {n : Nat} (h1 : P.funcs[f]? = some fn) (h2 : fn.body.isSome = true) (h3 : fn.ntmps = n) (h5 : (fn.name == "runtime.NumGoroutine") = false) (h6 : cL ff (fn.body.getD .skip) = true) : FnI P f (cf fn n) := by
 refine ⟨fn,h1,?_,h3,rfl,h5,h6⟩
 show fn.body=some (fn.body.getD .skip)
 cases hb:fn.body with
 | none=>rw[hb] at h2;cases h2
 | some c=>rfl
theorem Jm:Tr.Fa (FnI Tryz.prog) fnT:=by
 unfold fnT
 repeat' first
  | exact trivial
  |(refine FnI.cf ?_ ?_ ?_ ?_ ?_<;>kernel_rfl)
  | refine ⟨?_,?_,?_⟩
end Go.Sx.Seat
