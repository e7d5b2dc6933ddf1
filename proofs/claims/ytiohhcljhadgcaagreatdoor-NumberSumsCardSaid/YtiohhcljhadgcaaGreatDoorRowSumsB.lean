import Derived.Test.YtiohhcljhadgcaaGreatDoorRowSumsC
import Derived.Test.YtiohhcljhadgcaaGreatDoorRowSumsD
set_option linter.unusedSectionVars false
set_option linter.unusedVariables false
set_option linter.unusedSimpArgs false
set_option maxRecDepth 100000
namespace Go.Proofs.YtiohhcljhadgcaaGreatDoor
open Go.ChangeShapes Go.WideShapes Go.ChangeAt Go.RowKit
theorem closedSums : joinedFacts Tryz.prog 3 Tryz.f3 Rows.numberSumsSpec Rows.numberSumsRow = true := by
  unfold joinedFacts
  rw [q1Sums, q2Sums, q3Sums, q4Sums]
  kernel_rfl
theorem zw:Rows.NumberSumsSaid:=
 OpenClaim.holds_of_wide 3 Tryz.f3 rfl rfl rfl rfl rfl rfl rfl ⟨rfl,rfl,rfl,rfl,rfl⟩ rfl rfl rfl rfl rfl (by kernel_rfl) Tryz.func3 closedSums
  (of_decide_eq_true (by kernel_rfl)) (by unfold Func.isWrapper;first|(rw[if_pos (by decide +kernel)];kernel_rfl)|(rw[if_neg (by decide +kernel)];exact⟨rfl,rfl⟩))
  (fun os started H enc _=>tY os started H enc)
end Go.Proofs.YtiohhcljhadgcaaGreatDoor
