import Derived.Test.YtiohhcljhadgcaaGreatDoorRowSumsA
set_option linter.unusedVariables false
set_option maxRecDepth 100000
set_option maxHeartbeats 8000000
namespace Go.Proofs.YtiohhcljhadgcaaGreatDoor
open Go.ChangeShapes Go.WideShapes Go.ChangeAt Go.RowKit
theorem q3Sums : (Rows.numberSumsRow.recurses == Tryz.prog.recurses 3) = true := by kernel_rfl
theorem q4Sums : (Rows.numberSumsRow.named == Tryz.prog.varsNamed 3) = true := by kernel_rfl
end Go.Proofs.YtiohhcljhadgcaaGreatDoor
