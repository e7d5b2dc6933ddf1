import Derived.Test.YtiohhcljhadgcaaGreatDoorRowSumsA
set_option linter.unusedVariables false
set_option maxRecDepth 100000
set_option maxHeartbeats 8000000
namespace Go.Proofs.YtiohhcljhadgcaaGreatDoor
open Go.ChangeShapes Go.WideShapes Go.ChangeAt Go.RowKit
theorem q1Sums : (Rows.numberSumsRow.inPlace == Tryz.prog.inPlace 3) = true := by kernel_rfl
theorem q2Sums : (Rows.numberSumsRow.unfollowed == Tryz.prog.unfollowed 3) = true := by kernel_rfl
end Go.Proofs.YtiohhcljhadgcaaGreatDoor
