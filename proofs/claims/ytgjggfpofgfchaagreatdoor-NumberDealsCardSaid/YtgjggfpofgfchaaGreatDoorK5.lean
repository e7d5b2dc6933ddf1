import Derived.Test.YtgjggfpofgfchaaGreatDoorMemo
set_option linter.unusedSectionVars false
set_option linter.unusedVariables false
set_option linter.unusedSimpArgs false
namespace Go.Sx.Seat
open Go
theorem aw : ranB (withR E known) 1000 60 5 [] (.bool true) = true := by kernel_rfl
end Go.Sx.Seat
