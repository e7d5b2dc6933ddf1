import Derived.Test.YtnjcdpfibmckmaaGreatDoorRk
set_option linter.unusedSectionVars false
set_option linter.unusedVariables false
set_option linter.unusedSimpArgs false
namespace Go.Proofs.YtnjcdpfibmckmaaGreatDoor.D
open Go.RowKit DigNum
end Go.Proofs.YtnjcdpfibmckmaaGreatDoor.D
