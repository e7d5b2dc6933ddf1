import Derived.Test.YtnjcdpfibmckmaaGreatDoorEb
set_option linter.unusedSectionVars false
set_option linter.unusedVariables false
set_option linter.unusedSimpArgs false
namespace Go.Proofs.YtnjcdpfibmckmaaGreatDoor.E
open Go.RowKit LimbNum
end Go.Proofs.YtnjcdpfibmckmaaGreatDoor.E
