import Derived.Test.YtjbcmmaniphkkaaGreatDoorEa
set_option linter.unusedSectionVars false
set_option linter.unusedVariables false
set_option linter.unusedSimpArgs false
namespace Go.Proofs.YtjbcmmaniphkkaaGreatDoor.E
open Go.RowKit LimbNum
end Go.Proofs.YtjbcmmaniphkkaaGreatDoor.E
