/-
  For every two boxes and every corner of them the statement about the members of boxes (what lies in them lies in the results of AddBox, MulBox, Conjugate and Norm) returns true, and leaves its arguments as they were.
  Conditions: none but those of the given row (the library's tables are laid as the program's text lays them; the card ties them).
-/
import Derived.Test.YtnjcdpfibmckmaaGreatDoorRowMemB
set_option linter.unusedSectionVars false
set_option linter.unusedVariables false
set_option linter.unusedSimpArgs false
set_option maxRecDepth 100000
namespace Go.Proofs.YtnjcdpfibmckmaaGreatDoor
open Go.ChangeShapes Go.WideShapes Go.ChangeAt Go.RowKit
theorem cardMembers:Rows.NumberMembersCardSaid:=
 Claim7.holds_tied_plain_at .later [] [.data,.data,.data] true Rows.numberMembersCard.stood.harness false qaD (fun _ h=>by cases h) (by kernel_rfl) (fun _ h=>by cases h) numberMembers_row_tie rfl ⟨rfl,rfl⟩ (by kernel_rfl) rfl
  (fun f fn hf hfn=>by
   obtain rfl : f = 5 := Option.some.inj ((show Tryz.prog.funcNamed "lenslet/lensletlaw01.NumberMembers" = some 5 by kernel_rfl).symm.trans hf) |>.symm
   obtain rfl:fn=Tryz.f5:=(Option.some.inj (Tryz.func5.symm.trans hfn)).symm
   exact⟨by kernel_rfl,fun j t ht=>by
    rw[Tryz.params5] at ht
    have hm:t∈[51,51,53]:=by simpa using Array.mem_of_getElem? ht
    have hall:([51,51,53].all fun u=>!Tryz.prog.wantsStandIn u)=true:=by kernel_rfl
    exact (show Tryz.prog.wantsStandIn t=false by simpa using List.all_eq_true.1 hall t hm)⟩)
  (by kernel_rfl)
end Go.Proofs.YtnjcdpfibmckmaaGreatDoor
