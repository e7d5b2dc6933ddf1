/-
  For every string, every pair of integers and every string of a number the statement about forms (IsName, Of and Floor of package number answer as the reference does, errors included) returns true, and leaves its arguments as they were.
  Conditions: none but those of the given row (the library's tables are laid as the program's text lays them; the card ties them).
-/
import Derived.Test.YtnjcdpfibmckmaaGreatDoorRowFormsB
set_option linter.unusedSectionVars false
set_option linter.unusedVariables false
set_option linter.unusedSimpArgs false
set_option maxRecDepth 100000
namespace Go.Proofs.YtnjcdpfibmckmaaGreatDoor
open Go.ChangeShapes Go.WideShapes Go.ChangeAt Go.RowKit
theorem cardForms:Rows.NumberFormsCardSaid:=
 Claim7.holds_tied_plain_at .later [] [.data,.data,.data] true Rows.numberFormsCard.stood.harness false xG (fun _ h=>by cases h) (by kernel_rfl) (fun _ h=>by cases h) numberForms_row_tie rfl ⟨rfl,rfl⟩ (by kernel_rfl) rfl
  (fun f fn hf hfn=>by
   obtain rfl : f = 3 := Option.some.inj ((show Tryz.prog.funcNamed "lenslet/lensletlaw01.NumberForms" = some 3 by kernel_rfl).symm.trans hf) |>.symm
   obtain rfl:fn=Tryz.f3:=(Option.some.inj (Tryz.func3.symm.trans hfn)).symm
   exact⟨by kernel_rfl,fun j t ht=>by
    rw[Tryz.params3] at ht
    have hm:t∈[9,22,23]:=by simpa using Array.mem_of_getElem? ht
    have hall:([9,22,23].all fun u=>!Tryz.prog.wantsStandIn u)=true:=by kernel_rfl
    exact (show Tryz.prog.wantsStandIn t=false by simpa using List.all_eq_true.1 hall t hm)⟩)
  (by kernel_rfl)
#print axioms cardForms
end Go.Proofs.YtnjcdpfibmckmaaGreatDoor
