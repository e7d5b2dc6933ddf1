/-
  For every two spans and every part of them the statement about the members of spans (what lies in them lies in the results of Plus, Minus, Times and Over; Compare tells their order, or that it is open) returns true, and leaves its arguments as they were.
  Conditions: none but those of the given row (the library's tables are laid as the program's text lays them; the card ties them).
-/
import Derived.Test.YtnjcdpfibmckmaaGreatDoorRowEncB
set_option linter.unusedSectionVars false
set_option linter.unusedVariables false
set_option linter.unusedSimpArgs false
set_option maxRecDepth 100000
namespace Go.Proofs.YtnjcdpfibmckmaaGreatDoor
open Go.ChangeShapes Go.WideShapes Go.ChangeAt Go.RowKit
theorem cardEncloses:Rows.NumberEnclosesCardSaid:=
 Claim7.holds_tied_plain_at .later [] [.data,.data,.data] true Rows.numberEnclosesCard.stood.harness false tf (fun _ h=>by cases h) (by kernel_rfl) (fun _ h=>by cases h) numberEncloses_row_tie rfl ⟨rfl,rfl⟩ (by kernel_rfl) rfl
  (fun f fn hf hfn=>by
   obtain rfl : f = 4 := Option.some.inj ((show Tryz.prog.funcNamed "lenslet/lensletlaw01.NumberEncloses" = some 4 by kernel_rfl).symm.trans hf) |>.symm
   obtain rfl:fn=Tryz.f4:=(Option.some.inj (Tryz.func4.symm.trans hfn)).symm
   exact⟨by kernel_rfl,fun j t ht=>by
    rw[Tryz.params4] at ht
    have hm:t∈[36,36,38]:=by simpa using Array.mem_of_getElem? ht
    have hall:([36,36,38].all fun u=>!Tryz.prog.wantsStandIn u)=true:=by kernel_rfl
    exact (show Tryz.prog.wantsStandIn t=false by simpa using List.all_eq_true.1 hall t hm)⟩)
  (by kernel_rfl)
#print axioms cardEncloses
end Go.Proofs.YtnjcdpfibmckmaaGreatDoor
