/-
  For every two boxes the statement about the functions on boxes (CheckBox, AddBox, MulBox, Conjugate and Norm return what the reference returns, or the first error) returns true, and leaves its arguments as they were.
  Conditions: none but those of the given row (the library's tables are laid as the program's text lays them; the card ties them).
-/
import Derived.Test.YtjbcmmaniphkkaaGreatDoorRowBoxB
set_option linter.unusedSectionVars false
set_option linter.unusedVariables false
set_option linter.unusedSimpArgs false
set_option maxRecDepth 100000
namespace Go.Proofs.YtjbcmmaniphkkaaGreatDoor
open Go.ChangeShapes Go.WideShapes Go.ChangeAt Go.RowKit
theorem cardBoxes:Rows.NumberBoxesCardSaid:=
 Claim7.holds_tied_plain_at .later [] [.data,.data,.data] true Rows.numberBoxesCard.stood.harness false Bo (fun _ h=>by cases h) (by kernel_rfl) (fun _ h=>by cases h) numberBoxes_row_tie rfl ⟨rfl,rfl⟩ (by kernel_rfl) rfl
  (fun f fn hf hfn=>by
   obtain rfl : f = 4 := Option.some.inj ((show Tryz.prog.funcNamed "lenslet/lensletlaw01.NumberBoxes" = some 4 by kernel_rfl).symm.trans hf) |>.symm
   obtain rfl:fn=Tryz.f4:=(Option.some.inj (Tryz.func4.symm.trans hfn)).symm
   exact⟨by kernel_rfl,fun j t ht=>by
    rw[Tryz.params4] at ht
    have hm:t∈[50,50]:=by simpa using Array.mem_of_getElem? ht
    have hall:([50,50].all fun u=>!Tryz.prog.wantsStandIn u)=true:=by kernel_rfl
    exact (show Tryz.prog.wantsStandIn t=false by simpa using List.all_eq_true.1 hall t hm)⟩)
  (by kernel_rfl)
#print axioms cardBoxes
end Go.Proofs.YtjbcmmaniphkkaaGreatDoor
