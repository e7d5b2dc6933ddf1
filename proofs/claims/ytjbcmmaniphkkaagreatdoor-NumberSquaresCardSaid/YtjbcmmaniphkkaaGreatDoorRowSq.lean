/-
  For every two strings and every integer the statement about roots (a number lies between the squares of both ends of its root, which are at most 10^-k apart; the root with more decimals lies in it; the root of a square is exact) returns true, and leaves its arguments as they were.
  Conditions: none but those of the given row (the library's tables are laid as the program's text lays them; the card ties them).
-/
import Derived.Test.YtjbcmmaniphkkaaGreatDoorRowSqB
set_option linter.unusedSectionVars false
set_option linter.unusedVariables false
set_option linter.unusedSimpArgs false
set_option maxRecDepth 100000
namespace Go.Proofs.YtjbcmmaniphkkaaGreatDoor
open Go.ChangeShapes Go.WideShapes Go.ChangeAt Go.RowKit
theorem cardSquares:Rows.NumberSquaresCardSaid:=
 Claim7.holds_tied_plain_at .later [] [.data,.data,.data] true Rows.numberSquaresCard.stood.harness false vO (fun _ h=>by cases h) (by kernel_rfl) (fun _ h=>by cases h) numberSquares_row_tie rfl ⟨rfl,rfl⟩ (by kernel_rfl) rfl
  (fun f fn hf hfn=>by
   obtain rfl : f = 5 := Option.some.inj ((show Tryz.prog.funcNamed "lenslet/lensletlaw01.NumberSquares" = some 5 by kernel_rfl).symm.trans hf) |>.symm
   obtain rfl:fn=Tryz.f5:=(Option.some.inj (Tryz.func5.symm.trans hfn)).symm
   exact⟨by kernel_rfl,fun j t ht=>by
    rw[Tryz.params5] at ht
    have hm:t∈[22,22,3]:=by simpa using Array.mem_of_getElem? ht
    have hall:([22,22,3].all fun u=>!Tryz.prog.wantsStandIn u)=true:=by kernel_rfl
    exact (show Tryz.prog.wantsStandIn t=false by simpa using List.all_eq_true.1 hall t hm)⟩)
  (by kernel_rfl)
#print axioms cardSquares
end Go.Proofs.YtjbcmmaniphkkaaGreatDoor
