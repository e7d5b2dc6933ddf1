/-
  For every two strings the statement about sums (Check, Add, Sub, Mul, Div and Order of package number answer as the reference does, errors included) returns true, and leaves its arguments as they were.
  Conditions: none but those of the given row (the library's tables are laid as the program's text lays them; the card ties them).
-/
import Derived.Test.YtiohhcljhadgcaaGreatDoorRowSumsB
set_option linter.unusedSectionVars false
set_option linter.unusedVariables false
set_option linter.unusedSimpArgs false
set_option maxRecDepth 100000
namespace Go.Proofs.YtiohhcljhadgcaaGreatDoor
open Go.ChangeShapes Go.WideShapes Go.ChangeAt Go.RowKit
theorem k5Sums : false = Rows.numberSumsRow.goesBy Tryz.prog := by kernel_rfl
theorem k2Sums : Tryz.prog.mainIs = some (Rows.numberSumsCard.stood.harness.1, Rows.numberSumsCard.stood.harness.2.toList) := by kernel_rfl
theorem k3Sums : false = Tryz.prog.looks [] := by kernel_rfl
theorem k4Sums : ([22,22].all fun u => !Tryz.prog.wantsStandIn u) = true := by kernel_rfl
theorem k1Sums : Rows.numberSumsRow.wfByText (OpenSpec.ofChange Rows.numberSumsSpec) = true := by kernel_rfl
theorem cardSums:Rows.NumberSumsCardSaid:=
 Claim7.holds_tied_plain_at .later [] [.data,.data,.data] true Rows.numberSumsCard.stood.harness false zw (fun _ h=>by cases h) (k1Sums) (fun _ h=>by cases h) numberSums_row_tie rfl ⟨rfl,rfl⟩ (k2Sums) rfl
  (fun f fn hf hfn=>by
   obtain rfl : f = 3 := Option.some.inj ((show Tryz.prog.funcNamed "lenslet/lensletlaw01.NumberSums" = some 3 by kernel_rfl).symm.trans hf) |>.symm
   obtain rfl:fn=Tryz.f3:=(Option.some.inj (Tryz.func3.symm.trans hfn)).symm
   exact⟨k3Sums,fun j t ht=>by
    rw[Tryz.params3] at ht
    have hm:t∈[22,22]:=by simpa using Array.mem_of_getElem? ht
    have hall:([22,22].all fun u=>!Tryz.prog.wantsStandIn u)=true:=k4Sums
    exact (show Tryz.prog.wantsStandIn t=false by simpa using List.all_eq_true.1 hall t hm)⟩)
  (k5Sums)
#print axioms cardSums
end Go.Proofs.YtiohhcljhadgcaaGreatDoor
