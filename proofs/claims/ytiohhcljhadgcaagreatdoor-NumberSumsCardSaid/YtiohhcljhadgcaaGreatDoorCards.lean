/-
  DERIVED. GIVEN WITH THE SEED: THE CARDS: each row of YtiohhcljhadgcaaGreatDoorRows.lean that lists a variable, with what it lists TIED to the program's text (the seventh form; the later family's looks); each row that meets fmt, with fmt's text TOLD by the authors' own Lean function (tested against real Go, not proved from fmt's source: count such statements apart). THE CARD IS WHAT COUNTS. Prove the row's statement (the work); the ties are given (YtiohhcljhadgcaaGreatDoorTie.lean); close each card by the builder's one call (the guide's Derived/Test/ToyasCard.lean, 'card_holds'). Laid BY PROGRAM, IN A SANDBOX (cutbox-door.mjs). By AI agents, Wed Nov 11 2026. No macro, syntax, notation, axiom, sorry.
-/
import Derived.Test.YtiohhcljhadgcaaGreatDoorRows
import GoSem.ClaimSeven
namespace Go.Proofs.YtiohhcljhadgcaaGreatDoor
namespace Rows

/-- THE TIED CARD OF 'lensletlaw01.NumberSums'. -/
def numberSumsCard : Claim7 := { stood := { row := numberSumsRow, standIns := [], harness := (true, "877daa986298a36966eabaf052723b84f0469916ff7bca1d57c9b8f31b93724e"), looks := false }, kinds := [], alts := [], laidByText := true, laidKinds := [.data, .data, .data], laidTests := true, laidLooks := .later }
def NumberSumsCardSaid : Prop := Claim7.holds Tryz.pinned (.plain (OpenSpec.ofChange numberSumsSpec)) numberSumsCard

/-- THE TIED CARD OF 'lensletlaw01.NumberForms'. -/
def numberFormsCard : Claim7 := { stood := { row := numberFormsRow, standIns := [], harness := (true, "877daa986298a36966eabaf052723b84f0469916ff7bca1d57c9b8f31b93724e"), looks := false }, kinds := [], alts := [], laidByText := true, laidKinds := [.data, .data, .data], laidTests := true, laidLooks := .later }
def NumberFormsCardSaid : Prop := Claim7.holds Tryz.pinned (.plain (OpenSpec.ofChange numberFormsSpec)) numberFormsCard

/-- THE TIED CARD OF 'lensletlaw01.NumberSpans'. -/
def numberSpansCard : Claim7 := { stood := { row := numberSpansRow, standIns := [], harness := (true, "877daa986298a36966eabaf052723b84f0469916ff7bca1d57c9b8f31b93724e"), looks := false }, kinds := [], alts := [], laidByText := true, laidKinds := [.data, .data, .data], laidTests := true, laidLooks := .later }
def NumberSpansCardSaid : Prop := Claim7.holds Tryz.pinned (.plain (OpenSpec.ofChange numberSpansSpec)) numberSpansCard

/-- THE TIED CARD OF 'lensletlaw01.NumberBoxes'. -/
def numberBoxesCard : Claim7 := { stood := { row := numberBoxesRow, standIns := [], harness := (true, "877daa986298a36966eabaf052723b84f0469916ff7bca1d57c9b8f31b93724e"), looks := false }, kinds := [], alts := [], laidByText := true, laidKinds := [.data, .data, .data], laidTests := true, laidLooks := .later }
def NumberBoxesCardSaid : Prop := Claim7.holds Tryz.pinned (.plain (OpenSpec.ofChange numberBoxesSpec)) numberBoxesCard

/-- THE TIED CARD OF 'lensletlaw01.NumberEncloses'. -/
def numberEnclosesCard : Claim7 := { stood := { row := numberEnclosesRow, standIns := [], harness := (true, "877daa986298a36966eabaf052723b84f0469916ff7bca1d57c9b8f31b93724e"), looks := false }, kinds := [], alts := [], laidByText := true, laidKinds := [.data, .data, .data], laidTests := true, laidLooks := .later }
def NumberEnclosesCardSaid : Prop := Claim7.holds Tryz.pinned (.plain (OpenSpec.ofChange numberEnclosesSpec)) numberEnclosesCard

/-- THE TIED CARD OF 'lensletlaw01.NumberMembers'. -/
def numberMembersCard : Claim7 := { stood := { row := numberMembersRow, standIns := [], harness := (true, "877daa986298a36966eabaf052723b84f0469916ff7bca1d57c9b8f31b93724e"), looks := false }, kinds := [], alts := [], laidByText := true, laidKinds := [.data, .data, .data], laidTests := true, laidLooks := .later }
def NumberMembersCardSaid : Prop := Claim7.holds Tryz.pinned (.plain (OpenSpec.ofChange numberMembersSpec)) numberMembersCard

/-- THE TIED CARD OF 'lensletlaw01.NumberSquares'. -/
def numberSquaresCard : Claim7 := { stood := { row := numberSquaresRow, standIns := [], harness := (true, "877daa986298a36966eabaf052723b84f0469916ff7bca1d57c9b8f31b93724e"), looks := false }, kinds := [], alts := [], laidByText := true, laidKinds := [.data, .data, .data], laidTests := true, laidLooks := .later }
def NumberSquaresCardSaid : Prop := Claim7.holds Tryz.pinned (.plain (OpenSpec.ofChange numberSquaresSpec)) numberSquaresCard

/-- THE TIED CARD OF 'lensletlaw01.NumberDraws'. -/
def numberDrawsCard : Claim7 := { stood := { row := numberDrawsRow, standIns := [], harness := (true, "877daa986298a36966eabaf052723b84f0469916ff7bca1d57c9b8f31b93724e"), looks := false }, kinds := [], alts := [], laidByText := true, laidKinds := [.data, .data, .data], laidTests := true, laidLooks := .later }
def NumberDrawsCardSaid : Prop := Claim7.holds Tryz.pinned (.plain (OpenSpec.ofChange numberDrawsSpec)) numberDrawsCard

/-- THE TIED CARD OF 'lensletlaw01.NumberDeals'. -/
def numberDealsCard : Claim7 := { stood := { row := numberDealsRow, standIns := [], harness := (true, "877daa986298a36966eabaf052723b84f0469916ff7bca1d57c9b8f31b93724e"), looks := false }, kinds := [], alts := [], laidByText := true, laidKinds := [.data, .data, .data], laidTests := true, laidLooks := .later }
def NumberDealsCardSaid : Prop := Claim7.holds Tryz.pinned (.plain (OpenSpec.ofChange numberDealsSpec)) numberDealsCard

/-- THE SECOND FORM's CARD OF 'lensletlaw01.NumberSums'. -/
def numberSumsUptoCard : Claim7 := { stood := { row := numberSumsUptoRow, standIns := [], harness := (true, "877daa986298a36966eabaf052723b84f0469916ff7bca1d57c9b8f31b93724e"), looks := false }, kinds := [], alts := [], laidByText := true, laidKinds := [.data, .data, .data], laidTests := true, laidLooks := .later }
def NumberSumsUptoCardSaid : Prop := Claim7.holds Tryz.pinned (.plain (OpenSpec.upto numberSumsSpec)) numberSumsUptoCard

/-- THE SECOND FORM's CARD OF 'lensletlaw01.NumberForms'. -/
def numberFormsUptoCard : Claim7 := { stood := { row := numberFormsUptoRow, standIns := [], harness := (true, "877daa986298a36966eabaf052723b84f0469916ff7bca1d57c9b8f31b93724e"), looks := false }, kinds := [], alts := [], laidByText := true, laidKinds := [.data, .data, .data], laidTests := true, laidLooks := .later }
def NumberFormsUptoCardSaid : Prop := Claim7.holds Tryz.pinned (.plain (OpenSpec.upto numberFormsSpec)) numberFormsUptoCard

/-- THE SECOND FORM's CARD OF 'lensletlaw01.NumberSpans'. -/
def numberSpansUptoCard : Claim7 := { stood := { row := numberSpansUptoRow, standIns := [], harness := (true, "877daa986298a36966eabaf052723b84f0469916ff7bca1d57c9b8f31b93724e"), looks := false }, kinds := [], alts := [], laidByText := true, laidKinds := [.data, .data, .data], laidTests := true, laidLooks := .later }
def NumberSpansUptoCardSaid : Prop := Claim7.holds Tryz.pinned (.plain (OpenSpec.upto numberSpansSpec)) numberSpansUptoCard

/-- THE SECOND FORM's CARD OF 'lensletlaw01.NumberBoxes'. -/
def numberBoxesUptoCard : Claim7 := { stood := { row := numberBoxesUptoRow, standIns := [], harness := (true, "877daa986298a36966eabaf052723b84f0469916ff7bca1d57c9b8f31b93724e"), looks := false }, kinds := [], alts := [], laidByText := true, laidKinds := [.data, .data, .data], laidTests := true, laidLooks := .later }
def NumberBoxesUptoCardSaid : Prop := Claim7.holds Tryz.pinned (.plain (OpenSpec.upto numberBoxesSpec)) numberBoxesUptoCard

/-- THE SECOND FORM's CARD OF 'lensletlaw01.NumberEncloses'. -/
def numberEnclosesUptoCard : Claim7 := { stood := { row := numberEnclosesUptoRow, standIns := [], harness := (true, "877daa986298a36966eabaf052723b84f0469916ff7bca1d57c9b8f31b93724e"), looks := false }, kinds := [], alts := [], laidByText := true, laidKinds := [.data, .data, .data], laidTests := true, laidLooks := .later }
def NumberEnclosesUptoCardSaid : Prop := Claim7.holds Tryz.pinned (.plain (OpenSpec.upto numberEnclosesSpec)) numberEnclosesUptoCard

/-- THE SECOND FORM's CARD OF 'lensletlaw01.NumberMembers'. -/
def numberMembersUptoCard : Claim7 := { stood := { row := numberMembersUptoRow, standIns := [], harness := (true, "877daa986298a36966eabaf052723b84f0469916ff7bca1d57c9b8f31b93724e"), looks := false }, kinds := [], alts := [], laidByText := true, laidKinds := [.data, .data, .data], laidTests := true, laidLooks := .later }
def NumberMembersUptoCardSaid : Prop := Claim7.holds Tryz.pinned (.plain (OpenSpec.upto numberMembersSpec)) numberMembersUptoCard

/-- THE SECOND FORM's CARD OF 'lensletlaw01.NumberSquares'. -/
def numberSquaresUptoCard : Claim7 := { stood := { row := numberSquaresUptoRow, standIns := [], harness := (true, "877daa986298a36966eabaf052723b84f0469916ff7bca1d57c9b8f31b93724e"), looks := false }, kinds := [], alts := [], laidByText := true, laidKinds := [.data, .data, .data], laidTests := true, laidLooks := .later }
def NumberSquaresUptoCardSaid : Prop := Claim7.holds Tryz.pinned (.plain (OpenSpec.upto numberSquaresSpec)) numberSquaresUptoCard

/-- THE SECOND FORM's CARD OF 'lensletlaw01.NumberDraws'. -/
def numberDrawsUptoCard : Claim7 := { stood := { row := numberDrawsUptoRow, standIns := [], harness := (true, "877daa986298a36966eabaf052723b84f0469916ff7bca1d57c9b8f31b93724e"), looks := false }, kinds := [], alts := [], laidByText := true, laidKinds := [.data, .data, .data], laidTests := true, laidLooks := .later }
def NumberDrawsUptoCardSaid : Prop := Claim7.holds Tryz.pinned (.plain (OpenSpec.upto numberDrawsSpec)) numberDrawsUptoCard

/-- THE SECOND FORM's CARD OF 'lensletlaw01.NumberDeals'. -/
def numberDealsUptoCard : Claim7 := { stood := { row := numberDealsUptoRow, standIns := [], harness := (true, "877daa986298a36966eabaf052723b84f0469916ff7bca1d57c9b8f31b93724e"), looks := false }, kinds := [], alts := [], laidByText := true, laidKinds := [.data, .data, .data], laidTests := true, laidLooks := .later }
def NumberDealsUptoCardSaid : Prop := Claim7.holds Tryz.pinned (.plain (OpenSpec.upto numberDealsSpec)) numberDealsUptoCard
end Rows
end Go.Proofs.YtiohhcljhadgcaaGreatDoor
