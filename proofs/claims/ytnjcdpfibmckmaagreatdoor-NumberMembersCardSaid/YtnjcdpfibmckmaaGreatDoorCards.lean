/-
  DERIVED. GIVEN WITH THE SEED: THE CARDS: each row of YtnjcdpfibmckmaaGreatDoorRows.lean that lists a variable, with what it lists TIED to the program's text (the seventh form; the later family's looks); each row that meets fmt, with fmt's text TOLD by the authors' own Lean function (tested against real Go, not proved from fmt's source: count such statements apart). THE CARD IS WHAT COUNTS. Prove the row's statement (the work); the ties are given (YtnjcdpfibmckmaaGreatDoorTie.lean); close each card by the builder's one call (the guide's Derived/Test/ToyasCard.lean, 'card_holds'). Laid BY PROGRAM, IN A SANDBOX (cutbox-door.mjs). By AI agents, Wed Nov 11 2026. No macro, syntax, notation, axiom, sorry.
-/
import Derived.Test.YtnjcdpfibmckmaaGreatDoorRows
import GoSem.ClaimSeven
namespace Go.Proofs.YtnjcdpfibmckmaaGreatDoor
namespace Rows

/-- THE TIED CARD OF 'lensletlaw01.NumberForms'. -/
def numberFormsCard : Claim7 := { stood := { row := numberFormsRow, standIns := [], harness := (true, "2277629704ca4b3b2953fadb9880806f124b03dde0da04e346f65b1d1ba2bc40"), looks := false }, kinds := [], alts := [], laidByText := true, laidKinds := [.data, .data, .data], laidTests := true, laidLooks := .later }
def NumberFormsCardSaid : Prop := Claim7.holds Tryz.pinned (.plain (OpenSpec.ofChange numberFormsSpec)) numberFormsCard

/-- THE TIED CARD OF 'lensletlaw01.NumberEncloses'. -/
def numberEnclosesCard : Claim7 := { stood := { row := numberEnclosesRow, standIns := [], harness := (true, "2277629704ca4b3b2953fadb9880806f124b03dde0da04e346f65b1d1ba2bc40"), looks := false }, kinds := [], alts := [], laidByText := true, laidKinds := [.data, .data, .data], laidTests := true, laidLooks := .later }
def NumberEnclosesCardSaid : Prop := Claim7.holds Tryz.pinned (.plain (OpenSpec.ofChange numberEnclosesSpec)) numberEnclosesCard

/-- THE TIED CARD OF 'lensletlaw01.NumberMembers'. -/
def numberMembersCard : Claim7 := { stood := { row := numberMembersRow, standIns := [], harness := (true, "2277629704ca4b3b2953fadb9880806f124b03dde0da04e346f65b1d1ba2bc40"), looks := false }, kinds := [], alts := [], laidByText := true, laidKinds := [.data, .data, .data], laidTests := true, laidLooks := .later }
def NumberMembersCardSaid : Prop := Claim7.holds Tryz.pinned (.plain (OpenSpec.ofChange numberMembersSpec)) numberMembersCard

/-- THE SECOND FORM's CARD OF 'lensletlaw01.NumberForms'. -/
def numberFormsUptoCard : Claim7 := { stood := { row := numberFormsUptoRow, standIns := [], harness := (true, "2277629704ca4b3b2953fadb9880806f124b03dde0da04e346f65b1d1ba2bc40"), looks := false }, kinds := [], alts := [], laidByText := true, laidKinds := [.data, .data, .data], laidTests := true, laidLooks := .later }
def NumberFormsUptoCardSaid : Prop := Claim7.holds Tryz.pinned (.plain (OpenSpec.upto numberFormsSpec)) numberFormsUptoCard

/-- THE SECOND FORM's CARD OF 'lensletlaw01.NumberEncloses'. -/
def numberEnclosesUptoCard : Claim7 := { stood := { row := numberEnclosesUptoRow, standIns := [], harness := (true, "2277629704ca4b3b2953fadb9880806f124b03dde0da04e346f65b1d1ba2bc40"), looks := false }, kinds := [], alts := [], laidByText := true, laidKinds := [.data, .data, .data], laidTests := true, laidLooks := .later }
def NumberEnclosesUptoCardSaid : Prop := Claim7.holds Tryz.pinned (.plain (OpenSpec.upto numberEnclosesSpec)) numberEnclosesUptoCard

/-- THE SECOND FORM's CARD OF 'lensletlaw01.NumberMembers'. -/
def numberMembersUptoCard : Claim7 := { stood := { row := numberMembersUptoRow, standIns := [], harness := (true, "2277629704ca4b3b2953fadb9880806f124b03dde0da04e346f65b1d1ba2bc40"), looks := false }, kinds := [], alts := [], laidByText := true, laidKinds := [.data, .data, .data], laidTests := true, laidLooks := .later }
def NumberMembersUptoCardSaid : Prop := Claim7.holds Tryz.pinned (.plain (OpenSpec.upto numberMembersSpec)) numberMembersUptoCard
end Rows
end Go.Proofs.YtnjcdpfibmckmaaGreatDoor
