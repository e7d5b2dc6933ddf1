import Derived.Test.YtgjggfpofgfchaaGreatDoorPrS
set_option linter.unusedSectionVars false
set_option linter.unusedVariables false
set_option linter.unusedSimpArgs false
namespace Go.Sx.Seat
open Go Go.Proofs
theorem prT_ok : Tr.Fa (PrimAt Tryz.prog) prT :=
  ⟨trivial, ⟨trivial, ⟨trivial, ⟨trivial, ⟨trivial, ⟨trivial, trivial, ⟨at_pIsOne, trivial, trivial⟩⟩, trivial⟩, ⟨trivial, ⟨trivial, ⟨trivial, ⟨at_pDivideSmall, trivial, trivial⟩, trivial⟩, ⟨at_pAdd, trivial, trivial⟩⟩, trivial⟩⟩, ⟨trivial, ⟨trivial, ⟨trivial, trivial, ⟨at_pCompare, trivial, trivial⟩⟩, trivial⟩, ⟨trivial, ⟨trivial, trivial, ⟨at_pSigned, trivial, trivial⟩⟩, ⟨trivial, trivial, ⟨at_pInt64, trivial, trivial⟩⟩⟩⟩⟩, ⟨trivial, ⟨trivial, trivial, ⟨trivial, ⟨trivial, trivial, ⟨at_pNeg, trivial, trivial⟩⟩, trivial⟩⟩, ⟨trivial, ⟨trivial, ⟨trivial, trivial, ⟨at_pShifted, trivial, trivial⟩⟩, trivial⟩, ⟨trivial, ⟨trivial, trivial, ⟨at_pQuoRem, trivial, trivial⟩⟩, ⟨at_pFloor, trivial, trivial⟩⟩⟩⟩⟩, ⟨trivial, ⟨trivial, ⟨trivial, trivial, ⟨trivial, ⟨trivial, trivial, ⟨at_pQuo, trivial, trivial⟩⟩, ⟨trivial, ⟨at_pOf, trivial, trivial⟩, trivial⟩⟩⟩, ⟨trivial, ⟨trivial, ⟨trivial, ⟨trivial, ⟨at_pMultiplyAdd, trivial, trivial⟩, trivial⟩, ⟨at_pSign, trivial, trivial⟩⟩, trivial⟩, ⟨trivial, trivial, ⟨at_pMul, trivial, trivial⟩⟩⟩⟩, ⟨trivial, ⟨trivial, ⟨trivial, trivial, ⟨trivial, ⟨trivial, ⟨at_pIsOdd, trivial, trivial⟩, trivial⟩, trivial⟩⟩, ⟨trivial, trivial, ⟨trivial, ⟨trivial, ⟨at_pJoin, trivial, trivial⟩, trivial⟩, trivial⟩⟩⟩, ⟨trivial, ⟨trivial, ⟨trivial, trivial, ⟨at_pBitLen, trivial, trivial⟩⟩, trivial⟩, ⟨trivial, ⟨trivial, trivial, ⟨at_pSub, trivial, trivial⟩⟩, ⟨trivial, ⟨at_pDivisor, trivial, trivial⟩, trivial⟩⟩⟩⟩⟩⟩
theorem exT_ok : Tr.Fa (ExtAt Tryz.prog) exT :=
  ⟨trivial, ⟨trivial, trivial, ⟨trivial, ⟨trivial, ⟨trivial, ⟨trivial, ⟨trivial, trivial, ⟨at_xIndexByte, trivial, trivial⟩⟩, trivial⟩, trivial⟩, ⟨trivial, ⟨trivial, trivial, ⟨trivial, ⟨at_xBits, trivial, trivial⟩, trivial⟩⟩, trivial⟩⟩, ⟨trivial, trivial, ⟨trivial, trivial, ⟨trivial, trivial, ⟨at_xBits32, trivial, trivial⟩⟩⟩⟩⟩⟩, ⟨trivial, ⟨trivial, trivial, ⟨trivial, trivial, ⟨trivial, ⟨trivial, trivial, ⟨trivial, ⟨at_xFrom, trivial, trivial⟩, trivial⟩⟩, trivial⟩⟩⟩, trivial⟩⟩
theorem prim_ok : PrimOK Tryz.prog E := by
  refine ⟨fun f args av h => ?_, fun f h args av hp m w vals hv hs => ?_⟩
  · simp only [E] at h
    split at h
    · have := Tr.Fa.get _ _ exT_ok f _ ‹_›
      exact ⟨this.1, this.2 args av h⟩
    · cases h
  · simp only [E] at hp
    split at hp
    · exact Tr.Fa.get _ _ prT_ok f _ ‹_› h args av hp m w vals hv hs
    · cases hp
end Go.Sx.Seat
