import Derived.Test.YtgjggfpofgfchaaGreatDoorPr
import Derived.Test.YtgjggfpofgfchaaGreatDoorLd
import Derived.Test.YtgjggfpofgfchaaGreatDoorLc
import Derived.Test.YtgjggfpofgfchaaGreatDoorLb
import Derived.Test.YtgjggfpofgfchaaGreatDoorGlobTab
import Derived.Test.YtgjggfpofgfchaaGreatDoorSeatTab
import Derived.Test.YtgjggfpofgfchaaGreatDoorTryzShelf
set_option linter.unusedSectionVars false
set_option linter.unusedVariables false
set_option linter.unusedSimpArgs false
/-
The trusted functions of the seat.
-/
namespace Go.Sx.Seat
open Go Go.Sx Go.Proofs Go.RowKit
theorem at_pNeg : PrimAt Tryz.prog 105 pNeg := w1_at fun v n w hv hs => by
  refine (Go.Proofs.YtgjggfpofgfchaaGreatDoor.Neg_any v n w hv (by omega)).mono ?_
  rintro e w' ⟨v', rfl, h1, h2⟩
  exact ⟨v', rfl, fun _ => rv_ofW h1, h2⟩
theorem at_pSign : PrimAt Tryz.prog 100 pSign := w1_at fun v n w hv hs => by
  refine (Go.Proofs.YtgjggfpofgfchaaGreatDoor.Sign_any v n w hv (by omega)).mono ?_
  rintro e w' ⟨rfl, h2⟩
  exact ⟨_, rfl, fun _ => by rw [RV], h2⟩
theorem at_pBitLen : PrimAt Tryz.prog 102 pBitLen := w1_at fun v n w hv hs => by
  refine (Go.Proofs.YtgjggfpofgfchaaGreatDoor.BitLen_any v n w hv (by omega)).mono ?_
  rintro e w' ⟨rfl, h2⟩
  exact ⟨_, rfl, fun _ => by rw [RV]; rfl, h2⟩
theorem at_pIsOne : PrimAt Tryz.prog 95 pIsOne := w1_at fun v n w hv hs => by
  refine (Go.Proofs.YtgjggfpofgfchaaGreatDoor.IsOne_any v n w hv (by omega)).mono ?_
  rintro e w' ⟨rfl, h2⟩
  exact ⟨_, rfl, fun _ => by rw [RV], h2⟩
theorem at_pIsOdd : PrimAt Tryz.prog 146 pIsOdd := w1_at fun v n w hv hs => by
  refine (Go.Proofs.YtgjggfpofgfchaaGreatDoor.IsOdd_any v n w hv (by omega)).mono ?_
  rintro e w' ⟨rfl, h2⟩
  exact ⟨_, rfl, fun _ => by rw [RV], h2⟩
theorem at_pInt64 : PrimAt Tryz.prog 123 pInt64 := w1_at fun v n w hv hs => by
  refine (Go.Proofs.YtgjggfpofgfchaaGreatDoor.Int64_any v n w hv (by omega)).mono ?_
  rintro e w' ⟨rfl, h2⟩
  exact ⟨_, rfl, fun _ => by rw [show Go.Proofs.YtgjggfpofgfchaaGreatDoor.fits64 n = decide (n.natAbs < 9223372036854775808) from rfl]; split <;> rename_i h <;> simp [h, RV, RVs], h2⟩
theorem at_pAdd : PrimAt Tryz.prog 103 pAdd := w2_at fun u v n k w hu hv hs ht => by
  refine (Go.Proofs.YtgjggfpofgfchaaGreatDoor.Add_any u v n k w hu hv (by omega) (by omega)).mono ?_
  rintro e w' ⟨v', rfl, h1, h2⟩
  exact ⟨v', rfl, fun _ => rv_ofW h1, h2⟩
theorem at_pSub : PrimAt Tryz.prog 110 pSub := w2_at fun u v n k w hu hv hs ht => by
  refine (Go.Proofs.YtgjggfpofgfchaaGreatDoor.Sub_any u v n k w hu hv (by omega) (by omega)).mono ?_
  rintro e w' ⟨v', rfl, h1, h2⟩
  exact ⟨v', rfl, fun _ => rv_ofW h1, h2⟩
theorem at_pQuo : PrimAt Tryz.prog 104 pQuo := w2_at fun u v n k w hu hv hs ht => by
  refine (Go.Proofs.YtgjggfpofgfchaaGreatDoor.Quo_any u v n k w hu hv (by omega) (by omega)).mono ?_
  rintro e w' ⟨v', rfl, h1, h2⟩
  exact ⟨v', rfl, fun _ => rv_ofW h1, h2⟩
theorem at_pFloor : PrimAt Tryz.prog 61 pFloor := w2_at fun u v n k w hu hv hs ht => by
  refine (Go.Proofs.YtgjggfpofgfchaaGreatDoor.Floor_any u v n k w hu hv (by omega) (by omega)).mono ?_
  rintro e w' ⟨v', rfl, h1, h2⟩
  exact ⟨v', rfl, fun _ => rv_ofW h1, h2⟩
theorem at_pMul : PrimAt Tryz.prog 60 pMul := w2_at fun u v n k w hu hv hs ht => by
  refine (Go.Proofs.YtgjggfpofgfchaaGreatDoor.Mul_any u v n k w hu hv (by omega) (by omega) (by have := Go.Proofs.YtgjggfpofgfchaaGreatDoor.size_mul n.natAbs k.natAbs; rw [Int.natAbs_mul]; omega)).mono ?_
  rintro e w' ⟨v', rfl, h1, h2⟩
  exact ⟨v', rfl, fun _ => rv_ofW h1, h2⟩
theorem at_pCompare : PrimAt Tryz.prog 99 pCompare := w2_at fun u v n k w hu hv hs ht => by
  refine (Go.Proofs.YtgjggfpofgfchaaGreatDoor.Compare_any u v n k w hu hv (by omega) (by omega)).mono ?_
  rintro e w' ⟨rfl, h2⟩
  exact ⟨_, rfl, fun _ => by rw [RV]; rfl, h2⟩
theorem at_pDivisor : PrimAt Tryz.prog 94 pDivisor := w2_at fun u v n k w hu hv hs ht => by
  refine (Go.Proofs.YtgjggfpofgfchaaGreatDoor.Divisor_any u v n k w hu hv (by omega) (by omega)).mono ?_
  rintro e w' ⟨v', rfl, h1, h2⟩
  exact ⟨v', rfl, fun _ => rv_ofW h1, h2⟩
theorem at_pQuoRem : PrimAt Tryz.prog 109 pQuoRem := w2_at fun u v n k w hu hv hs ht => by
  refine (Go.Proofs.YtgjggfpofgfchaaGreatDoor.QuoRem_any u v n k w hu hv (by omega) (by omega)).mono ?_
  rintro e w' ⟨v1, v2, rfl, h1, h2, h3⟩
  refine ⟨_, rfl, fun m => ?_, h3⟩
  rw [RV]
  refine ⟨_, rfl, ?_⟩
  rw [RVs]
  refine ⟨_, _, rfl, rv_ofW h1, ?_⟩
  rw [RVs]
  exact ⟨_, _, rfl, rv_ofW h2, by rw [RVs]⟩
theorem at_pOf : PrimAt Tryz.prog 88 pOf := of_at fun n w h1 h2 => Go.Proofs.YtgjggfpofgfchaaGreatDoor.Of_any n w h1 h2
theorem at_pShifted : PrimAt Tryz.prog 101 pShifted := shifted_at fun v n k w hv hs hk => Go.Proofs.YtgjggfpofgfchaaGreatDoor.Shifted_any v n k w hv (by omega) (by omega)
theorem at_pMultiplyAdd : PrimAt Tryz.prog 132 pMultiplyAdd := multiplyAdd_at fun v n k s w hv hs hk hl => Go.Proofs.YtgjggfpofgfchaaGreatDoor.multiplyAdd_any v n k s w hv (by omega) hk hl
theorem at_pDivideSmall : PrimAt Tryz.prog 135 pDivideSmall := divideSmall_at fun v n d w hv hs h0 hd => Go.Proofs.YtgjggfpofgfchaaGreatDoor.divideSmall_any v n d w hv (by omega) h0 hd
theorem at_pSigned : PrimAt Tryz.prog 107 pSigned := signed_at fun s v n w hv hs => Go.Proofs.YtgjggfpofgfchaaGreatDoor.signed_any s v n w hv (by omega)
theorem at_pJoin : PrimAt Tryz.prog 154 pJoin := join_at fun bk o c xs sep r w hcells hbk hN hcap hr hlen => by
  have e : (xs.map (fun x => (⟨x.toArray⟩ : ByteArray))).map (·.data.toList) = xs := by rw [List.map_map]; exact List.map_id xs
  have hl : (Lib.join ((xs.map (fun x => (⟨x.toArray⟩ : ByteArray))).map (·.data.toList)) (⟨sep.toArray⟩ : ByteArray).data.toList) = r := by rw [e, hr]; simp [Lib.join]
  have := Tryz.strings_Join bk o c (xs.map fun x => ⟨x.toArray⟩) ⟨sep.toArray⟩ w (fun j x hx => by
    rw [List.getElem?_map] at hx
    cases hy : xs[j]? with
    | none => rw [hy] at hx; cases hx
    | some y => rw [hy] at hx; simp only [Option.map_some, Option.some.injEq] at hx; subst hx; exact hcells j y hy) hbk (by simp; omega) (by simpa using hcap) (by rw [hl]; omega)
  rw [hl, List.length_map] at this
  exact this
theorem at_xBits : ExtAt Tryz.prog 169 xBits := ExtAt.of Tryz.func169 (by kernel_rfl) (by kernel_rfl) (by kernel_rfl) (e := Extern.MathFloatBits.float64bits) (by kernel_rfl) bits_ok
theorem at_xBits32 : ExtAt Tryz.prog 125 xBits32 := ExtAt.of Tryz.func125 (by kernel_rfl) (by kernel_rfl) (by kernel_rfl) (e := Extern.MathFloatBits.float32bits) (by kernel_rfl) bits32_ok
theorem at_xFrom : ExtAt Tryz.prog 172 xFrom := ExtAt.of Tryz.func172 (by kernel_rfl) (by kernel_rfl) (by kernel_rfl) (e := Extern.MathFloatBits.float64frombits) (by kernel_rfl) from_ok
theorem at_xIndexByte : ExtAt Tryz.prog 193 xIndexByte := ExtAt.of Tryz.func193 (by kernel_rfl) (by kernel_rfl) (by kernel_rfl) (e := Extern.BytealgIndexByte.indexByte) (by kernel_rfl) index_ok
end Go.Sx.Seat
