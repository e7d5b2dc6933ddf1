import Derived.Test.YtiohhcljhadgcaaGreatDoorLc
import Derived.Test.YtiohhcljhadgcaaGreatDoorLd
import Derived.Test.YtiohhcljhadgcaaGreatDoorTryzShelf
import Derived.Test.YtiohhcljhadgcaaGreatDoorSeatTab
set_option linter.unusedSectionVars false
set_option linter.unusedVariables false
set_option linter.unusedSimpArgs false
namespace Go.Sx.Seat
open Go Go.Sx Go.Proofs Go.RowKit
theorem zY:bC Tryz.prog 190 GJ:=p9 fun v n w hv hs=>by
 refine (Go.Proofs.YtiohhcljhadgcaaGreatDoor.fB v n w hv (by omega)).mono ?_
 rintro e w' ⟨v',rfl,h1,h2⟩
 exact⟨v',rfl,fun _=>eg h1,h2⟩
theorem zV:bC Tryz.prog 251 GG:=p9 fun v n w hv hs=>by
 refine (Go.Proofs.YtiohhcljhadgcaaGreatDoor.qm v n w hv (by omega)).mono ?_
 rintro e w' ⟨v',rfl,h1,h2⟩
 exact⟨v',rfl,fun _=>eg h1,h2⟩
theorem ye:bC Tryz.prog 189 Bm:=p9 fun v n w hv hs=>by
 refine (Go.Proofs.YtiohhcljhadgcaaGreatDoor.cS v n w hv (by omega)).mono ?_
 rintro e w' ⟨rfl,h2⟩
 exact⟨_,rfl,fun _=>by rw[RV],h2⟩
theorem tB:bC Tryz.prog 202 vm:=p9 fun v n w hv hs=>by
 refine (Go.Proofs.YtiohhcljhadgcaaGreatDoor.mX v n w hv (by omega)).mono ?_
 rintro e w' ⟨rfl,h2⟩
 exact⟨_,rfl,fun _=>by rw[RV];rfl,h2⟩
theorem vY:bC Tryz.prog 186 zl:=p9 fun v n w hv hs=>by
 refine (Go.Proofs.YtiohhcljhadgcaaGreatDoor.kP v n w hv (by omega)).mono ?_
 rintro e w' ⟨rfl,h2⟩
 exact⟨_,rfl,fun _=>by rw[RV],h2⟩
theorem vX:bC Tryz.prog 252 zk:=p9 fun v n w hv hs=>by
 refine (Go.Proofs.YtiohhcljhadgcaaGreatDoor.vR v n w hv (by omega)).mono ?_
 rintro e w' ⟨rfl,h2⟩
 exact⟨_,rfl,fun _=>by rw[RV],h2⟩
theorem vW:bC Tryz.prog 224 zj:=p9 fun v n w hv hs=>by
 refine (Go.Proofs.YtiohhcljhadgcaaGreatDoor.vQ v n w hv (by omega)).mono ?_
 rintro e w' ⟨rfl,h2⟩
 exact⟨_,rfl,fun _=>by rw[show Go.Proofs.YtiohhcljhadgcaaGreatDoor.fR n=decide (n.natAbs<9223372036854775808) from rfl];split<;>rename_i h<;>simp[h,RV,RVs],h2⟩
theorem zW:bC Tryz.prog 188 GH:=mg fun u v n k w hu hv hs ht=>by
 refine (Go.Proofs.YtiohhcljhadgcaaGreatDoor.jR u v n k w hu hv (by omega) (by omega)).mono ?_
 rintro e w' ⟨v',rfl,h1,h2⟩
 exact⟨v',rfl,fun _=>eg h1,h2⟩
theorem A0:bC Tryz.prog 207 GL:=mg fun u v n k w hu hv hs ht=>by
 refine (Go.Proofs.YtiohhcljhadgcaaGreatDoor.uM u v n k w hu hv (by omega) (by omega)).mono ?_
 rintro e w' ⟨v',rfl,h1,h2⟩
 exact⟨v',rfl,fun _=>eg h1,h2⟩
theorem zZ:bC Tryz.prog 203 GK:=mg fun u v n k w hu hv hs ht=>by
 refine (Go.Proofs.YtiohhcljhadgcaaGreatDoor.uL u v n k w hu hv (by omega) (by omega)).mono ?_
 rintro e w' ⟨v',rfl,h1,h2⟩
 exact⟨v',rfl,fun _=>eg h1,h2⟩
theorem vV:bC Tryz.prog 135 zi:=mg fun u v n k w hu hv hs ht=>by
 refine (Go.Proofs.YtiohhcljhadgcaaGreatDoor.vO u v n k w hu hv (by omega) (by omega)).mono ?_
 rintro e w' ⟨v',rfl,h1,h2⟩
 exact⟨v',rfl,fun _=>eg h1,h2⟩
theorem zX:bC Tryz.prog 134 GI:=mg fun u v n k w hu hv hs ht=>by
 refine (Go.Proofs.YtiohhcljhadgcaaGreatDoor.cP u v n k w hu hv (by omega) (by omega) (by have:=Go.Proofs.YtiohhcljhadgcaaGreatDoor.kG n.natAbs k.natAbs;rw[Int.natAbs_mul];omega)).mono ?_
 rintro e w' ⟨v',rfl,h1,h2⟩
 exact⟨v',rfl,fun _=>eg h1,h2⟩
theorem rA:bC Tryz.prog 192 sL:=mg fun u v n k w hu hv hs ht=>by
 refine (Go.Proofs.YtiohhcljhadgcaaGreatDoor.lE u v n k w hu hv (by omega) (by omega)).mono ?_
 rintro e w' ⟨rfl,h2⟩
 exact⟨_,rfl,fun _=>by rw[RV];rfl,h2⟩
theorem rC:bC Tryz.prog 185 sM:=mg fun u v n k w hu hv hs ht=>by
 refine (Go.Proofs.YtiohhcljhadgcaaGreatDoor.dC u v n k w hu hv (by omega) (by omega)).mono ?_
 rintro e w' ⟨v',rfl,h1,h2⟩
 exact⟨v',rfl,fun _=>eg h1,h2⟩
theorem tC:bC Tryz.prog 206 vt:=mg fun u v n k w hu hv hs ht=>by
 refine (Go.Proofs.YtiohhcljhadgcaaGreatDoor.jm u v n k w hu hv (by omega) (by omega)).mono ?_
 rintro e w' ⟨v1,v2,rfl,h1,h2,h3⟩
 refine ⟨_,rfl,fun m=>?_,h3⟩
 rw[RV]
 refine ⟨_,rfl,?_⟩
 rw[RVs]
 refine ⟨_,_,rfl,eg h1,?_⟩
 rw[RVs]
 exact⟨_,_,rfl,eg h2,by rw[RVs]⟩
theorem Bq:bC Tryz.prog 200 pOf:=GD fun n w h1 h2=>Go.Proofs.YtiohhcljhadgcaaGreatDoor.kQ n w h1 h2
theorem rD:bC Tryz.prog 201 kz:=uD fun v n k w hv hs hk=>Go.Proofs.YtiohhcljhadgcaaGreatDoor.rl v n k w hv (by omega) (by omega)
theorem ml:bC Tryz.prog 235 eR:=o8 fun v n k s w hv hs hk hl=>Go.Proofs.YtiohhcljhadgcaaGreatDoor.eJ v n k s w hv (by omega) hk hl
theorem mj:bC Tryz.prog 238 eQ:=nI fun v n d w hv hs h0 hd=>Go.Proofs.YtiohhcljhadgcaaGreatDoor.du v n d w hv (by omega) h0 hd
theorem tD:bC Tryz.prog 204 mO:=xB fun s v n w hv hs=>Go.Proofs.YtiohhcljhadgcaaGreatDoor.b9 s v n w hv (by omega)
theorem yd:bC Tryz.prog 268 vo:=At fun bk o c xs sep r w hcells hbk hN hcap hr hlen=>by
 have e:(xs.map (fun x=>(⟨x.toArray⟩:ByteArray))).map (·.data.toList)=xs:=by rw[List.map_map];exact List.map_id xs
 have hl:(Lib.join ((xs.map (fun x=>(⟨x.toArray⟩:ByteArray))).map (·.data.toList)) (⟨sep.toArray⟩:ByteArray).data.toList)=r:=by rw[e,hr];simp[Lib.join]
 have:=Tryz.strings_Join bk o c (xs.map fun x=>⟨x.toArray⟩) ⟨sep.toArray⟩ w (fun j x hx=>by
  rw[List.getElem?_map] at hx
  cases hy:xs[j]? with
  | none=>rw[hy] at hx;cases hx
  | some y=>rw[hy] at hx;simp only[Option.map_some,Option.some.injEq] at hx;subst hx;exact hcells j y hy) hbk (by simp;omega) (by simpa using hcap) (by rw[hl];omega)
 rw[hl,List.length_map] at this
 exact this
theorem yf:ir Tryz.prog 276 vI:=ir.of Tryz.func276 (by kernel_rfl) (by kernel_rfl) (by kernel_rfl) (e:=Extern.MathFloatBits.float64bits) (by kernel_rfl) A4
theorem tE:ir Tryz.prog 226 mV:=ir.of Tryz.func226 (by kernel_rfl) (by kernel_rfl) (by kernel_rfl) (e:=Extern.MathFloatBits.float32bits) (by kernel_rfl) wb
theorem yg:ir Tryz.prog 279 vJ:=ir.of Tryz.func279 (by kernel_rfl) (by kernel_rfl) (by kernel_rfl) (e:=Extern.MathFloatBits.float64frombits) (by kernel_rfl) An
theorem pn:ir Tryz.prog 293 ib:=ir.of Tryz.func293 (by kernel_rfl) (by kernel_rfl) (by kernel_rfl) (e:=Extern.BytealgIndexByte.indexByte) (by kernel_rfl) yJ
end Go.Sx.Seat
namespace Go.Sx.Seat
open Go Go.Proofs
theorem BM:Tr.Fa (bC Tryz.prog) prT:=
 ⟨trivial,⟨trivial,⟨trivial,⟨trivial,⟨trivial,trivial,⟨trivial,⟨trivial,trivial,⟨A0,trivial,trivial⟩⟩,trivial⟩⟩,⟨trivial,⟨trivial,⟨trivial,⟨vV,trivial,trivial⟩,trivial⟩,trivial⟩,trivial⟩⟩,⟨trivial,trivial,⟨trivial,⟨trivial,⟨trivial,trivial,⟨zZ,trivial,trivial⟩⟩,⟨trivial,trivial,⟨ml,trivial,trivial⟩⟩⟩,⟨trivial,trivial,⟨trivial,trivial,⟨zV,trivial,trivial⟩⟩⟩⟩⟩⟩,⟨trivial,⟨trivial,trivial,⟨trivial,⟨trivial,⟨trivial,trivial,⟨rD,trivial,trivial⟩⟩,trivial⟩,⟨trivial,trivial,⟨trivial,⟨rC,trivial,trivial⟩,trivial⟩⟩⟩⟩,⟨trivial,trivial,⟨trivial,trivial,⟨trivial,trivial,⟨trivial,⟨ye,trivial,trivial⟩,trivial⟩⟩⟩⟩⟩⟩,⟨trivial,⟨trivial,⟨trivial,⟨trivial,⟨trivial,⟨trivial,trivial,⟨rA,trivial,trivial⟩⟩,⟨trivial,trivial,⟨vW,trivial,trivial⟩⟩⟩,trivial⟩,⟨trivial,⟨trivial,⟨trivial,trivial,⟨Bq,trivial,trivial⟩⟩,trivial⟩,trivial⟩⟩,⟨trivial,trivial,⟨trivial,⟨trivial,⟨trivial,⟨trivial,⟨yd,trivial,trivial⟩,trivial⟩,⟨tD,trivial,trivial⟩⟩,trivial⟩,⟨trivial,trivial,⟨trivial,⟨zW,trivial,trivial⟩,⟨vX,trivial,trivial⟩⟩⟩⟩⟩⟩,⟨trivial,⟨trivial,trivial,⟨trivial,⟨trivial,⟨trivial,trivial,⟨tB,trivial,trivial⟩⟩,trivial⟩,⟨trivial,trivial,⟨trivial,⟨vY,trivial,trivial⟩,trivial⟩⟩⟩⟩,⟨trivial,⟨trivial,⟨trivial,⟨trivial,⟨zX,trivial,trivial⟩,trivial⟩,trivial⟩,trivial⟩,⟨trivial,⟨trivial,⟨trivial,trivial,⟨tC,trivial,trivial⟩⟩,⟨trivial,trivial,⟨mj,trivial,trivial⟩⟩⟩,⟨trivial,trivial,⟨trivial,⟨zY,trivial,trivial⟩,trivial⟩⟩⟩⟩⟩⟩⟩
theorem Bu:Tr.Fa (ir Tryz.prog) exT:=
 ⟨trivial,⟨trivial,⟨trivial,⟨trivial,trivial,⟨trivial,trivial,⟨trivial,⟨trivial,⟨trivial,⟨yg,trivial,trivial⟩,trivial⟩,trivial⟩,trivial⟩⟩⟩,trivial⟩,⟨trivial,trivial,⟨trivial,⟨trivial,⟨trivial,trivial,⟨trivial,⟨trivial,⟨pn,trivial,trivial⟩,trivial⟩,trivial⟩⟩,trivial⟩,trivial⟩⟩⟩,⟨trivial,⟨trivial,trivial,⟨trivial,⟨trivial,trivial,⟨trivial,⟨trivial,⟨trivial,⟨yf,trivial,trivial⟩,trivial⟩,trivial⟩,trivial⟩⟩,trivial⟩⟩,⟨trivial,⟨trivial,⟨trivial,⟨trivial,trivial,⟨trivial,trivial,⟨tE,trivial,trivial⟩⟩⟩,trivial⟩,trivial⟩,trivial⟩⟩⟩
theorem bY:jl Tryz.prog E:=by
 refine ⟨fun f args av h=>?_,fun f h args av hp m w vals hv hs=>?_⟩
 ·simp only[E] at h
  split at h
  ·have:=Tr.Fa.get _ _ Bu f _ ‹_›
   exact⟨this.1,this.2 args av h⟩
  ·cases h
 ·simp only[E] at hp
  split at hp
  ·exact Tr.Fa.get _ _ BM f _ ‹_› h args av hp m w vals hv hs
  ·cases hp
end Go.Sx.Seat
