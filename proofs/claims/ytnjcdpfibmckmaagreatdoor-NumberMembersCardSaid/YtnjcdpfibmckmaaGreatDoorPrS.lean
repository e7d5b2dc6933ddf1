import Derived.Test.YtnjcdpfibmckmaaGreatDoorLd
import Derived.Test.YtnjcdpfibmckmaaGreatDoorLc
import Derived.Test.YtnjcdpfibmckmaaGreatDoorSeatTab
import Derived.Test.YtnjcdpfibmckmaaGreatDoorTryzShelf
set_option linter.unusedSectionVars false
set_option linter.unusedVariables false
set_option linter.unusedSimpArgs false
namespace Go.Sx.Seat
open Go Go.Sx Go.Proofs Go.RowKit
variable [Unk]
theorem DE:au Tryz.prog 152 Ij:=qo fun v n w hv hs=>by
 refine (Go.Proofs.YtnjcdpfibmckmaaGreatDoor.gd v n w hv (by omega)).mono ?_
 rintro e w' ⟨v',rfl,h1,h2⟩
 exact⟨v',rfl,fun _=>eR h1,h2⟩
theorem DB:au Tryz.prog 209 Ig:=qo fun v n w hv hs=>by
 refine (Go.Proofs.YtnjcdpfibmckmaaGreatDoor.kI v n w hv (by omega)).mono ?_
 rintro e w' ⟨v',rfl,h1,h2⟩
 exact⟨v',rfl,fun _=>eR h1,h2⟩
theorem Bm:au Tryz.prog 154 FQ:=qo fun v n w hv hs=>by
 refine (Go.Proofs.YtnjcdpfibmckmaaGreatDoor.cR v n w hv (by omega)).mono ?_
 rintro e w' ⟨rfl,h2⟩
 exact⟨_,rfl,fun _=>by rw[RV],h2⟩
theorem vV:au Tryz.prog 156 yC:=qo fun v n w hv hs=>by
 refine (Go.Proofs.YtnjcdpfibmckmaaGreatDoor.oy v n w hv (by omega)).mono ?_
 rintro e w' ⟨rfl,h2⟩
 exact⟨_,rfl,fun _=>by rw[RV];rfl,h2⟩
theorem zr:au Tryz.prog 134 CI:=qo fun v n w hv hs=>by
 refine (Go.Proofs.YtnjcdpfibmckmaaGreatDoor.lO v n w hv (by omega)).mono ?_
 rintro e w' ⟨rfl,h2⟩
 exact⟨_,rfl,fun _=>by rw[RV],h2⟩
theorem zp:au Tryz.prog 210 CH:=qo fun v n w hv hs=>by
 refine (Go.Proofs.YtnjcdpfibmckmaaGreatDoor.zh v n w hv (by omega)).mono ?_
 rintro e w' ⟨rfl,h2⟩
 exact⟨_,rfl,fun _=>by rw[RV],h2⟩
theorem zo:au Tryz.prog 178 CG:=qo fun v n w hv hs=>by
 refine (Go.Proofs.YtnjcdpfibmckmaaGreatDoor.zg v n w hv (by omega)).mono ?_
 rintro e w' ⟨rfl,h2⟩
 exact⟨_,rfl,fun _=>by rw[show Go.Proofs.YtnjcdpfibmckmaaGreatDoor.gH n=decide (n.natAbs<9223372036854775808) from rfl];split<;>rename_i h<;>simp[h,RV,RVs],h2⟩
theorem DC:au Tryz.prog 157 Ih:=nD fun u v n k w hu hv hs ht=>by
 refine (Go.Proofs.YtnjcdpfibmckmaaGreatDoor.kJ u v n k w hu hv (by omega) (by omega)).mono ?_
 rintro e w' ⟨v',rfl,h1,h2⟩
 exact⟨v',rfl,fun _=>eR h1,h2⟩
theorem DG:au Tryz.prog 163 Il:=nD fun u v n k w hu hv hs ht=>by
 refine (Go.Proofs.YtnjcdpfibmckmaaGreatDoor.xL u v n k w hu hv (by omega) (by omega)).mono ?_
 rintro e w' ⟨v',rfl,h1,h2⟩
 exact⟨v',rfl,fun _=>eR h1,h2⟩
theorem DF:au Tryz.prog 158 Ik:=nD fun u v n k w hu hv hs ht=>by
 refine (Go.Proofs.YtnjcdpfibmckmaaGreatDoor.xK u v n k w hu hv (by omega) (by omega)).mono ?_
 rintro e w' ⟨v',rfl,h1,h2⟩
 exact⟨v',rfl,fun _=>eR h1,h2⟩
theorem zm:au Tryz.prog 106 CF:=nD fun u v n k w hu hv hs ht=>by
 refine (Go.Proofs.YtnjcdpfibmckmaaGreatDoor.zf u v n k w hu hv (by omega) (by omega)).mono ?_
 rintro e w' ⟨v',rfl,h1,h2⟩
 exact⟨v',rfl,fun _=>eR h1,h2⟩
theorem DD:au Tryz.prog 105 Ii:=nD fun u v n k w hu hv hs ht=>by
 refine (Go.Proofs.YtnjcdpfibmckmaaGreatDoor.cY u v n k w hu hv (by omega) (by omega) (by have:=Go.Proofs.YtnjcdpfibmckmaaGreatDoor.lH n.natAbs k.natAbs;rw[Int.natAbs_mul];omega)).mono ?_
 rintro e w' ⟨v',rfl,h1,h2⟩
 exact⟨v',rfl,fun _=>eR h1,h2⟩
theorem tO:au Tryz.prog 150 uV:=nD fun u v n k w hu hv hs ht=>by
 refine (Go.Proofs.YtnjcdpfibmckmaaGreatDoor.mS u v n k w hu hv (by omega) (by omega)).mono ?_
 rintro e w' ⟨rfl,h2⟩
 exact⟨_,rfl,fun _=>by rw[RV];rfl,h2⟩
theorem tP:au Tryz.prog 133 uW:=nD fun u v n k w hu hv hs ht=>by
 refine (Go.Proofs.YtnjcdpfibmckmaaGreatDoor.dV u v n k w hu hv (by omega) (by omega)).mono ?_
 rintro e w' ⟨v',rfl,h1,h2⟩
 exact⟨v',rfl,fun _=>eR h1,h2⟩
theorem vW:au Tryz.prog 162 yE:=nD fun u v n k w hu hv hs ht=>by
 refine (Go.Proofs.YtnjcdpfibmckmaaGreatDoor.jX u v n k w hu hv (by omega) (by omega)).mono ?_
 rintro e w' ⟨v1,v2,rfl,h1,h2,h3⟩
 refine ⟨_,rfl,fun m=>?_,h3⟩
 rw[RV]
 refine ⟨_,rfl,?_⟩
 rw[RVs]
 refine ⟨_,_,rfl,eR h1,?_⟩
 rw[RVs]
 exact⟨_,_,rfl,eR h2,by rw[RVs]⟩
theorem FY:au Tryz.prog 127 pOf:=Ic fun n w h1 h2=>Go.Proofs.YtnjcdpfibmckmaaGreatDoor.jW n w h1 h2
theorem tQ:au Tryz.prog 155 lA:=xB fun v n k w hv hs hk=>Go.Proofs.YtnjcdpfibmckmaaGreatDoor.tH v n k w hv (by omega) (by omega)
theorem nI:au Tryz.prog 188 fw:=pt fun v n k s w hv hs hk hl=>Go.Proofs.YtnjcdpfibmckmaaGreatDoor.fo v n k s w hv (by omega) hk hl
theorem nH:au Tryz.prog 191 fv:=oQ fun v n d w hv hs h0 hd=>Go.Proofs.YtnjcdpfibmckmaaGreatDoor.dL v n d w hv (by omega) h0 hd
theorem vX:au Tryz.prog 160 oa:=Au fun s v n w hv hs=>Go.Proofs.YtnjcdpfibmckmaaGreatDoor.bg s v n w hv (by omega)
theorem Bl:au Tryz.prog 219 yD:=Eo fun bk o c xs sep r w hcells hbk hN hcap hr hlen=>by
 have e:(xs.map (fun x=>(⟨x.toArray⟩:ByteArray))).map (·.data.toList)=xs:=by rw[List.map_map];exact List.map_id xs
 have hl:(Lib.join ((xs.map (fun x=>(⟨x.toArray⟩:ByteArray))).map (·.data.toList)) (⟨sep.toArray⟩:ByteArray).data.toList)=r:=by rw[e,hr];simp[Lib.join]
 have:=Tryz.strings_Join bk o c (xs.map fun x=>⟨x.toArray⟩) ⟨sep.toArray⟩ w (fun j x hx=>by
  rw[List.getElem?_map] at hx
  cases hy:xs[j]? with
  | none=>rw[hy] at hx;cases hx
  | some y=>rw[hy] at hx;simp only[Option.map_some,Option.some.injEq] at hx;subst hx;exact hcells j y hy) hbk (by simp;omega) (by simpa using hcap) (by rw[hl];omega)
 rw[hl,List.length_map] at this
 exact this
theorem Bo:iY Tryz.prog 234 yX:=iY.of Tryz.func234 (by kernel_rfl) (by kernel_rfl) (by kernel_rfl) (e:=Extern.MathFloatBits.float64bits) (by kernel_rfl) DK
theorem vY:iY Tryz.prog 180 ox:=iY.of Tryz.func180 (by kernel_rfl) (by kernel_rfl) (by kernel_rfl) (e:=Extern.MathFloatBits.float32bits) (by kernel_rfl) zu
theorem Bp:iY Tryz.prog 237 yY:=iY.of Tryz.func237 (by kernel_rfl) (by kernel_rfl) (by kernel_rfl) (e:=Extern.MathFloatBits.float64frombits) (by kernel_rfl) Ei
theorem qB:iY Tryz.prog 258 iN:=iY.of Tryz.func258 (by kernel_rfl) (by kernel_rfl) (by kernel_rfl) (e:=Extern.BytealgIndexByte.indexByte) (by kernel_rfl) C6
end Go.Sx.Seat
namespace Go.Sx.Seat
open Go Go.Proofs
variable [Unk]
theorem GI:Tr.Fa (au Tryz.prog) prT:=
 ⟨trivial,⟨trivial,⟨trivial,⟨trivial,⟨trivial,⟨trivial,⟨trivial,⟨FY,trivial,trivial⟩,⟨nH,trivial,trivial⟩⟩,trivial⟩,trivial⟩,trivial⟩,⟨trivial,⟨trivial,⟨trivial,trivial,⟨trivial,⟨DG,trivial,trivial⟩,trivial⟩⟩,trivial⟩,⟨trivial,trivial,⟨trivial,⟨trivial,⟨tQ,trivial,trivial⟩,⟨Bl,trivial,trivial⟩⟩,trivial⟩⟩⟩⟩,⟨trivial,⟨trivial,⟨trivial,trivial,⟨trivial,⟨trivial,trivial,⟨DB,trivial,trivial⟩⟩,trivial⟩⟩,⟨trivial,⟨trivial,trivial,⟨DD,trivial,trivial⟩⟩,trivial⟩⟩,⟨trivial,⟨trivial,⟨trivial,⟨trivial,⟨tP,trivial,trivial⟩,trivial⟩,trivial⟩,trivial⟩,⟨trivial,trivial,⟨trivial,⟨trivial,⟨DC,trivial,trivial⟩,trivial⟩,trivial⟩⟩⟩⟩⟩,⟨trivial,⟨trivial,⟨trivial,⟨trivial,⟨trivial,trivial,⟨trivial,⟨vX,trivial,trivial⟩,trivial⟩⟩,trivial⟩,⟨trivial,trivial,⟨trivial,⟨trivial,⟨DE,trivial,trivial⟩,trivial⟩,trivial⟩⟩⟩,⟨trivial,trivial,⟨trivial,trivial,⟨trivial,⟨trivial,⟨vV,trivial,trivial⟩,trivial⟩,⟨trivial,⟨nI,trivial,trivial⟩,trivial⟩⟩⟩⟩⟩,⟨trivial,⟨trivial,⟨trivial,⟨trivial,trivial,⟨trivial,⟨vW,trivial,trivial⟩,trivial⟩⟩,⟨trivial,⟨trivial,trivial,⟨zp,trivial,trivial⟩⟩,⟨trivial,⟨zo,trivial,trivial⟩,trivial⟩⟩⟩,⟨trivial,⟨trivial,trivial,⟨zm,trivial,trivial⟩⟩,⟨trivial,⟨trivial,⟨Bm,trivial,trivial⟩,trivial⟩,trivial⟩⟩⟩,⟨trivial,⟨trivial,⟨trivial,⟨trivial,⟨zr,trivial,trivial⟩,trivial⟩,trivial⟩,⟨trivial,⟨trivial,⟨tO,trivial,trivial⟩,trivial⟩,trivial⟩⟩,⟨trivial,trivial,⟨trivial,⟨trivial,⟨DF,trivial,trivial⟩,trivial⟩,trivial⟩⟩⟩⟩⟩⟩
theorem Ga:Tr.Fa (iY Tryz.prog) exT:=
 ⟨trivial,⟨trivial,trivial,⟨trivial,trivial,⟨trivial,trivial,⟨trivial,⟨trivial,trivial,⟨trivial,trivial,⟨Bp,trivial,trivial⟩⟩⟩,trivial⟩⟩⟩⟩,⟨trivial,⟨trivial,trivial,⟨trivial,⟨trivial,trivial,⟨trivial,trivial,⟨trivial,⟨vY,trivial,trivial⟩,trivial⟩⟩⟩,trivial⟩⟩,⟨trivial,⟨trivial,⟨trivial,⟨trivial,⟨trivial,⟨trivial,⟨qB,trivial,trivial⟩,trivial⟩,trivial⟩,trivial⟩,trivial⟩,⟨trivial,⟨trivial,trivial,⟨trivial,trivial,⟨Bo,trivial,trivial⟩⟩⟩,trivial⟩⟩,trivial⟩⟩⟩
theorem bN:fI Tryz.prog E:=by
 refine ⟨fun f args av h=>?_,fun f h args av hp m w vals hv hs=>?_⟩
 ·simp only[E] at h
  split at h
  ·have:=Tr.Fa.get _ _ Ga f _ ‹_›
   exact⟨this.1,this.2 args av h⟩
  ·cases h
 ·simp only[E] at hp
  split at hp
  ·exact Tr.Fa.get _ _ GI f _ ‹_› h args av hp m w vals hv hs
  ·cases hp
end Go.Sx.Seat
