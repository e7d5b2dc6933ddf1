import Derived.Test.YtjbcmmaniphkkaaGreatDoorLd
import Derived.Test.YtjbcmmaniphkkaaGreatDoorLc
import Derived.Test.YtjbcmmaniphkkaaGreatDoorSeatTab
import Derived.Test.YtjbcmmaniphkkaaGreatDoorTryzShelf
set_option linter.unusedSectionVars false
set_option linter.unusedVariables false
set_option linter.unusedSimpArgs false
namespace Go.Sx.Seat
open Go Go.Sx Go.Proofs Go.RowKit
variable [Unk]
theorem Fy:ay Tryz.prog 156 KP:=qR fun v n w hv hs=>by
 refine (Go.Proofs.YtjbcmmaniphkkaaGreatDoor.iz v n w hv (by omega)).mono ?_
 rintro e w' ⟨v',rfl,h1,h2⟩
 exact⟨v',rfl,fun _=>eM h1,h2⟩
theorem Fu:ay Tryz.prog 252 KM:=qR fun v n w hv hs=>by
 refine (Go.Proofs.YtjbcmmaniphkkaaGreatDoor.oF v n w hv (by omega)).mono ?_
 rintro e w' ⟨v',rfl,h1,h2⟩
 exact⟨v',rfl,fun _=>eM h1,h2⟩
theorem Co:ay Tryz.prog 149 IM:=qR fun v n w hv hs=>by
 refine (Go.Proofs.YtjbcmmaniphkkaaGreatDoor.bZ v n w hv (by omega)).mono ?_
 rintro e w' ⟨rfl,h2⟩
 exact⟨_,rfl,fun _=>by rw[RV],h2⟩
theorem wL:ay Tryz.prog 152 yY:=qR fun v n w hv hs=>by
 refine (Go.Proofs.YtjbcmmaniphkkaaGreatDoor.kx v n w hv (by omega)).mono ?_
 rintro e w' ⟨rfl,h2⟩
 exact⟨_,rfl,fun _=>by rw[RV];rfl,h2⟩
theorem zW:ay Tryz.prog 148 DZ:=qR fun v n w hv hs=>by
 refine (Go.Proofs.YtjbcmmaniphkkaaGreatDoor.mD v n w hv (by omega)).mono ?_
 rintro e w' ⟨rfl,h2⟩
 exact⟨_,rfl,fun _=>by rw[RV],h2⟩
theorem zV:ay Tryz.prog 259 DY:=qR fun v n w hv hs=>by
 refine (Go.Proofs.YtjbcmmaniphkkaaGreatDoor.zM v n w hv (by omega)).mono ?_
 rintro e w' ⟨rfl,h2⟩
 exact⟨_,rfl,fun _=>by rw[RV],h2⟩
theorem zU:ay Tryz.prog 236 DX:=qR fun v n w hv hs=>by
 refine (Go.Proofs.YtjbcmmaniphkkaaGreatDoor.zL v n w hv (by omega)).mono ?_
 rintro e w' ⟨rfl,h2⟩
 exact⟨_,rfl,fun _=>by rw[show Go.Proofs.YtjbcmmaniphkkaaGreatDoor.gJ n=decide (n.natAbs<9223372036854775808) from rfl];split<;>rename_i h<;>simp[h,RV,RVs],h2⟩
theorem Fv:ay Tryz.prog 153 KN:=oa fun u v n k w hu hv hs ht=>by
 refine (Go.Proofs.YtjbcmmaniphkkaaGreatDoor.jG u v n k w hu hv (by omega) (by omega)).mono ?_
 rintro e w' ⟨v',rfl,h1,h2⟩
 exact⟨v',rfl,fun _=>eM h1,h2⟩
theorem FA:ay Tryz.prog 161 KR:=oa fun u v n k w hu hv hs ht=>by
 refine (Go.Proofs.YtjbcmmaniphkkaaGreatDoor.yk u v n k w hu hv (by omega) (by omega)).mono ?_
 rintro e w' ⟨v',rfl,h1,h2⟩
 exact⟨v',rfl,fun _=>eM h1,h2⟩
theorem Fz:ay Tryz.prog 154 KQ:=oa fun u v n k w hu hv hs ht=>by
 refine (Go.Proofs.YtjbcmmaniphkkaaGreatDoor.oG u v n k w hu hv (by omega) (by omega)).mono ?_
 rintro e w' ⟨v',rfl,h1,h2⟩
 exact⟨v',rfl,fun _=>eM h1,h2⟩
theorem zT:ay Tryz.prog 82 DW:=oa fun u v n k w hu hv hs ht=>by
 refine (Go.Proofs.YtjbcmmaniphkkaaGreatDoor.rH u v n k w hu hv (by omega) (by omega)).mono ?_
 rintro e w' ⟨v',rfl,h1,h2⟩
 exact⟨v',rfl,fun _=>eM h1,h2⟩
theorem Fx:ay Tryz.prog 81 KO:=oa fun u v n k w hu hv hs ht=>by
 refine (Go.Proofs.YtjbcmmaniphkkaaGreatDoor.dJ u v n k w hu hv (by omega) (by omega) (by have:=Go.Proofs.YtjbcmmaniphkkaaGreatDoor.mi n.natAbs k.natAbs;rw[Int.natAbs_mul];omega)).mono ?_
 rintro e w' ⟨v',rfl,h1,h2⟩
 exact⟨v',rfl,fun _=>eM h1,h2⟩
theorem ui:ay Tryz.prog 155 vE:=oa fun u v n k w hu hv hs ht=>by
 refine (Go.Proofs.YtjbcmmaniphkkaaGreatDoor.jd u v n k w hu hv (by omega) (by omega)).mono ?_
 rintro e w' ⟨rfl,h2⟩
 exact⟨_,rfl,fun _=>by rw[RV];rfl,h2⟩
theorem uj:ay Tryz.prog 147 vF:=oa fun u v n k w hu hv hs ht=>by
 refine (Go.Proofs.YtjbcmmaniphkkaaGreatDoor.dQ u v n k w hu hv (by omega) (by omega)).mono ?_
 rintro e w' ⟨v',rfl,h1,h2⟩
 exact⟨v',rfl,fun _=>eM h1,h2⟩
theorem wM:ay Tryz.prog 160 zb:=oa fun u v n k w hu hv hs ht=>by
 refine (Go.Proofs.YtjbcmmaniphkkaaGreatDoor.ky u v n k w hu hv (by omega) (by omega)).mono ?_
 rintro e w' ⟨v1,v2,rfl,h1,h2,h3⟩
 refine ⟨_,rfl,fun m=>?_,h3⟩
 rw[RV]
 refine ⟨_,rfl,?_⟩
 rw[RVs]
 refine ⟨_,_,rfl,eM h1,?_⟩
 rw[RVs]
 exact⟨_,_,rfl,eM h2,by rw[RVs]⟩
theorem IZ:ay Tryz.prog 150 pOf:=KK fun n w h1 h2=>Go.Proofs.YtjbcmmaniphkkaaGreatDoor.jg n w h1 h2
theorem uk:ay Tryz.prog 151 lX:=xX fun v n k w hv hs hk=>Go.Proofs.YtjbcmmaniphkkaaGreatDoor.nH v n k w hv (by omega) (by omega)
theorem ot:ay Tryz.prog 207 fq:=pT fun v n k s w hv hs hk hl=>Go.Proofs.YtjbcmmaniphkkaaGreatDoor.fh v n k s w hv (by omega) hk hl
theorem om:ay Tryz.prog 210 fp:=pt fun v n d w hv hs h0 hd=>Go.Proofs.YtjbcmmaniphkkaaGreatDoor.dK v n d w hv (by omega) h0 hd
theorem wN:ay Tryz.prog 158 oO:=Br fun s v n w hv hs=>Go.Proofs.YtjbcmmaniphkkaaGreatDoor.bm s v n w hv (by omega)
theorem Cn:ay Tryz.prog 257 yZ:=Gp fun bk o c xs sep r w hcells hbk hN hcap hr hlen=>by
 have e:(xs.map (fun x=>(⟨x.toArray⟩:ByteArray))).map (·.data.toList)=xs:=by rw[List.map_map];exact List.map_id xs
 have hl:(Lib.join ((xs.map (fun x=>(⟨x.toArray⟩:ByteArray))).map (·.data.toList)) (⟨sep.toArray⟩:ByteArray).data.toList)=r:=by rw[e,hr];simp[Lib.join]
 have:=Tryz.strings_Join bk o c (xs.map fun x=>⟨x.toArray⟩) ⟨sep.toArray⟩ w (fun j x hx=>by
  rw[List.getElem?_map] at hx
  cases hy:xs[j]? with
  | none=>rw[hy] at hx;cases hx
  | some y=>rw[hy] at hx;simp only[Option.map_some,K5] at hx;subst hx;exact hcells j y hy) hbk (by simp;omega) (by simpa using hcap) (by rw[hl];omega)
 rw[hl,List.length_map] at this
 exact this
theorem Cp:je Tryz.prog 277 zD:=je.of Tryz.func277 (by kernel_rfl) (by kernel_rfl) (by kernel_rfl) (e:=Extern.MathFloatBits.float64bits) (by kernel_rfl) FE
theorem wO:je Tryz.prog 199 oY:=je.of Tryz.func199 (by kernel_rfl) (by kernel_rfl) (by kernel_rfl) (e:=Extern.MathFloatBits.float32bits) (by kernel_rfl) zZ
theorem Cq:je Tryz.prog 280 zE:=je.of Tryz.func280 (by kernel_rfl) (by kernel_rfl) (by kernel_rfl) (e:=Extern.MathFloatBits.float64frombits) (by kernel_rfl) Gh
theorem ri:je Tryz.prog 281 iQ:=je.of Tryz.func281 (by kernel_rfl) (by kernel_rfl) (by kernel_rfl) (e:=Extern.BytealgIndexByte.indexByte) (by kernel_rfl) Dc
end Go.Sx.Seat
namespace Go.Sx.Seat
open Go Go.Proofs
variable [Unk]
theorem JO:Tr.Fa (ay Tryz.prog) prT:=
 ⟨trivial,⟨trivial,⟨trivial,⟨trivial,⟨trivial,trivial,⟨trivial,⟨trivial,trivial,⟨ot,trivial,trivial⟩⟩,trivial⟩⟩,⟨trivial,trivial,⟨trivial,⟨trivial,⟨uk,trivial,trivial⟩,trivial⟩,trivial⟩⟩⟩,⟨trivial,⟨trivial,⟨trivial,⟨trivial,⟨trivial,⟨zV,trivial,trivial⟩,trivial⟩,trivial⟩,trivial⟩,⟨trivial,⟨trivial,⟨uj,trivial,trivial⟩,trivial⟩,trivial⟩⟩,⟨trivial,trivial,⟨trivial,⟨trivial,⟨ui,trivial,trivial⟩,trivial⟩,trivial⟩⟩⟩⟩,⟨trivial,⟨trivial,⟨trivial,⟨trivial,⟨trivial,⟨trivial,⟨Cn,trivial,trivial⟩,trivial⟩,trivial⟩,⟨trivial,⟨FA,trivial,trivial⟩,trivial⟩⟩,⟨trivial,⟨Fx,trivial,trivial⟩,trivial⟩⟩,⟨trivial,trivial,⟨trivial,⟨trivial,⟨Fv,trivial,trivial⟩,trivial⟩,trivial⟩⟩⟩,⟨trivial,⟨trivial,trivial,⟨trivial,⟨trivial,⟨Co,trivial,trivial⟩,trivial⟩,trivial⟩⟩,trivial⟩⟩⟩,⟨trivial,⟨trivial,⟨trivial,⟨trivial,⟨trivial,trivial,⟨trivial,⟨wM,trivial,trivial⟩,trivial⟩⟩,trivial⟩,⟨trivial,trivial,⟨trivial,⟨trivial,⟨wL,trivial,trivial⟩,trivial⟩,trivial⟩⟩⟩,⟨trivial,⟨trivial,trivial,⟨trivial,⟨trivial,⟨zW,trivial,trivial⟩,trivial⟩,trivial⟩⟩,⟨trivial,⟨trivial,trivial,⟨trivial,trivial,⟨zU,trivial,trivial⟩⟩⟩,⟨trivial,⟨trivial,⟨Fy,trivial,trivial⟩,trivial⟩,⟨trivial,trivial,⟨Fu,trivial,trivial⟩⟩⟩⟩⟩⟩,⟨trivial,⟨trivial,⟨trivial,trivial,⟨trivial,⟨zT,trivial,⟨om,trivial,trivial⟩⟩,trivial⟩⟩,⟨trivial,trivial,⟨trivial,⟨trivial,⟨Fz,trivial,trivial⟩,trivial⟩,trivial⟩⟩⟩,⟨trivial,⟨trivial,trivial,⟨trivial,⟨trivial,⟨IZ,trivial,trivial⟩,trivial⟩,trivial⟩⟩,⟨trivial,trivial,⟨trivial,⟨trivial,⟨wN,trivial,trivial⟩,trivial⟩,trivial⟩⟩⟩⟩⟩⟩
theorem Ji:Tr.Fa (je Tryz.prog) exT:=
 ⟨trivial,⟨trivial,⟨trivial,⟨trivial,trivial,⟨trivial,⟨trivial,⟨trivial,trivial,⟨wO,trivial,trivial⟩⟩,trivial⟩,trivial⟩⟩,trivial⟩,⟨trivial,⟨trivial,trivial,⟨trivial,trivial,⟨trivial,⟨trivial,⟨trivial,⟨ri,trivial,trivial⟩,trivial⟩,trivial⟩,trivial⟩⟩⟩,⟨trivial,⟨trivial,trivial,⟨trivial,⟨trivial,⟨trivial,⟨Cp,trivial,trivial⟩,trivial⟩,trivial⟩,trivial⟩⟩,trivial⟩⟩⟩,⟨trivial,⟨trivial,⟨trivial,trivial,⟨trivial,trivial,⟨trivial,⟨trivial,⟨trivial,⟨Cq,trivial,trivial⟩,trivial⟩,trivial⟩,trivial⟩⟩⟩,trivial⟩,trivial⟩⟩
theorem bQ:fG Tryz.prog E:=by
 refine ⟨fun f args av h=>?_,fun f h args av hp m w vals hv hs=>?_⟩
 ·simp only[E] at h
  split at h
  ·have:=Tr.Fa.get _ _ Ji f _ ‹_›
   exact⟨this.1,this.2 args av h⟩
  ·cases h
 ·simp only[E] at hp
  split at hp
  ·exact Tr.Fa.get _ _ JO f _ ‹_› h args av hp m w vals hv hs
  ·cases hp
end Go.Sx.Seat
