import Derived.Test.YtjbcmmaniphkkaaGreatDoorLd
import Derived.Test.YtjbcmmaniphkkaaGreatDoorLc
import Derived.Test.YtjbcmmaniphkkaaGreatDoorSeatTab
import Derived.Test.YtjbcmmaniphkkaaGreatDoorTryzShelf
set_option linter.unusedSectionVars false
set_option linter.unusedVariables false
set_option linter.unusedSimpArgs false
namespace Go.Sx.Seat
open Go Go.Sx Go.Proofs Go.RowKit
variable [Unk]
theorem Fh:au Tryz.prog 156 Kq:=qQ fun v n w hv hs=>by
 refine (Go.Proofs.YtjbcmmaniphkkaaGreatDoor.jB v n w hv (by omega)).mono ?_
 rintro e w' ⟨v',rfl,h1,h2⟩
 exact⟨v',rfl,fun _=>eR h1,h2⟩
theorem Fe:au Tryz.prog 252 Kn:=qQ fun v n w hv hs=>by
 refine (Go.Proofs.YtjbcmmaniphkkaaGreatDoor.oC v n w hv (by omega)).mono ?_
 rintro e w' ⟨v',rfl,h1,h2⟩
 exact⟨v',rfl,fun _=>eR h1,h2⟩
theorem Cj:au Tryz.prog 149 Ip:=qQ fun v n w hv hs=>by
 refine (Go.Proofs.YtjbcmmaniphkkaaGreatDoor.cU v n w hv (by omega)).mono ?_
 rintro e w' ⟨rfl,h2⟩
 exact⟨_,rfl,fun _=>by rw[RV],h2⟩
theorem wN:au Tryz.prog 152 zf:=qQ fun v n w hv hs=>by
 refine (Go.Proofs.YtjbcmmaniphkkaaGreatDoor.oV v n w hv (by omega)).mono ?_
 rintro e w' ⟨rfl,h2⟩
 exact⟨_,rfl,fun _=>by rw[RV];rfl,h2⟩
theorem zX:au Tryz.prog 148 DR:=qQ fun v n w hv hs=>by
 refine (Go.Proofs.YtjbcmmaniphkkaaGreatDoor.mw v n w hv (by omega)).mono ?_
 rintro e w' ⟨rfl,h2⟩
 exact⟨_,rfl,fun _=>by rw[RV],h2⟩
theorem zW:au Tryz.prog 259 DQ:=qQ fun v n w hv hs=>by
 refine (Go.Proofs.YtjbcmmaniphkkaaGreatDoor.zO v n w hv (by omega)).mono ?_
 rintro e w' ⟨rfl,h2⟩
 exact⟨_,rfl,fun _=>by rw[RV],h2⟩
theorem zV:au Tryz.prog 236 DP:=qQ fun v n w hv hs=>by
 refine (Go.Proofs.YtjbcmmaniphkkaaGreatDoor.zN v n w hv (by omega)).mono ?_
 rintro e w' ⟨rfl,h2⟩
 exact⟨_,rfl,fun _=>by rw[show Go.Proofs.YtjbcmmaniphkkaaGreatDoor.gJ n=decide (n.natAbs<9223372036854775808) from rfl];split<;>rename_i h<;>simp[h,RV,RVs],h2⟩
theorem Ff:au Tryz.prog 153 Ko:=nY fun u v n k w hu hv hs ht=>by
 refine (Go.Proofs.YtjbcmmaniphkkaaGreatDoor.kW u v n k w hu hv (by omega) (by omega)).mono ?_
 rintro e w' ⟨v',rfl,h1,h2⟩
 exact⟨v',rfl,fun _=>eR h1,h2⟩
theorem Fj:au Tryz.prog 161 Ks:=nY fun u v n k w hu hv hs ht=>by
 refine (Go.Proofs.YtjbcmmaniphkkaaGreatDoor.yt u v n k w hu hv (by omega) (by omega)).mono ?_
 rintro e w' ⟨v',rfl,h1,h2⟩
 exact⟨v',rfl,fun _=>eR h1,h2⟩
theorem Fi:au Tryz.prog 154 Kr:=nY fun u v n k w hu hv hs ht=>by
 refine (Go.Proofs.YtjbcmmaniphkkaaGreatDoor.yq u v n k w hu hv (by omega) (by omega)).mono ?_
 rintro e w' ⟨v',rfl,h1,h2⟩
 exact⟨v',rfl,fun _=>eR h1,h2⟩
theorem zU:au Tryz.prog 82 DO:=nY fun u v n k w hu hv hs ht=>by
 refine (Go.Proofs.YtjbcmmaniphkkaaGreatDoor.zM u v n k w hu hv (by omega) (by omega)).mono ?_
 rintro e w' ⟨v',rfl,h1,h2⟩
 exact⟨v',rfl,fun _=>eR h1,h2⟩
theorem Fg:au Tryz.prog 81 Kp:=nY fun u v n k w hu hv hs ht=>by
 refine (Go.Proofs.YtjbcmmaniphkkaaGreatDoor.cI u v n k w hu hv (by omega) (by omega) (by have:=Go.Proofs.YtjbcmmaniphkkaaGreatDoor.lZ n.natAbs k.natAbs;rw[Int.natAbs_mul];omega)).mono ?_
 rintro e w' ⟨v',rfl,h1,h2⟩
 exact⟨v',rfl,fun _=>eR h1,h2⟩
theorem uu:au Tryz.prog 155 vJ:=nY fun u v n k w hu hv hs ht=>by
 refine (Go.Proofs.YtjbcmmaniphkkaaGreatDoor.fX u v n k w hu hv (by omega) (by omega)).mono ?_
 rintro e w' ⟨rfl,h2⟩
 exact⟨_,rfl,fun _=>by rw[RV];rfl,h2⟩
theorem uv:au Tryz.prog 147 vK:=nY fun u v n k w hu hv hs ht=>by
 refine (Go.Proofs.YtjbcmmaniphkkaaGreatDoor.dS u v n k w hu hv (by omega) (by omega)).mono ?_
 rintro e w' ⟨v',rfl,h1,h2⟩
 exact⟨v',rfl,fun _=>eR h1,h2⟩
theorem wO:au Tryz.prog 160 zh:=nY fun u v n k w hu hv hs ht=>by
 refine (Go.Proofs.YtjbcmmaniphkkaaGreatDoor.kj u v n k w hu hv (by omega) (by omega)).mono ?_
 rintro e w' ⟨v1,v2,rfl,h1,h2,h3⟩
 refine ⟨_,rfl,fun m=>?_,h3⟩
 rw[RV]
 refine ⟨_,rfl,?_⟩
 rw[RVs]
 refine ⟨_,_,rfl,eR h1,?_⟩
 rw[RVs]
 exact⟨_,_,rfl,eR h2,by rw[RVs]⟩
theorem IA:au Tryz.prog 150 pOf:=Kl fun n w h1 h2=>Go.Proofs.YtjbcmmaniphkkaaGreatDoor.mz n w h1 h2
theorem uw:au Tryz.prog 151 lQ:=yf fun v n k w hv hs hk=>Go.Proofs.YtjbcmmaniphkkaaGreatDoor.uf v n k w hv (by omega) (by omega)
theorem og:au Tryz.prog 207 ft:=pQ fun v n k s w hv hs hk hl=>Go.Proofs.YtjbcmmaniphkkaaGreatDoor.fo v n k s w hv (by omega) hk hl
theorem oe:au Tryz.prog 210 fq:=pt fun v n d w hv hs h0 hd=>Go.Proofs.YtjbcmmaniphkkaaGreatDoor.dK v n d w hv (by omega) h0 hd
theorem wP:au Tryz.prog 158 oL:=Bu fun s v n w hv hs=>Go.Proofs.YtjbcmmaniphkkaaGreatDoor.bh s v n w hv (by omega)
theorem Ci:au Tryz.prog 257 zg:=FZ fun bk o c xs sep r w hcells hbk hN hcap hr hlen=>by
 have e:(xs.map (fun x=>(⟨x.toArray⟩:ByteArray))).map (·.data.toList)=xs:=by rw[List.map_map];exact List.map_id xs
 have hl:(Lib.join ((xs.map (fun x=>(⟨x.toArray⟩:ByteArray))).map (·.data.toList)) (⟨sep.toArray⟩:ByteArray).data.toList)=r:=by rw[e,hr];simp[Lib.join]
 have:=Tryz.strings_Join bk o c (xs.map fun x=>⟨x.toArray⟩) ⟨sep.toArray⟩ w (fun j x hx=>by
  rw[List.getElem?_map] at hx
  cases hy:xs[j]? with
  | none=>rw[hy] at hx;cases hx
  | some y=>rw[hy] at hx;simp only[Option.map_some,K5] at hx;subst hx;exact hcells j y hy) hbk (by simp;omega) (by simpa using hcap) (by rw[hl];omega)
 rw[hl,List.length_map] at this
 exact this
theorem Ck:iY Tryz.prog 277 zG:=iY.of Tryz.func277 (by kernel_rfl) (by kernel_rfl) (by kernel_rfl) (e:=Extern.MathFloatBits.float64bits) (by kernel_rfl) Fo
theorem wQ:iY Tryz.prog 199 oU:=iY.of Tryz.func199 (by kernel_rfl) (by kernel_rfl) (by kernel_rfl) (e:=Extern.MathFloatBits.float32bits) (by kernel_rfl) Aa
theorem Cm:iY Tryz.prog 280 zH:=iY.of Tryz.func280 (by kernel_rfl) (by kernel_rfl) (by kernel_rfl) (e:=Extern.MathFloatBits.float64frombits) (by kernel_rfl) FU
theorem re:iY Tryz.prog 281 iK:=iY.of Tryz.func281 (by kernel_rfl) (by kernel_rfl) (by kernel_rfl) (e:=Extern.BytealgIndexByte.indexByte) (by kernel_rfl) CW
end Go.Sx.Seat
namespace Go.Sx.Seat
open Go Go.Proofs
variable [Unk]
theorem Jq:Tr.Fa (au Tryz.prog) prT:=
 ⟨trivial,⟨trivial,⟨trivial,⟨trivial,⟨trivial,trivial,⟨trivial,⟨trivial,trivial,⟨og,trivial,trivial⟩⟩,trivial⟩⟩,⟨trivial,trivial,⟨trivial,⟨trivial,⟨uw,trivial,trivial⟩,trivial⟩,trivial⟩⟩⟩,⟨trivial,⟨trivial,⟨trivial,⟨trivial,⟨trivial,⟨zW,trivial,trivial⟩,trivial⟩,trivial⟩,trivial⟩,⟨trivial,⟨trivial,⟨uv,trivial,trivial⟩,trivial⟩,trivial⟩⟩,⟨trivial,trivial,⟨trivial,⟨trivial,⟨uu,trivial,trivial⟩,trivial⟩,trivial⟩⟩⟩⟩,⟨trivial,⟨trivial,⟨trivial,⟨trivial,⟨trivial,⟨trivial,⟨Ci,trivial,trivial⟩,trivial⟩,trivial⟩,⟨trivial,⟨Fj,trivial,trivial⟩,trivial⟩⟩,⟨trivial,⟨Fg,trivial,trivial⟩,trivial⟩⟩,⟨trivial,trivial,⟨trivial,⟨trivial,⟨Ff,trivial,trivial⟩,trivial⟩,trivial⟩⟩⟩,⟨trivial,⟨trivial,trivial,⟨trivial,⟨trivial,⟨Cj,trivial,trivial⟩,trivial⟩,trivial⟩⟩,trivial⟩⟩⟩,⟨trivial,⟨trivial,⟨trivial,⟨trivial,⟨trivial,trivial,⟨trivial,⟨wO,trivial,trivial⟩,trivial⟩⟩,trivial⟩,⟨trivial,trivial,⟨trivial,⟨trivial,⟨wN,trivial,trivial⟩,trivial⟩,trivial⟩⟩⟩,⟨trivial,⟨trivial,trivial,⟨trivial,⟨trivial,⟨zX,trivial,trivial⟩,trivial⟩,trivial⟩⟩,⟨trivial,⟨trivial,trivial,⟨trivial,trivial,⟨zV,trivial,trivial⟩⟩⟩,⟨trivial,⟨trivial,⟨Fh,trivial,trivial⟩,trivial⟩,⟨trivial,trivial,⟨Fe,trivial,trivial⟩⟩⟩⟩⟩⟩,⟨trivial,⟨trivial,⟨trivial,trivial,⟨trivial,⟨zU,trivial,⟨oe,trivial,trivial⟩⟩,trivial⟩⟩,⟨trivial,trivial,⟨trivial,⟨trivial,⟨Fi,trivial,trivial⟩,trivial⟩,trivial⟩⟩⟩,⟨trivial,⟨trivial,trivial,⟨trivial,⟨trivial,⟨IA,trivial,trivial⟩,trivial⟩,trivial⟩⟩,⟨trivial,trivial,⟨trivial,⟨trivial,⟨wP,trivial,trivial⟩,trivial⟩,trivial⟩⟩⟩⟩⟩⟩
theorem IL:Tr.Fa (iY Tryz.prog) exT:=
 ⟨trivial,⟨trivial,⟨trivial,⟨trivial,trivial,⟨trivial,⟨trivial,⟨trivial,trivial,⟨wQ,trivial,trivial⟩⟩,trivial⟩,trivial⟩⟩,trivial⟩,⟨trivial,⟨trivial,trivial,⟨trivial,trivial,⟨trivial,⟨trivial,⟨trivial,⟨re,trivial,trivial⟩,trivial⟩,trivial⟩,trivial⟩⟩⟩,⟨trivial,⟨trivial,trivial,⟨trivial,⟨trivial,⟨trivial,⟨Ck,trivial,trivial⟩,trivial⟩,trivial⟩,trivial⟩⟩,trivial⟩⟩⟩,⟨trivial,⟨trivial,⟨trivial,trivial,⟨trivial,trivial,⟨trivial,⟨trivial,⟨trivial,⟨Cm,trivial,trivial⟩,trivial⟩,trivial⟩,trivial⟩⟩⟩,trivial⟩,trivial⟩⟩
theorem bI:fF Tryz.prog E:=by
 refine ⟨fun f args av h=>?_,fun f h args av hp m w vals hv hs=>?_⟩
 ·simp only[E] at h
  split at h
  ·have:=Tr.Fa.get _ _ IL f _ ‹_›
   exact⟨this.1,this.2 args av h⟩
  ·cases h
 ·simp only[E] at hp
  split at hp
  ·exact Tr.Fa.get _ _ Jq f _ ‹_› h args av hp m w vals hv hs
  ·cases hp
end Go.Sx.Seat
