import Derived.Test.YtnjcdpfibmckmaaGreatDoorLc
import Derived.Test.YtnjcdpfibmckmaaGreatDoorLd
import Derived.Test.YtnjcdpfibmckmaaGreatDoorTryzShelf
import Derived.Test.YtnjcdpfibmckmaaGreatDoorSeatTab
set_option linter.unusedSectionVars false
set_option linter.unusedVariables false
set_option linter.unusedSimpArgs false
namespace Go.Sx.Seat
open Go Go.Sx Go.Proofs Go.RowKit
theorem Ae:bp Tryz.prog 152 Ga:=oU fun v n w hv hs=>by
 refine (Go.Proofs.YtnjcdpfibmckmaaGreatDoor.gJ v n w hv (by omega)).mono ?_
 rintro e w' ⟨v',rfl,h1,h2⟩
 exact⟨v',rfl,fun _=>dV h1,h2⟩
theorem Ab:bp Tryz.prog 209 G7:=oU fun v n w hv hs=>by
 refine (Go.Proofs.YtnjcdpfibmckmaaGreatDoor.ql v n w hv (by omega)).mono ?_
 rintro e w' ⟨v',rfl,h1,h2⟩
 exact⟨v',rfl,fun _=>dV h1,h2⟩
theorem yk:bp Tryz.prog 154 Bs:=oU fun v n w hv hs=>by
 refine (Go.Proofs.YtnjcdpfibmckmaaGreatDoor.cW v n w hv (by omega)).mono ?_
 rintro e w' ⟨rfl,h2⟩
 exact⟨_,rfl,fun _=>by rw[RV],h2⟩
theorem tJ:bp Tryz.prog 156 vz:=oU fun v n w hv hs=>by
 refine (Go.Proofs.YtnjcdpfibmckmaaGreatDoor.mQ v n w hv (by omega)).mono ?_
 rintro e w' ⟨rfl,h2⟩
 exact⟨_,rfl,fun _=>by rw[RV];rfl,h2⟩
theorem wz:bp Tryz.prog 134 zC:=oU fun v n w hv hs=>by
 refine (Go.Proofs.YtnjcdpfibmckmaaGreatDoor.kP v n w hv (by omega)).mono ?_
 rintro e w' ⟨rfl,h2⟩
 exact⟨_,rfl,fun _=>by rw[RV],h2⟩
theorem wv:bp Tryz.prog 210 zB:=oU fun v n w hv hs=>by
 refine (Go.Proofs.YtnjcdpfibmckmaaGreatDoor.vZ v n w hv (by omega)).mono ?_
 rintro e w' ⟨rfl,h2⟩
 exact⟨_,rfl,fun _=>by rw[RV],h2⟩
theorem wu:bp Tryz.prog 178 zA:=oU fun v n w hv hs=>by
 refine (Go.Proofs.YtnjcdpfibmckmaaGreatDoor.vY v n w hv (by omega)).mono ?_
 rintro e w' ⟨rfl,h2⟩
 exact⟨_,rfl,fun _=>by rw[show Go.Proofs.YtnjcdpfibmckmaaGreatDoor.fT n=decide (n.natAbs<9223372036854775808) from rfl];split<;>rename_i h<;>simp[h,RV,RVs],h2⟩
theorem Ac:bp Tryz.prog 157 G8:=lY fun u v n k w hu hv hs ht=>by
 refine (Go.Proofs.YtnjcdpfibmckmaaGreatDoor.qm u v n k w hu hv (by omega) (by omega)).mono ?_
 rintro e w' ⟨v',rfl,h1,h2⟩
 exact⟨v',rfl,fun _=>dV h1,h2⟩
theorem Ag:bp Tryz.prog 163 Gc:=lY fun u v n k w hu hv hs ht=>by
 refine (Go.Proofs.YtnjcdpfibmckmaaGreatDoor.uR u v n k w hu hv (by omega) (by omega)).mono ?_
 rintro e w' ⟨v',rfl,h1,h2⟩
 exact⟨v',rfl,fun _=>dV h1,h2⟩
theorem Af:bp Tryz.prog 158 Gb:=lY fun u v n k w hu hv hs ht=>by
 refine (Go.Proofs.YtnjcdpfibmckmaaGreatDoor.uQ u v n k w hu hv (by omega) (by omega)).mono ?_
 rintro e w' ⟨v',rfl,h1,h2⟩
 exact⟨v',rfl,fun _=>dV h1,h2⟩
theorem wm:bp Tryz.prog 106 zy:=lY fun u v n k w hu hv hs ht=>by
 refine (Go.Proofs.YtnjcdpfibmckmaaGreatDoor.py u v n k w hu hv (by omega) (by omega)).mono ?_
 rintro e w' ⟨v',rfl,h1,h2⟩
 exact⟨v',rfl,fun _=>dV h1,h2⟩
theorem Ad:bp Tryz.prog 105 G9:=lY fun u v n k w hu hv hs ht=>by
 refine (Go.Proofs.YtnjcdpfibmckmaaGreatDoor.uP u v n k w hu hv (by omega) (by omega) (by have:=Go.Proofs.YtnjcdpfibmckmaaGreatDoor.kI n.natAbs k.natAbs;rw[Int.natAbs_mul];omega)).mono ?_
 rintro e w' ⟨v',rfl,h1,h2⟩
 exact⟨v',rfl,fun _=>dV h1,h2⟩
theorem rF:bp Tryz.prog 150 sT:=lY fun u v n k w hu hv hs ht=>by
 refine (Go.Proofs.YtnjcdpfibmckmaaGreatDoor.rm u v n k w hu hv (by omega) (by omega)).mono ?_
 rintro e w' ⟨rfl,h2⟩
 exact⟨_,rfl,fun _=>by rw[RV];rfl,h2⟩
theorem rG:bp Tryz.prog 133 sU:=lY fun u v n k w hu hv hs ht=>by
 refine (Go.Proofs.YtnjcdpfibmckmaaGreatDoor.fB u v n k w hu hv (by omega) (by omega)).mono ?_
 rintro e w' ⟨v',rfl,h1,h2⟩
 exact⟨v',rfl,fun _=>dV h1,h2⟩
theorem tK:bp Tryz.prog 162 vB:=lY fun u v n k w hu hv hs ht=>by
 refine (Go.Proofs.YtnjcdpfibmckmaaGreatDoor.jg u v n k w hu hv (by omega) (by omega)).mono ?_
 rintro e w' ⟨v1,v2,rfl,h1,h2,h3⟩
 refine ⟨_,rfl,fun m=>?_,h3⟩
 rw[RV]
 refine ⟨_,rfl,?_⟩
 rw[RVs]
 refine ⟨_,_,rfl,dV h1,?_⟩
 rw[RVs]
 exact⟨_,_,rfl,dV h2,by rw[RVs]⟩
theorem Bv:bp Tryz.prog 127 pOf:=G5 fun n w h1 h2=>Go.Proofs.YtnjcdpfibmckmaaGreatDoor.ig n w h1 h2
theorem rH:bp Tryz.prog 155 kA:=uH fun v n k w hv hs hk=>Go.Proofs.YtnjcdpfibmckmaaGreatDoor.rr v n k w hv (by omega) (by omega)
theorem mh:bp Tryz.prog 188 eM:=nQ fun v n k s w hv hs hk hl=>Go.Proofs.YtnjcdpfibmckmaaGreatDoor.eE v n k s w hv (by omega) hk hl
theorem mg:bp Tryz.prog 191 eK:=nt fun v n d w hv hs h0 hd=>Go.Proofs.YtnjcdpfibmckmaaGreatDoor.df v n d w hv (by omega) h0 hd
theorem tL:bp Tryz.prog 160 mK:=xK fun s v n w hv hs=>Go.Proofs.YtnjcdpfibmckmaaGreatDoor.aS s v n w hv (by omega)
theorem yj:bp Tryz.prog 219 vA:=AG fun bk o c xs sep r w hcells hbk hN hcap hr hlen=>by
 have e:(xs.map (fun x=>(⟨x.toArray⟩:ByteArray))).map (·.data.toList)=xs:=by rw[List.map_map];exact List.map_id xs
 have hl:(Lib.join ((xs.map (fun x=>(⟨x.toArray⟩:ByteArray))).map (·.data.toList)) (⟨sep.toArray⟩:ByteArray).data.toList)=r:=by rw[e,hr];simp[Lib.join]
 have:=Tryz.strings_Join bk o c (xs.map fun x=>⟨x.toArray⟩) ⟨sep.toArray⟩ w (fun j x hx=>by
  rw[List.getElem?_map] at hx
  cases hy:xs[j]? with
  | none=>rw[hy] at hx;cases hx
  | some y=>rw[hy] at hx;simp only[Option.map_some,Option.some.injEq] at hx;subst hx;exact hcells j y hy) hbk (by simp;omega) (by simpa using hcap) (by rw[hl];omega)
 rw[hl,List.length_map] at this
 exact this
theorem ym:ie Tryz.prog 234 vS:=ie.of Tryz.func234 (by kernel_rfl) (by kernel_rfl) (by kernel_rfl) (e:=Extern.MathFloatBits.float64bits) (by kernel_rfl) Aj
theorem tM:ie Tryz.prog 180 mP:=ie.of Tryz.func180 (by kernel_rfl) (by kernel_rfl) (by kernel_rfl) (e:=Extern.MathFloatBits.float32bits) (by kernel_rfl) wB
theorem yn:ie Tryz.prog 237 vT:=ie.of Tryz.func237 (by kernel_rfl) (by kernel_rfl) (by kernel_rfl) (e:=Extern.MathFloatBits.float64frombits) (by kernel_rfl) AB
theorem pd:ie Tryz.prog 258 gV:=ie.of Tryz.func258 (by kernel_rfl) (by kernel_rfl) (by kernel_rfl) (e:=Extern.BytealgIndexByte.indexByte) (by kernel_rfl) yU
end Go.Sx.Seat
namespace Go.Sx.Seat
open Go Go.Proofs
theorem BT:Tr.Fa (bp Tryz.prog) prT:=
 ⟨trivial,⟨trivial,⟨trivial,⟨trivial,⟨trivial,⟨trivial,⟨trivial,⟨Bv,trivial,trivial⟩,⟨mg,trivial,trivial⟩⟩,trivial⟩,trivial⟩,trivial⟩,⟨trivial,⟨trivial,⟨trivial,trivial,⟨trivial,⟨Ag,trivial,trivial⟩,trivial⟩⟩,trivial⟩,⟨trivial,trivial,⟨trivial,⟨trivial,⟨rH,trivial,trivial⟩,⟨yj,trivial,trivial⟩⟩,trivial⟩⟩⟩⟩,⟨trivial,⟨trivial,⟨trivial,trivial,⟨trivial,⟨trivial,trivial,⟨Ab,trivial,trivial⟩⟩,trivial⟩⟩,⟨trivial,⟨trivial,trivial,⟨Ad,trivial,trivial⟩⟩,trivial⟩⟩,⟨trivial,⟨trivial,⟨trivial,⟨trivial,⟨rG,trivial,trivial⟩,trivial⟩,trivial⟩,trivial⟩,⟨trivial,trivial,⟨trivial,⟨trivial,⟨Ac,trivial,trivial⟩,trivial⟩,trivial⟩⟩⟩⟩⟩,⟨trivial,⟨trivial,⟨trivial,⟨trivial,⟨trivial,trivial,⟨trivial,⟨tL,trivial,trivial⟩,trivial⟩⟩,trivial⟩,⟨trivial,trivial,⟨trivial,⟨trivial,⟨Ae,trivial,trivial⟩,trivial⟩,trivial⟩⟩⟩,⟨trivial,trivial,⟨trivial,trivial,⟨trivial,⟨trivial,⟨tJ,trivial,trivial⟩,trivial⟩,⟨trivial,⟨mh,trivial,trivial⟩,trivial⟩⟩⟩⟩⟩,⟨trivial,⟨trivial,⟨trivial,⟨trivial,trivial,⟨trivial,⟨tK,trivial,trivial⟩,trivial⟩⟩,⟨trivial,⟨trivial,trivial,⟨wv,trivial,trivial⟩⟩,⟨trivial,⟨wu,trivial,trivial⟩,trivial⟩⟩⟩,⟨trivial,⟨trivial,trivial,⟨wm,trivial,trivial⟩⟩,⟨trivial,⟨trivial,⟨yk,trivial,trivial⟩,trivial⟩,trivial⟩⟩⟩,⟨trivial,⟨trivial,⟨trivial,⟨trivial,⟨wz,trivial,trivial⟩,trivial⟩,trivial⟩,⟨trivial,⟨trivial,⟨rF,trivial,trivial⟩,trivial⟩,trivial⟩⟩,⟨trivial,trivial,⟨trivial,⟨trivial,⟨Af,trivial,trivial⟩,trivial⟩,trivial⟩⟩⟩⟩⟩⟩
theorem BB:Tr.Fa (ie Tryz.prog) exT:=
 ⟨trivial,⟨trivial,trivial,⟨trivial,trivial,⟨trivial,trivial,⟨trivial,⟨trivial,trivial,⟨trivial,trivial,⟨yn,trivial,trivial⟩⟩⟩,trivial⟩⟩⟩⟩,⟨trivial,⟨trivial,trivial,⟨trivial,⟨trivial,trivial,⟨trivial,trivial,⟨trivial,⟨tM,trivial,trivial⟩,trivial⟩⟩⟩,trivial⟩⟩,⟨trivial,⟨trivial,⟨trivial,⟨trivial,⟨trivial,⟨trivial,⟨pd,trivial,trivial⟩,trivial⟩,trivial⟩,trivial⟩,trivial⟩,⟨trivial,⟨trivial,trivial,⟨trivial,trivial,⟨ym,trivial,trivial⟩⟩⟩,trivial⟩⟩,trivial⟩⟩⟩
theorem bL:jf Tryz.prog E:=by
 refine ⟨fun f args av h=>?_,fun f h args av hp m w vals hv hs=>?_⟩
 ·simp only[E] at h
  split at h
  ·have:=Tr.Fa.get _ _ BB f _ ‹_›
   exact⟨this.1,this.2 args av h⟩
  ·cases h
 ·simp only[E] at hp
  split at hp
  ·exact Tr.Fa.get _ _ BT f _ ‹_› h args av hp m w vals hv hs
  ·cases hp
end Go.Sx.Seat
