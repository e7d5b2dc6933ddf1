import Derived.Test.YtnjcdpfibmckmaaGreatDoorSf
import Derived.Test.YtnjcdpfibmckmaaGreatDoorAw
import Derived.Test.YtnjcdpfibmckmaaGreatDoorRn
set_option linter.unusedSectionVars false
set_option linter.unusedVariables false
set_option linter.unusedSimpArgs false
set_option maxRecDepth 100000
set_option maxHeartbeats 8000000
namespace Go.Proofs.YtnjcdpfibmckmaaGreatDoor
open Go.RowKit LimbNum
def ij (w:World):Prop:=Go.Sx.kO (fun _=>none) w (fun _=>none)
theorem ij.kept {w w':World} (h:ij w) (k:Kept w w'):ij w':=fun g cs hg=>by
 obtain⟨⟨c,e,h1,h2⟩,h3⟩:=h g cs hg
 have hlt:g<w.heap.size:=(Array.getElem?_eq_some_iff.1 h1).1
 refine ⟨⟨c,e,by rw[k.block g hlt];exact h1,?_⟩,h3⟩
 exact Go.Sx.RVs.keep (Go.Sx.Ext.rfl' _) ⟨k.size,fun b c e f hb=>⟨c,f,by rw[k.block b (Array.getElem?_eq_some_iff.1 hb).1];exact hb,rfl⟩⟩ (fun a n ha=>by
  have hl:a.block<w.heap.size:=by
   rcases Nat.lt_or_ge a.block w.heap.size with h|h
   ·exact h
   ·unfold World.cell? at ha;rw[Array.getElem?_eq_none h] at ha;cases ha
  exact (k.cell hl).trans ha) _ _ h2
theorem cG (w:World) (h:ij w):Calls Tryz.prog 6 #[] w fun e w'=>e=.returned (.bool true)∧Kept w w':=by
 refine (Go.Sx.Seat.yo (fun _=>none) w (fun _=>none) [] (by rw[Go.Sx.RVs]) ⟨fun b cells rb h1 h2=>(by cases h2),fun b b' x h1 h2 h3=>(by cases h3),h⟩).mono ?_
 rintro e w' ⟨v,rfl,h1,h2⟩
 rw[Go.Sx.RV] at h1
 subst h1
 exact⟨rfl,h2⟩
theorem kF {m:Go.Sx.Nm} {w:World} {ik:IntKind}:∀ (ns:List Int) (vs:List Value),Go.Sx.RVs m w (ns.map (Go.Sx.AV.int ik)) vs→vs=ns.map (Value.int ik)
 | [],vs,h=>by
  rw[List.map_nil,Go.Sx.RVs] at h
  exact h
 | n::ns,vs,h=>by
  rw[List.map_cons,Go.Sx.RVs] at h
  obtain⟨v,l,rfl,h1,h2⟩:=h
  rw[Go.Sx.RV] at h1
  rw[List.map_cons,kF ns l h2,h1]
theorem ij.tb {w:World} (h:ij w):E.TB w:=by
 intro w' hk
 have h':=h.kept hk
 have hg:Go.Sx.Glob.gt.get 4=some (Lib.pow10Tab.map (Go.Sx.AV.int .u64)):=by kernel_rfl
 obtain⟨⟨c,e,h1,h2⟩,_⟩:=h' 4 _ hg
 have h3:=kF _ _ h2
 have hn : Tryz.prog.globalNamed "internal/strconv.uint64pow10" = some 4 := by kernel_rfl
 unfold Lib.TabIs World.var?
 rw[hn]
 simp only[Option.bind_some,h1]
 congr 1
 rw[←h3]
end Go.Proofs.YtnjcdpfibmckmaaGreatDoor
namespace Go.Proofs.YtnjcdpfibmckmaaGreatDoor.E
open Go.RowKit LimbNum
open DigNum (chs af aj aA b7 aV nd aE b8 cQ cY Bd)
theorem mJ (u:ByteArray) (c:Nat) (w:World) (hc:c≠0) :
  Calls Tryz.prog 11 #[.string (ByteArray.mk #[]),.int .i64 (c:Int),.int .i64 (c:Int),.string u] w fun e w'=>e=.returned (.bool true)∧Kept w w':=by
 have hci:((c:Int)==0)=false:=by rw[beq_eq_false_iff_ne];omega
 have hci2:¬((c:Int)=0):=by omega
 have hci3:((c:Int) != 0)=true:=by rw[bne_iff_ne];exact hci2
 clear hc
 go_enter Tryz.func11,Tryz.ntmps11
 go_wp2
 go_ret
 exact⟨rfl,Kept.rfl' _⟩
theorem km (r u:ByteArray) (z:Rat) (w:World) (h1:cQ z=0→b8 r z) (h2:cQ z≠0→r=ByteArray.mk #[]) (hu:b8 u z) (hs:u.size≤1099511627776) :
  Calls Tryz.prog 11 #[.string r,.int .i64 ((cQ z:Nat):Int),.int .i64 0,.string u] w fun e w'=>e=.returned (.bool true)∧Kept w w':=by
 have HL:=Lib.hid fun w'=>D.wb u z w' hu hs
 by_cases h0:cQ z=0
 ·obtain rfl:r=u:=(h1 h0).same hu
  rw[h0] at HL ⊢
  clear h1 h2 hu hs h0
  go_enter Tryz.func11,Tryz.ntmps11
  go_wp2_with fail
  refine (HL.out _).mono ?_
  rintro e w2 ⟨rfl,hk⟩
  clear HL
  go_wp2
  go_ret
  exact⟨rfl,hk⟩
 ·obtain rfl:=h2 h0
  generalize cQ z=c at *
  have hci:((c:Int)==0)=false:=by rw[beq_eq_false_iff_ne];omega
  have hci2:¬((c:Int)=0):=by omega
  have hci3:((c:Int) != 0)=true:=by rw[bne_iff_ne];exact hci2
  clear h0 h1 h2 hu hs
  go_enter Tryz.func11,Tryz.ntmps11
  go_wp2_with fail
  refine (HL.out _).mono ?_
  rintro e w2 ⟨rfl,hk⟩
  clear HL
  go_wp2
  go_ret
  exact⟨rfl,hk⟩
end Go.Proofs.YtnjcdpfibmckmaaGreatDoor.E
namespace Go.Proofs.YtnjcdpfibmckmaaGreatDoor
open Go.RowKit LimbNum
open DigNum (chs af aj aA b7 aV nd aE b8 cQ cY Bd dG)
theorem ko (s a:ByteArray) (x y:Int) (w:World) (hT:ij w) (hs:s.size≤9223372036854775807) (ha:a.size≤9223372036854775807) (c0:1300<s.size) :
  Calls Tryz.prog 3 #[.string s,.agg #[.int .i64 x,.int .i64 y],.string a] w fun e w'=>e=.returned (.bool true)∧Kept w w':=by
 have hA:=Lib.hid fun w' (hk:Kept w w')=>cG w' (hT.kept hk)
 have Hs:=Lib.hid (And.intro hs ha)
 have d0:(s.size:Int)>1300:=by omega
 clear hT hs ha c0
 go_enter Tryz.func3,Tryz.ntmps3
 go_wp2_with fail
 have hk:=ai w (.cells [.int .i64 x,.int .i64 y].toArray 22)
 have B:=ax w 22 [.int .i64 x,.int .i64 y]
 generalize w.alloc (.cells [.int .i64 x,.int .i64 y].toArray 22)=wa at *
 refine (hA.out _ hk).mono ?_
 rintro e wn ⟨rfl,hkn⟩
 have hk:=Kept.comp _ _ _ hk hkn
 have B:=B.kept hkn
 clear hkn
 have p0:=B.cell 0 rfl
 have p1:=B.cell 1 rfl
 go_wp2_with fail
 refine (hA.out _ hk).mono ?_
 rintro e w3 ⟨rfl,hk3⟩
 have hk:=Kept.comp _ _ _ hk hk3
 clear hk3
 go_wp2
 go_ret
 exact⟨rfl,hk⟩
theorem kq (s a:ByteArray) (x y:Int) (w:World) (hT:ij w) (hs:s.size≤9223372036854775807) (ha:a.size≤9223372036854775807) (c0:¬(1300<s.size)) (c1:1300<a.size) :
  Calls Tryz.prog 3 #[.string s,.agg #[.int .i64 x,.int .i64 y],.string a] w fun e w'=>e=.returned (.bool true)∧Kept w w':=by
 have hA:=Lib.hid fun w' (hk:Kept w w')=>cG w' (hT.kept hk)
 have Hs:=Lib.hid (And.intro hs ha)
 have d0:¬((s.size:Int)>1300):=by omega
 have d1:(a.size:Int)>1300:=by omega
 clear hT hs ha c0 c1
 go_enter Tryz.func3,Tryz.ntmps3
 go_wp2_with fail
 have hk:=ai w (.cells [.int .i64 x,.int .i64 y].toArray 22)
 have B:=ax w 22 [.int .i64 x,.int .i64 y]
 generalize w.alloc (.cells [.int .i64 x,.int .i64 y].toArray 22)=wa at *
 refine (hA.out _ hk).mono ?_
 rintro e wn ⟨rfl,hkn⟩
 have hk:=Kept.comp _ _ _ hk hkn
 have B:=B.kept hkn
 clear hkn
 have p0:=B.cell 0 rfl
 have p1:=B.cell 1 rfl
 go_wp2_with fail
 refine (hA.out _ hk).mono ?_
 rintro e w3 ⟨rfl,hk3⟩
 have hk:=Kept.comp _ _ _ hk hk3
 clear hk3
 go_wp2
 go_ret
 exact⟨rfl,hk⟩
theorem ks (s a:ByteArray) (x y:Int) (w:World) (hT:ij w) (hs:s.size≤9223372036854775807) (ha:a.size≤9223372036854775807) (c0:¬(1300<s.size)) (c1:¬(1300<a.size)) (c2:x < -999999999) :
  Calls Tryz.prog 3 #[.string s,.agg #[.int .i64 x,.int .i64 y],.string a] w fun e w'=>e=.returned (.bool true)∧Kept w w':=by
 have hA:=Lib.hid fun w' (hk:Kept w w')=>cG w' (hT.kept hk)
 have Hs:=Lib.hid (And.intro hs ha)
 have d0:¬((s.size:Int)>1300):=by omega
 have d1:¬((a.size:Int)>1300):=by omega
 have d2:x < -999999999:=by omega
 clear hT hs ha c0 c1 c2
 go_enter Tryz.func3,Tryz.ntmps3
 go_wp2_with fail
 have hk:=ai w (.cells [.int .i64 x,.int .i64 y].toArray 22)
 have B:=ax w 22 [.int .i64 x,.int .i64 y]
 generalize w.alloc (.cells [.int .i64 x,.int .i64 y].toArray 22)=wa at *
 refine (hA.out _ hk).mono ?_
 rintro e wn ⟨rfl,hkn⟩
 have hk:=Kept.comp _ _ _ hk hkn
 have B:=B.kept hkn
 clear hkn
 have p0:=B.cell 0 rfl
 have p1:=B.cell 1 rfl
 go_wp2_with fail
 refine (hA.out _ hk).mono ?_
 rintro e w3 ⟨rfl,hk3⟩
 have hk:=Kept.comp _ _ _ hk hk3
 clear hk3
 go_wp2
 go_ret
 exact⟨rfl,hk⟩
theorem ku (s a:ByteArray) (x y:Int) (w:World) (hT:ij w) (hs:s.size≤9223372036854775807) (ha:a.size≤9223372036854775807) (c0:¬(1300<s.size)) (c1:¬(1300<a.size)) (c2:¬(x < -999999999)) (c3:999999999<x) :
  Calls Tryz.prog 3 #[.string s,.agg #[.int .i64 x,.int .i64 y],.string a] w fun e w'=>e=.returned (.bool true)∧Kept w w':=by
 have hA:=Lib.hid fun w' (hk:Kept w w')=>cG w' (hT.kept hk)
 have Hs:=Lib.hid (And.intro hs ha)
 have d0:¬((s.size:Int)>1300):=by omega
 have d1:¬((a.size:Int)>1300):=by omega
 have d2:¬(x < -999999999):=by omega
 have d3:x>999999999:=by omega
 clear hT hs ha c0 c1 c2 c3
 go_enter Tryz.func3,Tryz.ntmps3
 go_wp2_with fail
 have hk:=ai w (.cells [.int .i64 x,.int .i64 y].toArray 22)
 have B:=ax w 22 [.int .i64 x,.int .i64 y]
 generalize w.alloc (.cells [.int .i64 x,.int .i64 y].toArray 22)=wa at *
 refine (hA.out _ hk).mono ?_
 rintro e wn ⟨rfl,hkn⟩
 have hk:=Kept.comp _ _ _ hk hkn
 have B:=B.kept hkn
 clear hkn
 have p0:=B.cell 0 rfl
 have p1:=B.cell 1 rfl
 go_wp2_with fail
 refine (hA.out _ hk).mono ?_
 rintro e w3 ⟨rfl,hk3⟩
 have hk:=Kept.comp _ _ _ hk hk3
 clear hk3
 go_wp2
 go_ret
 exact⟨rfl,hk⟩
theorem kx (s a:ByteArray) (x y:Int) (w:World) (hT:ij w) (hs:s.size≤9223372036854775807) (ha:a.size≤9223372036854775807) (c0:¬(1300<s.size)) (c1:¬(1300<a.size)) (c2:¬(x < -999999999)) (c3:¬(999999999<x)) (c4:y < -999999999) :
  Calls Tryz.prog 3 #[.string s,.agg #[.int .i64 x,.int .i64 y],.string a] w fun e w'=>e=.returned (.bool true)∧Kept w w':=by
 have hA:=Lib.hid fun w' (hk:Kept w w')=>cG w' (hT.kept hk)
 have Hs:=Lib.hid (And.intro hs ha)
 have d0:¬((s.size:Int)>1300):=by omega
 have d1:¬((a.size:Int)>1300):=by omega
 have d2:¬(x < -999999999):=by omega
 have d3:¬(x>999999999):=by omega
 have d4:y < -999999999:=by omega
 clear hT hs ha c0 c1 c2 c3 c4
 go_enter Tryz.func3,Tryz.ntmps3
 go_wp2_with fail
 have hk:=ai w (.cells [.int .i64 x,.int .i64 y].toArray 22)
 have B:=ax w 22 [.int .i64 x,.int .i64 y]
 generalize w.alloc (.cells [.int .i64 x,.int .i64 y].toArray 22)=wa at *
 refine (hA.out _ hk).mono ?_
 rintro e wn ⟨rfl,hkn⟩
 have hk:=Kept.comp _ _ _ hk hkn
 have B:=B.kept hkn
 clear hkn
 have p0:=B.cell 0 rfl
 have p1:=B.cell 1 rfl
 go_wp2_with fail
 refine (hA.out _ hk).mono ?_
 rintro e w3 ⟨rfl,hk3⟩
 have hk:=Kept.comp _ _ _ hk hk3
 clear hk3
 go_wp2
 go_ret
 exact⟨rfl,hk⟩
theorem ky (s a:ByteArray) (x y:Int) (w:World) (hT:ij w) (hs:s.size≤9223372036854775807) (ha:a.size≤9223372036854775807) (c0:¬(1300<s.size)) (c1:¬(1300<a.size)) (c2:¬(x < -999999999)) (c3:¬(999999999<x)) (c4:¬(y < -999999999)) (c5:999999999<y) :
  Calls Tryz.prog 3 #[.string s,.agg #[.int .i64 x,.int .i64 y],.string a] w fun e w'=>e=.returned (.bool true)∧Kept w w':=by
 have hA:=Lib.hid fun w' (hk:Kept w w')=>cG w' (hT.kept hk)
 have Hs:=Lib.hid (And.intro hs ha)
 have d0:¬((s.size:Int)>1300):=by omega
 have d1:¬((a.size:Int)>1300):=by omega
 have d2:¬(x < -999999999):=by omega
 have d3:¬(x>999999999):=by omega
 have d4:¬(y < -999999999):=by omega
 have d5:y>999999999:=by omega
 clear hT hs ha c0 c1 c2 c3 c4 c5
 go_enter Tryz.func3,Tryz.ntmps3
 go_wp2_with fail
 have hk:=ai w (.cells [.int .i64 x,.int .i64 y].toArray 22)
 have B:=ax w 22 [.int .i64 x,.int .i64 y]
 generalize w.alloc (.cells [.int .i64 x,.int .i64 y].toArray 22)=wa at *
 refine (hA.out _ hk).mono ?_
 rintro e wn ⟨rfl,hkn⟩
 have hk:=Kept.comp _ _ _ hk hkn
 have B:=B.kept hkn
 clear hkn
 have p0:=B.cell 0 rfl
 have p1:=B.cell 1 rfl
 go_wp2_with fail
 refine (hA.out _ hk).mono ?_
 rintro e w3 ⟨rfl,hk3⟩
 have hk:=Kept.comp _ _ _ hk hk3
 clear hk3
 go_wp2
 go_ret
 exact⟨rfl,hk⟩
theorem o5 (s a:ByteArray) (x y:Int) (w:World) (hT:ij w) (hs:s.size≤1300) (ha:a.size≤1300) (hx1 : -999999999≤x) (hx2:x≤999999999) (hy1 : -999999999≤y) (hy2:y≤999999999) (h0:y=0) (c:Nat) (hb:cY (chs a)=c) (hc:c≠0) :
  Calls Tryz.prog 3 #[.string s,.agg #[.int .i64 x,.int .i64 y],.string a] w fun e w'=>e=.returned (.bool true)∧Kept w w':=by
 have hA:=Lib.hid fun w' (hk:Kept w w')=>cG w' (hT.kept hk)
 have hTB:=Lib.hid fun w' (hk:Kept w w')=>(hT.kept hk).tb
 have I1:=Lib.hid fun w'=>E.dZ s w' (by omega)
 have I2:=Lib.hid fun w'=>E.e8 s w' (by omega)
 have HC:=Lib.hid fun w'=>D.iN a w' (by omega)
 subst h0
 have HO:=Lib.hid fun w'=>E.nY x w'
 have N0:=Lib.hid fun w'=>E.mJ (ByteArray.mk #[]) 6 w' (by decide)
 have HF:=Lib.hid fun w'=>E.kl a c w' (by omega) hb hc
 rw[hb] at HC
 have N2:=Lib.hid fun w'=>E.mJ (ByteArray.mk #[]) c w' hc
 have c1:((c:Int) != 0)=true:=by rw[bne_iff_ne];omega
 have c2:¬((c:Int)=0):=by omega
 have d0:¬((s.size:Int)>1300):=by omega
 have d1:¬((a.size:Int)>1300):=by omega
 have d2:¬(x < -999999999):=by omega
 have d3:¬(x>999999999):=by omega
 generalize dG (chs s)=R at *
 clear hT hs ha hx1 hx2 hy1 hy2 hb hc
 go_enter Tryz.func3,Tryz.ntmps3
 go_wp2_with fail
 have hk:=ai w (.cells [.int .i64 x,.int .i64 0].toArray 22)
 have B:=ax w 22 [.int .i64 x,.int .i64 0]
 generalize w.alloc (.cells [.int .i64 x,.int .i64 0].toArray 22)=wa at *
 refine (hA.out _ hk).mono ?_
 rintro e wn ⟨rfl,hkn⟩
 have hk:=Kept.comp _ _ _ hk hkn
 have B:=B.kept hkn
 clear hkn
 have p0:=B.cell 0 rfl
 have p1:=B.cell 1 rfl
 go_wp2_with fail
 refine (HO.out _).mono ?_
 rintro e wn ⟨rfl,hkn⟩
 have hk:=Kept.comp _ _ _ hk hkn
 have B:=B.kept hkn
 clear hkn
 have p0:=B.cell 0 rfl
 have p1:=B.cell 1 rfl
 go_wp2_with fail
 refine (HF.out _).mono ?_
 rintro e wn ⟨rfl,hkn⟩
 have hk:=Kept.comp _ _ _ hk hkn
 have B:=B.kept hkn
 clear hkn
 have p0:=B.cell 0 rfl
 have p1:=B.cell 1 rfl
 go_wp2_with fail
 refine (I1.out _).mono ?_
 rintro e wn ⟨rfl,hkn⟩
 have hk:=Kept.comp _ _ _ hk hkn
 have B:=B.kept hkn
 clear hkn
 have p0:=B.cell 0 rfl
 have p1:=B.cell 1 rfl
 go_wp2_with fail
 refine (I2.out _).mono ?_
 rintro e wn ⟨rfl,hkn⟩
 have hk:=Kept.comp _ _ _ hk hkn
 have B:=B.kept hkn
 clear hkn
 have p0:=B.cell 0 rfl
 have p1:=B.cell 1 rfl
 clear I1 I2 HO HF hA
 go_wp2_with fail
 refine (N0.out _).mono ?_
 rintro e wn ⟨rfl,hkn⟩
 have hk:=Kept.comp _ _ _ hk hkn
 have B:=B.kept hkn
 clear hkn
 have p0:=B.cell 0 rfl
 have p1:=B.cell 1 rfl
 go_wp2_with fail
 refine (HC.out _).mono ?_
 rintro e wn ⟨rfl,hkn⟩
 have hk:=Kept.comp _ _ _ hk hkn
 have B:=B.kept hkn
 clear hkn
 have p0:=B.cell 0 rfl
 have p1:=B.cell 1 rfl
 go_wp2_with fail
 refine (N2.out _).mono ?_
 rintro e wn ⟨rfl,hkn⟩
 have hk:=Kept.comp _ _ _ hk hkn
 have B:=B.kept hkn
 clear hkn
 have p0:=B.cell 0 rfl
 have p1:=B.cell 1 rfl
 go_wp2
 go_ret
 exact⟨rfl,hk⟩
theorem o8 (s a:ByteArray) (x y:Int) (w:World) (hT:ij w) (hs:s.size≤1300) (ha:a.size≤1300) (hx1 : -999999999≤x) (hx2:x≤999999999) (hy1 : -999999999≤y) (hy2:y≤999999999) (h0:y=0) (z:Rat) (hz:b8 a z) (bz:Bd z 600) :
  Calls Tryz.prog 3 #[.string s,.agg #[.int .i64 x,.int .i64 y],.string a] w fun e w'=>e=.returned (.bool true)∧Kept w w':=by
 have hA:=Lib.hid fun w' (hk:Kept w w')=>cG w' (hT.kept hk)
 have hTB:=Lib.hid fun w' (hk:Kept w w')=>(hT.kept hk).tb
 have I1:=Lib.hid fun w'=>E.dZ s w' (by omega)
 have I2:=Lib.hid fun w'=>E.e8 s w' (by omega)
 have HC:=Lib.hid fun w'=>D.iN a w' (by omega)
 subst h0
 have HO:=Lib.hid fun w'=>E.nY x w'
 have N0:=Lib.hid fun w'=>E.mJ (ByteArray.mk #[]) 6 w' (by decide)
 have hcz:=E.oH hz bz
 rw[hcz] at HC
 have HF:=Lib.hid fun w' htb=>E.j9 a z w' hz bz htb
 have RF:=Lib.hid fun w'=>D.mT a z 600 w' hz bz (by decide)
 have bf:=E.n7 bz
 have N3:=Lib.hid fun w' r u h1 h2 (h3:aE u z.floor)=>E.km r u (z.floor:Rat) w' h1 h2 (DigNum.gD h3) (by have:=E.gE (DigNum.gD h3) bf;omega)
 have d0:¬((s.size:Int)>1300):=by omega
 have d1:¬((a.size:Int)>1300):=by omega
 have d2:¬(x < -999999999):=by omega
 have d3:¬(x>999999999):=by omega
 generalize dG (chs s)=R at *
 generalize (z.floor:Rat)=fz at *
 generalize z.floor=fi at *
 clear hT hs ha hx1 hx2 hy1 hy2 hz bz hcz bf
 go_enter Tryz.func3,Tryz.ntmps3
 go_wp2_with fail
 have hk:=ai w (.cells [.int .i64 x,.int .i64 0].toArray 22)
 have B:=ax w 22 [.int .i64 x,.int .i64 0]
 generalize w.alloc (.cells [.int .i64 x,.int .i64 0].toArray 22)=wa at *
 refine (hA.out _ hk).mono ?_
 rintro e wn ⟨rfl,hkn⟩
 have hk:=Kept.comp _ _ _ hk hkn
 have B:=B.kept hkn
 clear hkn
 have p0:=B.cell 0 rfl
 have p1:=B.cell 1 rfl
 go_wp2_with fail
 refine (HO.out _).mono ?_
 rintro e wn ⟨rfl,hkn⟩
 have hk:=Kept.comp _ _ _ hk hkn
 have B:=B.kept hkn
 clear hkn
 have p0:=B.cell 0 rfl
 have p1:=B.cell 1 rfl
 go_wp2_with fail
 refine (HF.out _ (hTB.out _ hk)).mono ?_
 rintro e wn ⟨r2,rfl,ga2,gb2,hkn⟩
 have hk:=Kept.comp _ _ _ hk hkn
 have B:=B.kept hkn
 have p0:=B.cell 0 rfl
 have p1:=B.cell 1 rfl
 have GA2:=Lib.hid ga2
 have GB2:=Lib.hid gb2
 clear hkn ga2 gb2
 go_wp2_with fail
 refine (I1.out _).mono ?_
 rintro e wn ⟨rfl,hkn⟩
 have hk:=Kept.comp _ _ _ hk hkn
 have B:=B.kept hkn
 clear hkn
 have p0:=B.cell 0 rfl
 have p1:=B.cell 1 rfl
 go_wp2_with fail
 refine (I2.out _).mono ?_
 rintro e wn ⟨rfl,hkn⟩
 have hk:=Kept.comp _ _ _ hk hkn
 have B:=B.kept hkn
 clear hkn
 have p0:=B.cell 0 rfl
 have p1:=B.cell 1 rfl
 clear I1 I2 HO HF hA
 go_wp2_with fail
 refine (N0.out _).mono ?_
 rintro e wn ⟨rfl,hkn⟩
 have hk:=Kept.comp _ _ _ hk hkn
 have B:=B.kept hkn
 clear hkn
 have p0:=B.cell 0 rfl
 have p1:=B.cell 1 rfl
 go_wp2_with fail
 refine (HC.out _).mono ?_
 rintro e wn ⟨rfl,hkn⟩
 have hk:=Kept.comp _ _ _ hk hkn
 have B:=B.kept hkn
 clear hkn
 have p0:=B.cell 0 rfl
 have p1:=B.cell 1 rfl
 go_wp2_with fail
 generalize cQ fz=L2 at *
 refine (RF.out _).mono ?_
 rintro e wn ⟨u2,rfl,hu2,hkn⟩
 have hk:=Kept.comp _ _ _ hk hkn
 have B:=B.kept hkn
 have p0:=B.cell 0 rfl
 have p1:=B.cell 1 rfl
 have HU2:=Lib.hid hu2
 clear hkn hu2
 go_wp2_with fail
 refine (N3.out _ _ _ GA2.out GB2.out HU2.out).mono ?_
 rintro e wn ⟨rfl,hkn⟩
 have hk:=Kept.comp _ _ _ hk hkn
 have B:=B.kept hkn
 have p0:=B.cell 0 rfl
 have p1:=B.cell 1 rfl
 clear hkn
 go_wp2
 go_ret
 exact⟨rfl,hk⟩
theorem nZ (s a:ByteArray) (x y:Int) (w:World) (hT:ij w) (hs:s.size≤1300) (ha:a.size≤1300) (hx1 : -999999999≤x) (hx2:x≤999999999) (hy1 : -999999999≤y) (hy2:y≤999999999) (h0:y≠0) (c:Nat) (hb:cY (chs a)=c) (hc:c≠0) :
  Calls Tryz.prog 3 #[.string s,.agg #[.int .i64 x,.int .i64 y],.string a] w fun e w'=>e=.returned (.bool true)∧Kept w w':=by
 have hA:=Lib.hid fun w' (hk:Kept w w')=>cG w' (hT.kept hk)
 have hTB:=Lib.hid fun w' (hk:Kept w w')=>(hT.kept hk).tb
 have I1:=Lib.hid fun w'=>E.dZ s w' (by omega)
 have I2:=Lib.hid fun w'=>E.e8 s w' (by omega)
 have HC:=Lib.hid fun w'=>D.iN a w' (by omega)
 have y0:(y==0)=false:=by rw[beq_eq_false_iff_ne];exact h0
 have bq:=E.tN x y 19 (by omega) (by omega) (by decide)
 have HO:=Lib.hid fun w' htb=>E.nX x y w' (by omega) (by omega) (by omega) (by omega) h0 htb
 have RO:=Lib.hid fun w'=>D.ig x y w' h0 (by omega) (by omega)
 have N1:=Lib.hid fun w' r u h1 h2 (h3:b8 u (Rat.divInt x y))=>E.km r u (Rat.divInt x y) w' h1 h2 h3 (by have:=E.gE h3 bq;omega)
 have HF:=Lib.hid fun w'=>E.kl a c w' (by omega) hb hc
 rw[hb] at HC
 have N2:=Lib.hid fun w'=>E.mJ (ByteArray.mk #[]) c w' hc
 have c1:((c:Int) != 0)=true:=by rw[bne_iff_ne];omega
 have c2:¬((c:Int)=0):=by omega
 have d0:¬((s.size:Int)>1300):=by omega
 have d1:¬((a.size:Int)>1300):=by omega
 have d2:¬(x < -999999999):=by omega
 have d3:¬(x>999999999):=by omega
 have d4:¬(y < -999999999):=by omega
 have d5:¬(y>999999999):=by omega
 generalize dG (chs s)=R at *
 generalize Rat.divInt x y=q at *
 clear hT hs ha hx1 hx2 hy1 hy2 h0 bq hb hc
 go_enter Tryz.func3,Tryz.ntmps3
 go_wp2_with fail
 have hk:=ai w (.cells [.int .i64 x,.int .i64 y].toArray 22)
 have B:=ax w 22 [.int .i64 x,.int .i64 y]
 generalize w.alloc (.cells [.int .i64 x,.int .i64 y].toArray 22)=wa at *
 refine (hA.out _ hk).mono ?_
 rintro e wn ⟨rfl,hkn⟩
 have hk:=Kept.comp _ _ _ hk hkn
 have B:=B.kept hkn
 clear hkn
 have p0:=B.cell 0 rfl
 have p1:=B.cell 1 rfl
 go_wp2_with fail
 refine (HO.out _ (hTB.out _ hk)).mono ?_
 rintro e wn ⟨r1,rfl,ga1,gb1,hkn⟩
 have hk:=Kept.comp _ _ _ hk hkn
 have B:=B.kept hkn
 have p0:=B.cell 0 rfl
 have p1:=B.cell 1 rfl
 have GA1:=Lib.hid ga1
 have GB1:=Lib.hid gb1
 clear hkn ga1 gb1
 go_wp2_with fail
 refine (HF.out _).mono ?_
 rintro e wn ⟨rfl,hkn⟩
 have hk:=Kept.comp _ _ _ hk hkn
 have B:=B.kept hkn
 clear hkn
 have p0:=B.cell 0 rfl
 have p1:=B.cell 1 rfl
 go_wp2_with fail
 refine (I1.out _).mono ?_
 rintro e wn ⟨rfl,hkn⟩
 have hk:=Kept.comp _ _ _ hk hkn
 have B:=B.kept hkn
 clear hkn
 have p0:=B.cell 0 rfl
 have p1:=B.cell 1 rfl
 go_wp2_with fail
 refine (I2.out _).mono ?_
 rintro e wn ⟨rfl,hkn⟩
 have hk:=Kept.comp _ _ _ hk hkn
 have B:=B.kept hkn
 clear hkn
 have p0:=B.cell 0 rfl
 have p1:=B.cell 1 rfl
 clear I1 I2 HO HF hA
 go_wp2_with fail
 generalize cQ q=L1 at *
 refine (RO.out _).mono ?_
 rintro e wn ⟨u1,rfl,hu1,hkn⟩
 have hk:=Kept.comp _ _ _ hk hkn
 have B:=B.kept hkn
 have p0:=B.cell 0 rfl
 have p1:=B.cell 1 rfl
 have HU1:=Lib.hid hu1
 clear hkn hu1
 go_wp2_with fail
 refine (N1.out _ _ _ GA1.out GB1.out HU1.out).mono ?_
 rintro e wn ⟨rfl,hkn⟩
 have hk:=Kept.comp _ _ _ hk hkn
 have B:=B.kept hkn
 have p0:=B.cell 0 rfl
 have p1:=B.cell 1 rfl
 clear hkn
 go_wp2_with fail
 refine (HC.out _).mono ?_
 rintro e wn ⟨rfl,hkn⟩
 have hk:=Kept.comp _ _ _ hk hkn
 have B:=B.kept hkn
 clear hkn
 have p0:=B.cell 0 rfl
 have p1:=B.cell 1 rfl
 go_wp2_with fail
 refine (N2.out _).mono ?_
 rintro e wn ⟨rfl,hkn⟩
 have hk:=Kept.comp _ _ _ hk hkn
 have B:=B.kept hkn
 clear hkn
 have p0:=B.cell 0 rfl
 have p1:=B.cell 1 rfl
 go_wp2
 go_ret
 exact⟨rfl,hk⟩
theorem o0 (s a:ByteArray) (x y:Int) (w:World) (hT:ij w) (hs:s.size≤1300) (ha:a.size≤1300) (hx1 : -999999999≤x) (hx2:x≤999999999) (hy1 : -999999999≤y) (hy2:y≤999999999) (h0:y≠0) (z:Rat) (hz:b8 a z) (bz:Bd z 600) :
  Calls Tryz.prog 3 #[.string s,.agg #[.int .i64 x,.int .i64 y],.string a] w fun e w'=>e=.returned (.bool true)∧Kept w w':=by
 have hA:=Lib.hid fun w' (hk:Kept w w')=>cG w' (hT.kept hk)
 have hTB:=Lib.hid fun w' (hk:Kept w w')=>(hT.kept hk).tb
 have I1:=Lib.hid fun w'=>E.dZ s w' (by omega)
 have I2:=Lib.hid fun w'=>E.e8 s w' (by omega)
 have HC:=Lib.hid fun w'=>D.iN a w' (by omega)
 have y0:(y==0)=false:=by rw[beq_eq_false_iff_ne];exact h0
 have bq:=E.tN x y 19 (by omega) (by omega) (by decide)
 have HO:=Lib.hid fun w' htb=>E.nX x y w' (by omega) (by omega) (by omega) (by omega) h0 htb
 have RO:=Lib.hid fun w'=>D.ig x y w' h0 (by omega) (by omega)
 have N1:=Lib.hid fun w' r u h1 h2 (h3:b8 u (Rat.divInt x y))=>E.km r u (Rat.divInt x y) w' h1 h2 h3 (by have:=E.gE h3 bq;omega)
 have hcz:=E.oH hz bz
 rw[hcz] at HC
 have HF:=Lib.hid fun w' htb=>E.j9 a z w' hz bz htb
 have RF:=Lib.hid fun w'=>D.mT a z 600 w' hz bz (by decide)
 have bf:=E.n7 bz
 have N3:=Lib.hid fun w' r u h1 h2 (h3:aE u z.floor)=>E.km r u (z.floor:Rat) w' h1 h2 (DigNum.gD h3) (by have:=E.gE (DigNum.gD h3) bf;omega)
 have d0:¬((s.size:Int)>1300):=by omega
 have d1:¬((a.size:Int)>1300):=by omega
 have d2:¬(x < -999999999):=by omega
 have d3:¬(x>999999999):=by omega
 have d4:¬(y < -999999999):=by omega
 have d5:¬(y>999999999):=by omega
 generalize dG (chs s)=R at *
 generalize Rat.divInt x y=q at *
 generalize (z.floor:Rat)=fz at *
 generalize z.floor=fi at *
 clear hT hs ha hx1 hx2 hy1 hy2 h0 bq hz bz hcz bf
 go_enter Tryz.func3,Tryz.ntmps3
 go_wp2_with fail
 have hk:=ai w (.cells [.int .i64 x,.int .i64 y].toArray 22)
 have B:=ax w 22 [.int .i64 x,.int .i64 y]
 generalize w.alloc (.cells [.int .i64 x,.int .i64 y].toArray 22)=wa at *
 refine (hA.out _ hk).mono ?_
 rintro e wn ⟨rfl,hkn⟩
 have hk:=Kept.comp _ _ _ hk hkn
 have B:=B.kept hkn
 clear hkn
 have p0:=B.cell 0 rfl
 have p1:=B.cell 1 rfl
 go_wp2_with fail
 refine (HO.out _ (hTB.out _ hk)).mono ?_
 rintro e wn ⟨r1,rfl,ga1,gb1,hkn⟩
 have hk:=Kept.comp _ _ _ hk hkn
 have B:=B.kept hkn
 have p0:=B.cell 0 rfl
 have p1:=B.cell 1 rfl
 have GA1:=Lib.hid ga1
 have GB1:=Lib.hid gb1
 clear hkn ga1 gb1
 go_wp2_with fail
 refine (HF.out _ (hTB.out _ hk)).mono ?_
 rintro e wn ⟨r2,rfl,ga2,gb2,hkn⟩
 have hk:=Kept.comp _ _ _ hk hkn
 have B:=B.kept hkn
 have p0:=B.cell 0 rfl
 have p1:=B.cell 1 rfl
 have GA2:=Lib.hid ga2
 have GB2:=Lib.hid gb2
 clear hkn ga2 gb2
 go_wp2_with fail
 refine (I1.out _).mono ?_
 rintro e wn ⟨rfl,hkn⟩
 have hk:=Kept.comp _ _ _ hk hkn
 have B:=B.kept hkn
 clear hkn
 have p0:=B.cell 0 rfl
 have p1:=B.cell 1 rfl
 go_wp2_with fail
 refine (I2.out _).mono ?_
 rintro e wn ⟨rfl,hkn⟩
 have hk:=Kept.comp _ _ _ hk hkn
 have B:=B.kept hkn
 clear hkn
 have p0:=B.cell 0 rfl
 have p1:=B.cell 1 rfl
 clear I1 I2 HO HF hA
 go_wp2_with fail
 generalize cQ q=L1 at *
 refine (RO.out _).mono ?_
 rintro e wn ⟨u1,rfl,hu1,hkn⟩
 have hk:=Kept.comp _ _ _ hk hkn
 have B:=B.kept hkn
 have p0:=B.cell 0 rfl
 have p1:=B.cell 1 rfl
 have HU1:=Lib.hid hu1
 clear hkn hu1
 go_wp2_with fail
 refine (N1.out _ _ _ GA1.out GB1.out HU1.out).mono ?_
 rintro e wn ⟨rfl,hkn⟩
 have hk:=Kept.comp _ _ _ hk hkn
 have B:=B.kept hkn
 have p0:=B.cell 0 rfl
 have p1:=B.cell 1 rfl
 clear hkn
 go_wp2_with fail
 refine (HC.out _).mono ?_
 rintro e wn ⟨rfl,hkn⟩
 have hk:=Kept.comp _ _ _ hk hkn
 have B:=B.kept hkn
 clear hkn
 have p0:=B.cell 0 rfl
 have p1:=B.cell 1 rfl
 go_wp2_with fail
 generalize cQ fz=L2 at *
 refine (RF.out _).mono ?_
 rintro e wn ⟨u2,rfl,hu2,hkn⟩
 have hk:=Kept.comp _ _ _ hk hkn
 have B:=B.kept hkn
 have p0:=B.cell 0 rfl
 have p1:=B.cell 1 rfl
 have HU2:=Lib.hid hu2
 clear hkn hu2
 go_wp2_with fail
 refine (N3.out _ _ _ GA2.out GB2.out HU2.out).mono ?_
 rintro e wn ⟨rfl,hkn⟩
 have hk:=Kept.comp _ _ _ hk hkn
 have B:=B.kept hkn
 have p0:=B.cell 0 rfl
 have p1:=B.cell 1 rfl
 clear hkn
 go_wp2
 go_ret
 exact⟨rfl,hk⟩
theorem ll (s a:ByteArray) (x y:Int) (w:World) (hT:ij w) (hs:s.size≤9223372036854775807) (ha:a.size≤9223372036854775807) :
  Calls Tryz.prog 3 #[.string s,.agg #[.int .i64 x,.int .i64 y],.string a] w fun e w'=>e=.returned (.bool true)∧Kept w w':=by
 by_cases c0:1300<s.size
 ·exact ko s a x y w hT hs ha c0
 by_cases c1:1300<a.size
 ·exact kq s a x y w hT hs ha c0 c1
 by_cases c2:x < -999999999
 ·exact ks s a x y w hT hs ha c0 c1 c2
 by_cases c3:999999999<x
 ·exact ku s a x y w hT hs ha c0 c1 c2 c3
 by_cases c4:y < -999999999
 ·exact kx s a x y w hT hs ha c0 c1 c2 c3 c4
 by_cases c5:999999999<y
 ·exact ky s a x y w hT hs ha c0 c1 c2 c3 c4 c5
 by_cases h0:y=0
 ·by_cases hb:cY (chs a)=0
  ·obtain⟨z,hz,bz⟩:=DigNum.rR hb
   exact o8 s a x y w hT (by omega) (by omega) (by omega) (by omega) (by omega) (by omega) h0 z hz bz
  ·exact o5 s a x y w hT (by omega) (by omega) (by omega) (by omega) (by omega) (by omega) h0 _ rfl hb
 ·by_cases hb:cY (chs a)=0
  ·obtain⟨z,hz,bz⟩:=DigNum.rR hb
   exact o0 s a x y w hT (by omega) (by omega) (by omega) (by omega) (by omega) (by omega) h0 z hz bz
  ·exact nZ s a x y w hT (by omega) (by omega) (by omega) (by omega) (by omega) (by omega) h0 _ rfl hb
end Go.Proofs.YtnjcdpfibmckmaaGreatDoor
