import Derived.Test.YtiohhcljhadgcaaGreatDoorSf
import Derived.Test.YtiohhcljhadgcaaGreatDoorAw
import Derived.Test.YtiohhcljhadgcaaGreatDoorRn
set_option linter.unusedSectionVars false
set_option linter.unusedVariables false
set_option linter.unusedSimpArgs false
set_option maxRecDepth 100000
set_option maxHeartbeats 8000000
namespace Go.Proofs.YtiohhcljhadgcaaGreatDoor
open Go.RowKit LimbNum
def nk (w:World):Prop:=Go.Sx.kO (fun _=>none) w (fun _=>none)
theorem nk.kept {w w':World} (h:nk w) (k:Kept w w'):nk w':=fun g cs hg=>by
 obtain⟨⟨c,e,h1,h2⟩,h3⟩:=h g cs hg
 have hlt:g<w.heap.size:=(Array.getElem?_eq_some_iff.1 h1).1
 refine ⟨⟨c,e,by rw[k.block g hlt];exact h1,?_⟩,h3⟩
 exact Go.Sx.RVs.keep (Go.Sx.Ext.rfl' _) ⟨k.size,fun b c e f hb=>⟨c,f,by rw[k.block b (Array.getElem?_eq_some_iff.1 hb).1];exact hb,rfl⟩⟩ (fun a n ha=>by
  have hl:a.block<w.heap.size:=by
   rcases Nat.lt_or_ge a.block w.heap.size with h|h
   ·exact h
   ·unfold World.cell? at ha;rw[Array.getElem?_eq_none h] at ha;cases ha
  exact (k.cell hl).trans ha) _ _ h2
theorem iQ (w:World) (h:nk w):Calls Tryz.prog 12 #[] w fun e w'=>e=.returned (.bool true)∧Kept w w':=by
 refine (Go.Sx.Seat.yh (fun _=>none) w (fun _=>none) [] (by rw[Go.Sx.RVs]) ⟨fun b cells rb h1 h2=>(by cases h2),fun b b' x h1 h2 h3=>(by cases h3),h⟩).mono ?_
 rintro e w' ⟨v,rfl,h1,h2⟩
 rw[Go.Sx.RV] at h1
 subst h1
 exact⟨rfl,h2⟩
theorem kE {m:Go.Sx.Nm} {w:World} {ik:IntKind}:∀ (ns:List Int) (vs:List Value),Go.Sx.RVs m w (ns.map (Go.Sx.AV.int ik)) vs→vs=ns.map (Value.int ik)
 | [],vs,h=>by
  rw[List.map_nil,Go.Sx.RVs] at h
  exact h
 | n::ns,vs,h=>by
  rw[List.map_cons,Go.Sx.RVs] at h
  obtain⟨v,l,rfl,h1,h2⟩:=h
  rw[Go.Sx.RV] at h1
  rw[List.map_cons,kE ns l h2,h1]
theorem nk.tb {w:World} (h:nk w):E.TB w:=by
 intro w' hk
 have h':=h.kept hk
 have hg:Go.Sx.Glob.gt.get 4=some (Lib.pow10Tab.map (Go.Sx.AV.int .u64)):=by kernel_rfl
 obtain⟨⟨c,e,h1,h2⟩,_⟩:=h' 4 _ hg
 have h3:=kE _ _ h2
 have hn : Tryz.prog.globalNamed "internal/strconv.uint64pow10" = some 4 := by kernel_rfl
 unfold Lib.TabIs World.var?
 rw[hn]
 simp only[Option.bind_some,h1]
 congr 1
 rw[←h3]
end Go.Proofs.YtiohhcljhadgcaaGreatDoor
namespace Go.Proofs.YtiohhcljhadgcaaGreatDoor.E
open Go.RowKit LimbNum
open DigNum (chs ag al aD bp aY nd aH aC bM bw Bd)
theorem gP (g c a b:Nat) (w:World) (h0:w.cell? ⟨g,0,none⟩=some (.int .i64 (a:Int))) (h1:w.cell? ⟨g,1,none⟩=some (.int .i64 (b:Int))) :
  Calls Tryz.prog 13 #[.slice (some ⟨g,0,none⟩) 2 c] w fun e w'=>e=.returned (.int .i64 ((bh a b:Nat):Int))∧Kept w w':=by
 have HR:Hid ((a≠0→bh a b=a)∧(a=0→bh a b=b)):=Lib.hid ⟨fun h=>by unfold bh;rw[if_neg h],fun h=>by unfold bh;rw[if_pos h]⟩
 generalize bh a b=r at *
 go_enter Tryz.func13,Tryz.ntmps13
 go_wp2
 go_loopw [3] (fun i wr=>∃ k:Nat,i=.int .i64 k∧k≤2∧Hid (1≤k→a=0)∧Hid (2≤k→b=0)∧∃ q,wr=w.drewN q) (fun i _=>2-(intOf i).toNat)
 case atStart=>exact⟨0,rfl,by omega,Lib.hid fun h=>absurd h (by decide),Lib.hid fun h=>absurd h (by decide),0,rfl⟩
 case round=>
  obtain⟨k,rfl,hk,ha,hb,q,rfl⟩:=hrel
  have hcase:k=0∨k=1∨k=2:=by omega
  rcases hcase with rfl|rfl|rfl
  ·by_cases haz:a=0
   ·have hai:((a:Int) != 0)=false:=by simp[haz]
    have hai2:((a:Int)=0):=by omega
    have Ha:=Lib.hid haz
    clear haz
    go_wp2
    go_roundw
    case rel=>exact⟨1,rfl,by omega,Lib.hid fun _=>Ha.out,Lib.hid fun h=>absurd h (by decide),_,rfl⟩
    case measure=>simp[intOf]
   ·have hai:((a:Int) != 0)=true:=by rw[bne_iff_ne];omega
    have hai2:¬((a:Int)=0):=by omega
    have HE:=Lib.hid (HR.out.1 haz)
    clear haz HR
    go_wp2
    go_ret
    exact⟨congrArg (fun n:Nat=>Ending.returned (Value.int .i64 (n:Int))) HE.out.symm,ak (Below.refl _ _) _⟩
  ·have Ha:=Lib.hid (ha.out (by decide))
   have HE:=Lib.hid (HR.out.2 Ha.out)
   by_cases haz:b=0
   ·have hai:((b:Int) != 0)=false:=by simp[haz]
    have hai2:((b:Int)=0):=by omega
    have Hb:=Lib.hid haz
    clear haz
    go_wp2
    go_roundw
    case rel=>exact⟨2,rfl,by omega,Lib.hid fun _=>Ha.out,Lib.hid fun _=>Hb.out,_,rfl⟩
    case measure=>simp[intOf]
   ·have hai:((b:Int) != 0)=true:=by rw[bne_iff_ne];omega
    have hai2:¬((b:Int)=0):=by omega
    clear haz HR
    go_wp2
    go_ret
    exact⟨congrArg (fun n:Nat=>Ending.returned (Value.int .i64 (n:Int))) HE.out.symm,ak (Below.refl _ _) _⟩
  ·have HE:=Lib.hid ((HR.out.2 (ha.out (by decide))).trans (hb.out (by decide)))
   clear HR ha hb
   go_wp2
   go_ret
   exact⟨congrArg (fun n:Nat=>Ending.returned (Value.int .i64 (n:Int))) HE.out.symm,ak (Below.refl _ _) _⟩
theorem vj (u:ByteArray) (c:Nat) (w:World) (hc:c≠0) :
  Calls Tryz.prog 21 #[.string (ByteArray.mk #[]),.int .i64 (c:Int),.int .i64 (c:Int),.string u] w fun e w'=>e=.returned (.bool true)∧Kept w w':=by
 have hci:((c:Int)==0)=false:=by rw[beq_eq_false_iff_ne];omega
 have hci2:¬((c:Int)=0):=by omega
 have hci3:((c:Int) != 0)=true:=by rw[bne_iff_ne];exact hci2
 clear hc
 go_enter Tryz.func21,Tryz.ntmps21
 go_wp2
 go_ret
 exact⟨rfl,Kept.rfl' _⟩
theorem ft (r u:ByteArray) (z:Rat) (w:World) (h1:bM z=0→aC r z) (h2:bM z≠0→r=ByteArray.mk #[]) (hu:aC u z) (hs:u.size≤1099511627776) :
  Calls Tryz.prog 21 #[.string r,.int .i64 ((bM z:Nat):Int),.int .i64 0,.string u] w fun e w'=>e=.returned (.bool true)∧Kept w w':=by
 have HL:=Lib.hid fun w'=>D.vS u z w' hu hs
 by_cases h0:bM z=0
 ·obtain rfl:r=u:=(h1 h0).same hu
  rw[h0] at HL ⊢
  clear h1 h2 hu hs h0
  go_enter Tryz.func21,Tryz.ntmps21
  go_wp2_with fail
  refine (HL.out _).mono ?_
  rintro e w2 ⟨rfl,hk⟩
  clear HL
  go_wp2
  go_ret
  exact⟨rfl,hk⟩
 ·obtain rfl:=h2 h0
  generalize bM z=c at *
  have hci:((c:Int)==0)=false:=by rw[beq_eq_false_iff_ne];omega
  have hci2:¬((c:Int)=0):=by omega
  have hci3:((c:Int) != 0)=true:=by rw[bne_iff_ne];exact hci2
  clear h0 h1 h2 hu hs
  go_enter Tryz.func21,Tryz.ntmps21
  go_wp2_with fail
  refine (HL.out _).mono ?_
  rintro e w2 ⟨rfl,hk⟩
  clear HL
  go_wp2
  go_ret
  exact⟨rfl,hk⟩
theorem Aq (u:Int) (c:Nat) (w:World) (hc:c≠0) :
  Calls Tryz.prog 22 #[.int .i64 0,.int .i64 (c:Int),.int .i64 (c:Int),.int .i64 u] w fun e w'=>e=.returned (.bool true)∧Kept w w':=by
 have hci:((c:Int)==0)=false:=by rw[beq_eq_false_iff_ne];omega
 have hci2:¬((c:Int)=0):=by omega
 have hci3:((c:Int) != 0)=true:=by rw[bne_iff_ne];exact hci2
 clear hc
 go_enter Tryz.func22,Tryz.ntmps22
 go_wp2
 go_ret
 exact⟨rfl,Kept.rfl' _⟩
theorem se (u:Int) (w:World) :
  Calls Tryz.prog 22 #[.int .i64 u,.int .i64 0,.int .i64 0,.int .i64 u] w fun e w'=>e=.returned (.bool true)∧Kept w w':=by
 go_enter Tryz.func22,Tryz.ntmps22
 go_wp2
 go_ret
 exact⟨rfl,Kept.rfl' _⟩
end Go.Proofs.YtiohhcljhadgcaaGreatDoor.E
namespace Go.Proofs.YtiohhcljhadgcaaGreatDoor
open Go.RowKit LimbNum
open DigNum (chs ag al aD bp aY nd aH aC bM bw Bd)
open E (bh)
theorem mE (s t:ByteArray) (w:World) (hT:nk w) (hl:1300<s.size∨1300<t.size) (hs:s.size≤9223372036854775807) (ht:t.size≤9223372036854775807) :
  Calls Tryz.prog 3 #[.string s,.string t] w fun e w'=>e=.returned (.bool true)∧Kept w w':=by
 have hA:=Lib.hid fun w' (hk:Kept w w')=>iQ w' (hT.kept hk)
 have Hs:=Lib.hid (And.intro hs ht)
 clear hT hs ht
 by_cases h1:1300<s.size
 ·have h1i:((s.size:Int)>1300):=by omega
  clear hl
  go_enter Tryz.func3,Tryz.ntmps3
  go_wp2_with fail
  refine (hA.out _ (Kept.rfl' _)).mono ?_
  rintro e w2 ⟨rfl,hk⟩
  go_wp2_with fail
  refine (hA.out _ hk).mono ?_
  rintro e w3 ⟨rfl,hk3⟩
  have hk:=Kept.comp _ _ _ hk hk3
  clear hk3
  go_wp2
  go_ret
  exact⟨rfl,hk⟩
 ·have h1i:¬((s.size:Int)>1300):=by omega
  have h2i:((t.size:Int)>1300):=by omega
  clear hl
  go_enter Tryz.func3,Tryz.ntmps3
  go_wp2_with fail
  refine (hA.out _ (Kept.rfl' _)).mono ?_
  rintro e w2 ⟨rfl,hk⟩
  go_wp2_with fail
  refine (hA.out _ hk).mono ?_
  rintro e w3 ⟨rfl,hk3⟩
  have hk:=Kept.comp _ _ _ hk hk3
  clear hk3
  go_wp2
  go_ret
  exact⟨rfl,hk⟩
theorem om (s t:ByteArray) (w:World) (hT:nk w) (hs:s.size≤1300) (ht:t.size≤1300) (hb:bh (bw (chs s)) (bw (chs t))≠0) :
  Calls Tryz.prog 3 #[.string s,.string t] w fun e w'=>e=.returned (.bool true)∧Kept w w':=by
 have hA:=Lib.hid fun w' (hk:Kept w w')=>iQ w' (hT.kept hk)
 have HC1:=Lib.hid fun w'=>D.eT s w' (by omega)
 have HC2:=Lib.hid fun w'=>D.eT t w' (by omega)
 have HNC:=Lib.hid fun w'=>E.gQ s w' (by omega)
 obtain⟨c,hc⟩:∃ c,bh (bw (chs s)) (bw (chs t))=c:=⟨_,rfl⟩
 rw[hc] at hb
 have HA:=Lib.hid fun w'=>E.uh s t c w' (by omega) (by omega) hc hb
 have HS:=Lib.hid fun w'=>E.uk s t c w' (by omega) (by omega) hc hb
 have HM:=Lib.hid fun w'=>E.uj s t c w' (by omega) (by omega) hc hb
 have HD:=Lib.hid fun w'=>E.ui s t c w' (by omega) (by omega) hc hb
 have HO:=Lib.hid fun w'=>E.qM s t c w' (by omega) (by omega) hc hb
 have HN:=Lib.hid fun w'=>E.vj (ByteArray.mk #[]) c w' hb
 have HI:=Lib.hid fun w'=>E.Aq 0 c w' hb
 have hsi:¬((s.size:Int)>1300):=by omega
 have hti:¬((t.size:Int)>1300):=by omega
 generalize hza:bw (chs s)=za at *
 generalize hzb:bw (chs t)=zb at *
 have hcb:((c:Int) != 0)=true:=by rw[bne_iff_ne];omega
 have hcb2:¬((c:Int)=0):=by omega
 have Hc:=Lib.hid hc
 clear hT hs ht hb hza hzb hc
 go_enter Tryz.func3,Tryz.ntmps3
 go_wp2_with fail
 refine (hA.out _ (Kept.rfl' _)).mono ?_
 rintro e wn ⟨rfl,hk⟩
 clear hA
 go_wp2_with fail
 refine (HC1.out _).mono ?_
 rintro e wn ⟨rfl,hkn⟩
 have hk:=Kept.comp _ _ _ hk hkn
 clear hkn
 go_wp2_with fail
 refine (HC2.out _).mono ?_
 rintro e wn ⟨rfl,hkn⟩
 have hk:=Kept.comp _ _ _ hk hkn
 clear hkn
 have kn:=aj wn (.cells ([.int .i64 (za:Int),.int .i64 (zb:Int)]).toArray 3)
 have BF:=aA wn 3 [.int .i64 (za:Int),.int .i64 (zb:Int)]
 go_wp2_with fail
 have hk:=Kept.comp _ _ _ hk kn
 have HF:Hid (Calls Tryz.prog 13 #[.slice (some ⟨wn.heap.size,0,none⟩) 2 2] (wn.alloc (.cells ([.int .i64 (za:Int),.int .i64 (zb:Int)]).toArray 3)) fun e w'=>e=.returned (.int .i64 (c:Int))∧Kept (wn.alloc (.cells ([.int .i64 (za:Int),.int .i64 (zb:Int)]).toArray 3)) w'):=Lib.hid (by have:=E.gP wn.heap.size 2 za zb _ (BF.cell 0 rfl) (BF.cell 1 rfl);rwa [Hc.out] at this)
 clear kn BF
 refine (HF.out).mono ?_
 rintro e wn ⟨rfl,hkn⟩
 have hk:=Kept.comp _ _ _ hk hkn
 clear hkn
 clear HF
 go_wp2_with fail
 refine (HNC.out _).mono ?_
 rintro e wn ⟨rfl,hkn⟩
 have hk:=Kept.comp _ _ _ hk hkn
 clear hkn
 go_wp2_with fail
 refine (HC1.out _).mono ?_
 rintro e wn ⟨rfl,hkn⟩
 have hk:=Kept.comp _ _ _ hk hkn
 clear hkn
 go_wp2_with fail
 refine (HA.out _).mono ?_
 rintro e wn ⟨rfl,hkn⟩
 have hk:=Kept.comp _ _ _ hk hkn
 clear hkn
 go_wp2_with fail
 refine (HS.out _).mono ?_
 rintro e wn ⟨rfl,hkn⟩
 have hk:=Kept.comp _ _ _ hk hkn
 clear hkn
 go_wp2_with fail
 refine (HM.out _).mono ?_
 rintro e wn ⟨rfl,hkn⟩
 have hk:=Kept.comp _ _ _ hk hkn
 clear hkn
 go_wp2_with fail
 refine (HD.out _).mono ?_
 rintro e wn ⟨rfl,hkn⟩
 have hk:=Kept.comp _ _ _ hk hkn
 clear hkn
 go_wp2_with fail
 refine (HO.out _).mono ?_
 rintro e wn ⟨rfl,hkn⟩
 have hk:=Kept.comp _ _ _ hk hkn
 clear hkn
 go_wp2_with fail
 refine (HN.out _).mono ?_
 rintro e wn ⟨rfl,hkn⟩
 have hk:=Kept.comp _ _ _ hk hkn
 clear hkn
 go_wp2_with fail
 refine (HN.out _).mono ?_
 rintro e wn ⟨rfl,hkn⟩
 have hk:=Kept.comp _ _ _ hk hkn
 clear hkn
 go_wp2_with fail
 refine (HN.out _).mono ?_
 rintro e wn ⟨rfl,hkn⟩
 have hk:=Kept.comp _ _ _ hk hkn
 clear hkn
 go_wp2_with fail
 refine (HN.out _).mono ?_
 rintro e wn ⟨rfl,hkn⟩
 have hk:=Kept.comp _ _ _ hk hkn
 clear hkn
 go_wp2_with fail
 refine (HI.out _).mono ?_
 rintro e wn ⟨rfl,hkn⟩
 have hk:=Kept.comp _ _ _ hk hkn
 clear hkn
 go_wp2
 go_ret
 exact⟨rfl,hk⟩
theorem mG (s t:ByteArray) (x y:Rat) (w:World) (hT:nk w) (hs:s.size≤1300) (ht:t.size≤1300) (hx:aC s x) (hy:aC t y) (bx:Bd x 600) (bl:Bd y 600) (h0:y=0) :
  Calls Tryz.prog 3 #[.string s,.string t] w fun e w'=>e=.returned (.bool true)∧Kept w w':=by
 have hA:=Lib.hid fun w' (hk:Kept w w')=>iQ w' (hT.kept hk)
 have hTB:=Lib.hid fun w' (hk:Kept w w')=>(hT.kept hk).tb
 have HC1:=Lib.hid fun w'=>D.eT s w' (by omega)
 have HC2:=Lib.hid fun w'=>D.eT t w' (by omega)
 have HNC:=Lib.hid fun w'=>E.gQ s w' (by omega)
 have hc:bh (bw (chs s)) (bw (chs t))=0:=by rw[E.bX hx bx,E.bX hy bl];rfl
 have HA:=Lib.hid fun w' htb=>E.lP s t x y w' hx hy bx bl htb
 have HS:=Lib.hid fun w' htb=>E.lS s t x y w' hx hy bx bl htb
 have HM:=Lib.hid fun w' htb=>E.lQ s t x y w' hx hy bx bl htb
 have HD:=Lib.hid fun w' htb=>E.qL s t x y w' hx hy bx bl htb h0
 have HO:=Lib.hid fun w' htb=>E.je s t x y w' hx hy bx bl htb
 have RA:=Lib.hid fun w'=>D.mW s t x y 600 600 w' hx hy bx bl (by decide) (by decide)
 have RS:=Lib.hid fun w'=>D.nj s t x y 600 600 w' hx hy bx bl (by decide) (by decide)
 have RM:=Lib.hid fun w'=>D.nh s t x y 600 600 w' hx hy bx bl (by decide) (by decide)
 have RC:=Lib.hid fun w'=>D.ri s t x y 600 600 w' hx hy bx bl (by decide) (by decide)
 have RZ:=Lib.hid fun w'=>D.nc t y w' hy
 rw[decide_eq_true h0] at RZ
 have N1:=Lib.hid fun w' r u h1 h2 (h3:aC u (x+y))=>E.ft r u (x+y) w' h1 h2 h3 (by have:=E.bm h3 (DigNum.kU bx bl);omega)
 have N2:=Lib.hid fun w' r u h1 h2 (h3:aC u (x-y))=>E.ft r u (x-y) w' h1 h2 h3 (by have:=E.bm h3 (show Bd (x-y) 1201 by rw[Rat.sub_eq_add_neg];exact DigNum.kU bx (DigNum.nr bl));omega)
 have N3:=Lib.hid fun w' r u h1 h2 (h3:aC u (x*y))=>E.ft r u (x*y) w' h1 h2 h3 (by have:=E.bm h3 (DigNum.np bx bl);omega)
 have HI:=Lib.hid fun w'=>E.se (x-y).num.sign w'
 have HB:=Lib.hid fun w'=>E.vj (ByteArray.mk #[]) 6 w' (by decide)
 have hsi:¬((s.size:Int)>1300):=by omega
 have hti:¬((t.size:Int)>1300):=by omega
 generalize hza:bw (chs s)=za at *
 generalize hzb:bw (chs t)=zb at *
 generalize (x-y).num.sign=sg at *
 have Hc:=Lib.hid hc
 clear hT hs ht hza hzb hc hx hy bx bl h0
 go_enter Tryz.func3,Tryz.ntmps3
 go_wp2_with fail
 refine (hA.out _ (Kept.rfl' _)).mono ?_
 rintro e wn ⟨rfl,hk⟩
 clear hA
 go_wp2_with fail
 refine (HC1.out _).mono ?_
 rintro e wn ⟨rfl,hkn⟩
 have hk:=Kept.comp _ _ _ hk hkn
 clear hkn
 go_wp2_with fail
 refine (HC2.out _).mono ?_
 rintro e wn ⟨rfl,hkn⟩
 have hk:=Kept.comp _ _ _ hk hkn
 clear hkn
 have kn:=aj wn (.cells ([.int .i64 (za:Int),.int .i64 (zb:Int)]).toArray 3)
 have BF:=aA wn 3 [.int .i64 (za:Int),.int .i64 (zb:Int)]
 go_wp2_with fail
 have hk:=Kept.comp _ _ _ hk kn
 have HF:Hid (Calls Tryz.prog 13 #[.slice (some ⟨wn.heap.size,0,none⟩) 2 2] (wn.alloc (.cells ([.int .i64 (za:Int),.int .i64 (zb:Int)]).toArray 3)) fun e w'=>e=.returned (.int .i64 0)∧Kept (wn.alloc (.cells ([.int .i64 (za:Int),.int .i64 (zb:Int)]).toArray 3)) w'):=Lib.hid (by have:=E.gP wn.heap.size 2 za zb _ (BF.cell 0 rfl) (BF.cell 1 rfl);rwa [Hc.out] at this)
 clear kn BF
 refine (HF.out).mono ?_
 rintro e wn ⟨rfl,hkn⟩
 have hk:=Kept.comp _ _ _ hk hkn
 clear hkn
 clear HF
 go_wp2_with fail
 refine (HNC.out _).mono ?_
 rintro e wn ⟨rfl,hkn⟩
 have hk:=Kept.comp _ _ _ hk hkn
 clear hkn
 go_wp2_with fail
 refine (HC1.out _).mono ?_
 rintro e wn ⟨rfl,hkn⟩
 have hk:=Kept.comp _ _ _ hk hkn
 clear hkn
 go_wp2_with fail
 refine (HA.out _ (hTB.out _ hk)).mono ?_
 rintro e wn ⟨r1,rfl,ga1,gb1,hkn⟩
 have hk:=Kept.comp _ _ _ hk hkn
 have GA1:=Lib.hid ga1
 have GB1:=Lib.hid gb1
 clear hkn ga1 gb1
 go_wp2_with fail
 refine (HS.out _ (hTB.out _ hk)).mono ?_
 rintro e wn ⟨r2,rfl,ga2,gb2,hkn⟩
 have hk:=Kept.comp _ _ _ hk hkn
 have GA2:=Lib.hid ga2
 have GB2:=Lib.hid gb2
 clear hkn ga2 gb2
 go_wp2_with fail
 refine (HM.out _ (hTB.out _ hk)).mono ?_
 rintro e wn ⟨r3,rfl,ga3,gb3,hkn⟩
 have hk:=Kept.comp _ _ _ hk hkn
 have GA3:=Lib.hid ga3
 have GB3:=Lib.hid gb3
 clear hkn ga3 gb3
 go_wp2_with fail
 refine (HD.out _ (hTB.out _ hk)).mono ?_
 rintro e wn ⟨rfl,hkn⟩
 have hk:=Kept.comp _ _ _ hk hkn
 clear hkn
 go_wp2_with fail
 refine (HO.out _ (hTB.out _ hk)).mono ?_
 rintro e wn ⟨rfl,hkn⟩
 have hk:=Kept.comp _ _ _ hk hkn
 clear hkn HA HS HM HD HO HC1 HC2 HNC
 generalize bM (x+y)=L1 at *
 generalize bM (x-y)=L2 at *
 generalize bM (x*y)=L3 at *
 go_wp2_with fail
 refine (RA.out _).mono ?_
 rintro e wn ⟨u1,rfl,hu1,hkn⟩
 have hk:=Kept.comp _ _ _ hk hkn
 have HU1:=Lib.hid hu1
 clear hkn hu1
 go_wp2_with fail
 refine (N1.out _ _ _ GA1.out GB1.out HU1.out).mono ?_
 rintro e wn ⟨rfl,hkn⟩
 have hk:=Kept.comp _ _ _ hk hkn
 clear hkn
 go_wp2_with fail
 refine (RS.out _).mono ?_
 rintro e wn ⟨u2,rfl,hu2,hkn⟩
 have hk:=Kept.comp _ _ _ hk hkn
 have HU2:=Lib.hid hu2
 clear hkn hu2
 go_wp2_with fail
 refine (N2.out _ _ _ GA2.out GB2.out HU2.out).mono ?_
 rintro e wn ⟨rfl,hkn⟩
 have hk:=Kept.comp _ _ _ hk hkn
 clear hkn
 go_wp2_with fail
 refine (RM.out _).mono ?_
 rintro e wn ⟨u3,rfl,hu3,hkn⟩
 have hk:=Kept.comp _ _ _ hk hkn
 have HU3:=Lib.hid hu3
 clear hkn hu3
 go_wp2_with fail
 refine (N3.out _ _ _ GA3.out GB3.out HU3.out).mono ?_
 rintro e wn ⟨rfl,hkn⟩
 have hk:=Kept.comp _ _ _ hk hkn
 clear hkn
 go_wp2_with fail
 refine (RC.out _).mono ?_
 rintro e wn ⟨rfl,hkn⟩
 have hk:=Kept.comp _ _ _ hk hkn
 clear hkn
 go_wp2_with fail
 refine (HI.out _).mono ?_
 rintro e wn ⟨rfl,hkn⟩
 have hk:=Kept.comp _ _ _ hk hkn
 clear hkn
 go_wp2_with fail
 refine (RZ.out _).mono ?_
 rintro e wz ⟨rfl,rfl⟩
 clear RZ
 go_wp2_with fail
 refine (HB.out _).mono ?_
 rintro e wn ⟨rfl,hkn⟩
 have hk:=Kept.comp _ _ _ hk hkn
 clear hkn
 go_wp2
 go_ret
 exact⟨rfl,hk⟩
theorem mD (s t:ByteArray) (x y:Rat) (w:World) (hT:nk w) (hs:s.size≤1300) (ht:t.size≤1300) (hx:aC s x) (hy:aC t y) (bx:Bd x 600) (bl:Bd y 600) (h0:y≠0) :
  Calls Tryz.prog 3 #[.string s,.string t] w fun e w'=>e=.returned (.bool true)∧Kept w w':=by
 have hA:=Lib.hid fun w' (hk:Kept w w')=>iQ w' (hT.kept hk)
 have hTB:=Lib.hid fun w' (hk:Kept w w')=>(hT.kept hk).tb
 have HC1:=Lib.hid fun w'=>D.eT s w' (by omega)
 have HC2:=Lib.hid fun w'=>D.eT t w' (by omega)
 have HNC:=Lib.hid fun w'=>E.gQ s w' (by omega)
 have hc:bh (bw (chs s)) (bw (chs t))=0:=by rw[E.bX hx bx,E.bX hy bl];rfl
 have HA:=Lib.hid fun w' htb=>E.lP s t x y w' hx hy bx bl htb
 have HS:=Lib.hid fun w' htb=>E.lS s t x y w' hx hy bx bl htb
 have HM:=Lib.hid fun w' htb=>E.lQ s t x y w' hx hy bx bl htb
 have HD:=Lib.hid fun w' htb=>E.sG s t x y w' hx hy bx bl htb h0
 have HO:=Lib.hid fun w' htb=>E.je s t x y w' hx hy bx bl htb
 have RA:=Lib.hid fun w'=>D.mW s t x y 600 600 w' hx hy bx bl (by decide) (by decide)
 have RS:=Lib.hid fun w'=>D.nj s t x y 600 600 w' hx hy bx bl (by decide) (by decide)
 have RM:=Lib.hid fun w'=>D.nh s t x y 600 600 w' hx hy bx bl (by decide) (by decide)
 have RC:=Lib.hid fun w'=>D.ri s t x y 600 600 w' hx hy bx bl (by decide) (by decide)
 have RZ:=Lib.hid fun w'=>D.nc t y w' hy
 rw[decide_eq_false h0] at RZ
 have N1:=Lib.hid fun w' r u h1 h2 (h3:aC u (x+y))=>E.ft r u (x+y) w' h1 h2 h3 (by have:=E.bm h3 (DigNum.kU bx bl);omega)
 have N2:=Lib.hid fun w' r u h1 h2 (h3:aC u (x-y))=>E.ft r u (x-y) w' h1 h2 h3 (by have:=E.bm h3 (show Bd (x-y) 1201 by rw[Rat.sub_eq_add_neg];exact DigNum.kU bx (DigNum.nr bl));omega)
 have N3:=Lib.hid fun w' r u h1 h2 (h3:aC u (x*y))=>E.ft r u (x*y) w' h1 h2 h3 (by have:=E.bm h3 (DigNum.np bx bl);omega)
 have HI:=Lib.hid fun w'=>E.se (x-y).num.sign w'
 have RD:=Lib.hid fun w'=>D.xN s t x y 600 600 w' hx hy bx bl (by decide) (by decide) h0
 have N4:=Lib.hid fun w' r u h1 h2 (h3:aC u (x/y))=>E.ft r u (x/y) w' h1 h2 h3 (by have:=E.bm h3 (show Bd (x/y) 1200 by rw[Rat.div_def];exact DigNum.np bx (DigNum.nn bl));omega)
 have hsi:¬((s.size:Int)>1300):=by omega
 have hti:¬((t.size:Int)>1300):=by omega
 generalize hza:bw (chs s)=za at *
 generalize hzb:bw (chs t)=zb at *
 generalize (x-y).num.sign=sg at *
 have Hc:=Lib.hid hc
 clear hT hs ht hza hzb hc hx hy bx bl h0
 go_enter Tryz.func3,Tryz.ntmps3
 go_wp2_with fail
 refine (hA.out _ (Kept.rfl' _)).mono ?_
 rintro e wn ⟨rfl,hk⟩
 clear hA
 go_wp2_with fail
 refine (HC1.out _).mono ?_
 rintro e wn ⟨rfl,hkn⟩
 have hk:=Kept.comp _ _ _ hk hkn
 clear hkn
 go_wp2_with fail
 refine (HC2.out _).mono ?_
 rintro e wn ⟨rfl,hkn⟩
 have hk:=Kept.comp _ _ _ hk hkn
 clear hkn
 have kn:=aj wn (.cells ([.int .i64 (za:Int),.int .i64 (zb:Int)]).toArray 3)
 have BF:=aA wn 3 [.int .i64 (za:Int),.int .i64 (zb:Int)]
 go_wp2_with fail
 have hk:=Kept.comp _ _ _ hk kn
 have HF:Hid (Calls Tryz.prog 13 #[.slice (some ⟨wn.heap.size,0,none⟩) 2 2] (wn.alloc (.cells ([.int .i64 (za:Int),.int .i64 (zb:Int)]).toArray 3)) fun e w'=>e=.returned (.int .i64 0)∧Kept (wn.alloc (.cells ([.int .i64 (za:Int),.int .i64 (zb:Int)]).toArray 3)) w'):=Lib.hid (by have:=E.gP wn.heap.size 2 za zb _ (BF.cell 0 rfl) (BF.cell 1 rfl);rwa [Hc.out] at this)
 clear kn BF
 refine (HF.out).mono ?_
 rintro e wn ⟨rfl,hkn⟩
 have hk:=Kept.comp _ _ _ hk hkn
 clear hkn
 clear HF
 go_wp2_with fail
 refine (HNC.out _).mono ?_
 rintro e wn ⟨rfl,hkn⟩
 have hk:=Kept.comp _ _ _ hk hkn
 clear hkn
 go_wp2_with fail
 refine (HC1.out _).mono ?_
 rintro e wn ⟨rfl,hkn⟩
 have hk:=Kept.comp _ _ _ hk hkn
 clear hkn
 go_wp2_with fail
 refine (HA.out _ (hTB.out _ hk)).mono ?_
 rintro e wn ⟨r1,rfl,ga1,gb1,hkn⟩
 have hk:=Kept.comp _ _ _ hk hkn
 have GA1:=Lib.hid ga1
 have GB1:=Lib.hid gb1
 clear hkn ga1 gb1
 go_wp2_with fail
 refine (HS.out _ (hTB.out _ hk)).mono ?_
 rintro e wn ⟨r2,rfl,ga2,gb2,hkn⟩
 have hk:=Kept.comp _ _ _ hk hkn
 have GA2:=Lib.hid ga2
 have GB2:=Lib.hid gb2
 clear hkn ga2 gb2
 go_wp2_with fail
 refine (HM.out _ (hTB.out _ hk)).mono ?_
 rintro e wn ⟨r3,rfl,ga3,gb3,hkn⟩
 have hk:=Kept.comp _ _ _ hk hkn
 have GA3:=Lib.hid ga3
 have GB3:=Lib.hid gb3
 clear hkn ga3 gb3
 go_wp2_with fail
 refine (HD.out _ (hTB.out _ hk)).mono ?_
 rintro e wn ⟨r4,rfl,ga4,gb4,hkn⟩
 have hk:=Kept.comp _ _ _ hk hkn
 have GA4:=Lib.hid ga4
 have GB4:=Lib.hid gb4
 clear hkn ga4 gb4
 go_wp2_with fail
 refine (HO.out _ (hTB.out _ hk)).mono ?_
 rintro e wn ⟨rfl,hkn⟩
 have hk:=Kept.comp _ _ _ hk hkn
 clear hkn HA HS HM HD HO HC1 HC2 HNC
 generalize bM (x+y)=L1 at *
 generalize bM (x-y)=L2 at *
 generalize bM (x*y)=L3 at *
 go_wp2_with fail
 refine (RA.out _).mono ?_
 rintro e wn ⟨u1,rfl,hu1,hkn⟩
 have hk:=Kept.comp _ _ _ hk hkn
 have HU1:=Lib.hid hu1
 clear hkn hu1
 go_wp2_with fail
 refine (N1.out _ _ _ GA1.out GB1.out HU1.out).mono ?_
 rintro e wn ⟨rfl,hkn⟩
 have hk:=Kept.comp _ _ _ hk hkn
 clear hkn
 go_wp2_with fail
 refine (RS.out _).mono ?_
 rintro e wn ⟨u2,rfl,hu2,hkn⟩
 have hk:=Kept.comp _ _ _ hk hkn
 have HU2:=Lib.hid hu2
 clear hkn hu2
 go_wp2_with fail
 refine (N2.out _ _ _ GA2.out GB2.out HU2.out).mono ?_
 rintro e wn ⟨rfl,hkn⟩
 have hk:=Kept.comp _ _ _ hk hkn
 clear hkn
 go_wp2_with fail
 refine (RM.out _).mono ?_
 rintro e wn ⟨u3,rfl,hu3,hkn⟩
 have hk:=Kept.comp _ _ _ hk hkn
 have HU3:=Lib.hid hu3
 clear hkn hu3
 go_wp2_with fail
 refine (N3.out _ _ _ GA3.out GB3.out HU3.out).mono ?_
 rintro e wn ⟨rfl,hkn⟩
 have hk:=Kept.comp _ _ _ hk hkn
 clear hkn
 go_wp2_with fail
 refine (RC.out _).mono ?_
 rintro e wn ⟨rfl,hkn⟩
 have hk:=Kept.comp _ _ _ hk hkn
 clear hkn
 go_wp2_with fail
 refine (HI.out _).mono ?_
 rintro e wn ⟨rfl,hkn⟩
 have hk:=Kept.comp _ _ _ hk hkn
 clear hkn
 go_wp2_with fail
 refine (RZ.out _).mono ?_
 rintro e wz ⟨rfl,rfl⟩
 clear RZ
 go_wp2_with fail
 refine (RD.out _).mono ?_
 rintro e wn ⟨u4,rfl,hu4,hkn⟩
 have hk:=Kept.comp _ _ _ hk hkn
 have HU4:=Lib.hid hu4
 clear hkn hu4
 go_wp2_with fail
 refine (N4.out _ _ _ GA4.out GB4.out HU4.out).mono ?_
 rintro e wn ⟨rfl,hkn⟩
 have hk:=Kept.comp _ _ _ hk hkn
 clear hkn
 go_wp2
 go_ret
 exact⟨rfl,hk⟩
theorem mF (s t:ByteArray) (w:World) (hT:nk w) (hs:s.size≤9223372036854775807) (ht:t.size≤9223372036854775807) :
  Calls Tryz.prog 3 #[.string s,.string t] w fun e w'=>e=.returned (.bool true)∧Kept w w':=by
 by_cases h1:1300<s.size∨1300<t.size
 ·exact mE s t w hT h1 hs ht
 ·by_cases hb:bh (bw (chs s)) (bw (chs t))=0
  ·have hz:bw (chs s)=0∧bw (chs t)=0:=by
    unfold bh at hb
    split at hb
    ·rename_i h;exact⟨h,hb⟩
    ·rename_i h;exact absurd hb h
   obtain⟨x,hx,bx⟩:=DigNum.rN hz.1
   obtain⟨y,hy,bl⟩:=DigNum.rN hz.2
   by_cases h0:y=0
   ·exact mG s t x y w hT (by omega) (by omega) hx hy bx bl h0
   ·exact mD s t x y w hT (by omega) (by omega) hx hy bx bl h0
  ·exact om s t w hT (by omega) (by omega) hb
end Go.Proofs.YtiohhcljhadgcaaGreatDoor
