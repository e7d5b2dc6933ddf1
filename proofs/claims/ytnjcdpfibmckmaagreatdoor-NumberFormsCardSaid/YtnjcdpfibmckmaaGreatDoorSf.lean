import Derived.Laws.RangeAny
import Derived.Laws.RangeString
import Derived.Test.YtnjcdpfibmckmaaGreatDoorSe
set_option linter.unusedSectionVars false
set_option linter.unusedVariables false
set_option linter.unusedSimpArgs false
set_option maxRecDepth 100000
set_option maxHeartbeats 4000000
namespace Go.Proofs.YtnjcdpfibmckmaaGreatDoor.E
open Go.RowKit LimbNum
open DigNum (chs af aj aA b7 aV nd aE b8 cQ cY Bd)
theorem gE {s:ByteArray} {x:Rat} {k:Nat} (h:b8 s x) (hb:Bd x k):s.size≤2*k+2:=by rw[h.size];exact DigNum.qT hb
theorem oH {s:ByteArray} {x:Rat} (h:b8 s x) (hb:Bd x 600):cY (chs s)=0:=by rw[show chs s=DigNum.bN x from h];exact DigNum.rQ hb
end Go.Proofs.YtnjcdpfibmckmaaGreatDoor.E
namespace DigNum
def xo (c:Nat):Bool:=(decide (65≤c)&&decide (c≤90)) || (decide (97≤c)&&decide (c≤122))
def xw (c:Nat):Bool:=(decide (48≤c)&&decide (c≤57)) || decide (c=95)
def okC (cs:List Nat) (i:Nat):Bool:=xo (cs.getD i 0) || (decide (i≠0)&&xw (cs.getD i 0))
def dG (cs:List Nat):Bool:=decide (1≤cs.length)&&decide (cs.length≤24)&&(List.range cs.length).all (okC cs)
theorem pQ {cs:List Nat} (h:cs.length<1):dG cs=false:=by
 unfold dG;rw[decide_eq_false (by omega)];rfl
theorem pP {cs:List Nat} (h:24<cs.length):dG cs=false:=by
 unfold dG;rw[decide_eq_false (p:=cs.length≤24) (by omega)];simp
theorem nR {cs:List Nat} {i:Nat} (h:i<cs.length) (h2:okC cs i=false):dG cs=false:=by
 unfold dG
 rw[Bool.and_eq_false_iff];right
 rw[List.all_eq_false]
 exact⟨i,List.mem_range.2 h,by simp[h2]⟩
theorem pR {cs:List Nat} (h1:1≤cs.length) (h2:cs.length≤24) (h:∀ i,i<cs.length→okC cs i=true):dG cs=true:=by
 unfold dG
 rw[decide_eq_true h1,decide_eq_true h2,Bool.true_and,Bool.true_and,List.all_eq_true]
 exact fun i hi=>h i (List.mem_range.1 hi)
end DigNum
namespace Go.Proofs.YtnjcdpfibmckmaaGreatDoor.E
open Go.RowKit LimbNum
open DigNum (chs af bc aj aA b7 aV nd aE b8 cQ cY Bd dG okC xo xw)
theorem sF (c:Nat):xo c=true↔(65≤c∧c≤90)∨(97≤c∧c≤122):=by simp[xo]
theorem sS (c:Nat):xw c=true↔(48≤c∧c≤57)∨c=95:=by simp[xw]
theorem qO (cs:List Nat) (i:Nat):okC cs i=true↔xo (cs.getD i 0)=true∨(i≠0∧xw (cs.getD i 0)=true):=by simp[okC]
theorem n7 {x:Rat} {k:Nat} (h:Bd x k):Bd (x.floor:Rat) k:=
 ⟨by rw[Rat.num_intCast,Rat.floor_def];exact Nat.lt_of_le_of_lt (Int.natAbs_ediv_le_natAbs _ _) h.1,by rw[Rat.den_intCast];exact Nat.one_lt_pow (by have:=h.pos;omega) (by decide)⟩
theorem tN (x y:Int) (k:Nat) (h1:x.natAbs<10^k) (h2:y.natAbs<10^k) (hk:1≤k):Bd (Rat.divInt x y) (k+k):=by
 have e:Rat.divInt x y=(x:Rat)*(y:Rat)⁻¹:=by rw[←Rat.div_def,Rat.divInt_eq_div]
 have one:1<10^k:=Nat.one_lt_pow (by omega) (by decide)
 rw[e]
 exact DigNum.Bx ⟨by rw[Rat.num_intCast];exact h1,by rw[Rat.den_intCast];exact one⟩ (DigNum.Bw ⟨by rw[Rat.num_intCast];exact h2,by rw[Rat.den_intCast];exact one⟩)
theorem nY (x:Int) (w:World) :
  Calls Tryz.prog 7 #[.int .i64 x,.int .i64 0] w fun e w'=>e=.returned (.tuple #[.string (ByteArray.mk #[]),.int .i64 6])∧Kept w w':=by
 go_enter Tryz.func7,Tryz.ntmps7
 go_wp2
 exact bodyPost_ret (v:=.tuple #[.string (ByteArray.mk #[]),.int .i64 6]) (by simp[results,Tryz.results7,go_sem]) rfl ⟨rfl,Kept.rfl' _⟩
theorem nX (x y:Int) (w:World) (h1:x.natAbs<10^19) (h2:y.natAbs<10^19) (hx : -9223372036854775808≤x∧x≤9223372036854775807) (hy : -9223372036854775808≤y∧y≤9223372036854775807) (h0:y≠0) (htb:TB w) :
  Calls Tryz.prog 7 #[.int .i64 x,.int .i64 y] w fun e w'=>∃ r:ByteArray,e=.returned (.tuple #[.string r,.int .i64 ((cQ (Rat.divInt x y):Nat):Int)])∧(cQ (Rat.divInt x y)=0→b8 r (Rat.divInt x y))∧(cQ (Rat.divInt x y)≠0→r=ByteArray.mk #[])∧Kept w w':=by
 have HO:=Lib.hid fun w'=>A8 x y w' h1 h2 hx hy h0
 have HR:=Lib.hid fun v w' (h:Ex w' v (Rat.divInt x y)) ht=>rq v (Rat.divInt x y) 38 w' h (tN x y 19 h1 h2 (by decide)) (by decide) ht
 have HTB:=Lib.hid htb
 have hb:(y==0)=false:=by rw[beq_eq_false_iff_ne];exact h0
 generalize Rat.divInt x y=z at *
 generalize cQ z=Z at *
 clear h1 h2 hx hy htb
 go_enter Tryz.func7,Tryz.ntmps7
 go_wp2_with fail
 refine (HO.out _).mono ?_
 rintro e w2 ⟨v,rfl,hv,hk⟩
 have htb:=HTB.out.kept hk
 clear HO
 go_wp2_with fail
 refine (HR.out _ _ hv htb).mono ?_
 rintro e w5 ⟨r,rfl,g1,g2,hk5⟩
 have hk:=Kept.comp _ _ _ hk hk5
 have G1:=Lib.hid g1
 have G2:=Lib.hid g2
 clear HR hk5 hv g1 g2
 go_wp2
 exact bodyPost_ret (v:=.tuple #[.string r,.int .i64 (Z:Int)]) (by simp[results,Tryz.results7,go_sem]) rfl ⟨_,rfl,G1.out,G2.out,hk⟩
theorem kl (s:ByteArray) (c:Nat) (w:World) (hs:s.size≤1000000) (hb:cY (chs s)=c) (hc:c≠0) :
  Calls Tryz.prog 8 #[.string s] w fun e w'=>e=.returned (.tuple #[.string (ByteArray.mk #[]),.int .i64 (c:Int)])∧Kept w w':=by
 have HP:=Lib.hid fun w'=>mX s w' hs
 rw[hb] at HP
 have hci:((c:Int) != 0)=true:=by rw[bne_iff_ne];omega
 have hci2:¬((c:Int)=0):=by omega
 clear hs hb hc
 go_enter Tryz.func8,Tryz.ntmps8
 go_wp2_with fail
 refine (HP.out _).mono ?_
 rintro e w2 ⟨v1,rfl,r1,hk⟩
 obtain⟨s1,a1,n1,c1,s2,a2,n2,c2,rfl⟩:=r1.1
 have kn:=ai w2 (.cells ([.bool s1,.slice a1 n1 c1,.bool s2,.slice a2 n2 c2]).toArray 89)
 have hk:=Kept.comp _ _ _ hk kn
 clear HP r1 kn
 go_wp2
 exact bodyPost_ret (v:=.tuple #[.string (ByteArray.mk #[]),.int .i64 (c:Int)]) (by simp[results,Tryz.results8,go_sem]) rfl ⟨rfl,hk⟩
theorem j9 (s:ByteArray) (x:Rat) (w:World) (hx:b8 s x) (bx:Bd x 600) (htb:TB w) :
  Calls Tryz.prog 8 #[.string s] w fun e w'=>∃ r:ByteArray,e=.returned (.tuple #[.string r,.int .i64 ((cQ (x.floor:Rat):Nat):Int)])∧(cQ (x.floor:Rat)=0→b8 r (x.floor:Rat))∧(cQ (x.floor:Rat)≠0→r=ByteArray.mk #[])∧Kept w w':=by
 have HP:=Lib.hid fun w'=>mX s w' (by have:=gE hx bx;omega)
 rw[oH hx bx] at HP
 have HX:=Lib.hid (And.intro hx bx)
 have HF:=Lib.hid fun v w' (h:Ex w' v x)=>tF v x 600 w' h bx (by decide)
 have HW:=Lib.hid fun v w' (h:Whole w' v x.floor)=>mY v x.floor w' h
 have HR:=Lib.hid fun v w' (h:Ex w' v (x.floor:Rat)) ht=>rq v (x.floor:Rat) 600 w' h (n7 bx) (by decide) ht
 have HTB:=Lib.hid htb
 generalize (x.floor:Rat)=z at *
 generalize x.floor=fl at *
 generalize cQ z=Z at *
 clear hx bx htb
 go_enter Tryz.func8,Tryz.ntmps8
 go_wp2_with fail
 refine (HP.out _).mono ?_
 rintro e w2 ⟨v1,rfl,r1,hk⟩
 obtain⟨s1,a1,n1,c1,s2,a2,n2,c2,rfl⟩:=r1.1
 have kn:=ai w2 (.cells ([.bool s1,.slice a1 n1 c1,.bool s2,.slice a2 n2 c2]).toArray 89)
 have B1:=ax w2 89 [.bool s1,.slice a1 n1 c1,.bool s2,.slice a2 n2 c2]
 have hx:=Lib.hid ((r1.2 x HX.out.1 HX.out.2).kept kn)
 have hk:=Kept.comp _ _ _ hk kn
 have p0:=B1.cell 0 rfl
 have p1:=B1.cell 1 rfl
 have p2:=B1.cell 2 rfl
 have p3:=B1.cell 3 rfl
 clear HP r1 kn
 go_wp2_with fail
 generalize w2.alloc (.cells [.bool s1,.slice a1 n1 c1,.bool s2,.slice a2 n2 c2].toArray _)=w3 at *
 refine (HF.out _ _ hx.out).mono ?_
 rintro e w4 ⟨v2,rfl,hv2,hk4⟩
 have hk:=Kept.comp _ _ _ hk hk4
 clear HF hk4 hx B1 p0 p1 p2 p3
 go_wp2_with fail
 refine (HW.out _ _ hv2).mono ?_
 rintro e w4 ⟨v3,rfl,hv3,hk4⟩
 have hk:=Kept.comp _ _ _ hk hk4
 have htb:=Lib.hid (HTB.out.kept hk)
 clear HW hk4 hv2
 go_wp2_with fail
 refine (HR.out _ _ hv3 htb.out).mono ?_
 rintro e w5 ⟨r,rfl,g1,g2,hk5⟩
 have hk:=Kept.comp _ _ _ hk hk5
 have G1:=Lib.hid g1
 have G2:=Lib.hid g2
 clear HR hk5 hv3 g1 g2
 go_wp2
 exact bodyPost_ret (v:=.tuple #[.string r,.int .i64 (Z:Int)]) (by simp[results,Tryz.results8,go_sem]) rfl ⟨_,rfl,G1.out,G2.out,hk⟩
end Go.Proofs.YtnjcdpfibmckmaaGreatDoor.E
namespace Go.Proofs.YtnjcdpfibmckmaaGreatDoor.E
open Go.RowKit LimbNum
open DigNum (chs af bc dG okC xo xw)
theorem uW (c:Nat):(c<48)∨(48≤c∧c≤57)∨(58≤c∧c≤64)∨(65≤c∧c≤90)∨(91≤c∧c≤94)∨(c=95)∨(c=96)∨(97≤c∧c≤122)∨(122<c):=by omega
theorem iV {cs:List Nat} {i c:Nat} (hg:cs.getD i 0=c) (h:(65≤c∧c≤90)∨(97≤c∧c≤122)):okC cs i=true:=by
 rw[qO,sF,hg];exact .inl h
theorem kz {cs:List Nat} {i c:Nat} (hg:cs.getD i 0=c) (h0:i≠0) (h:(48≤c∧c≤57)∨c=95):okC cs i=true:=by
 rw[qO,sS,hg];exact .inr ⟨h0,h⟩
theorem bI {cs:List Nat} {i c:Nat} (hg:cs.getD i 0=c) (h1:¬((65≤c∧c≤90)∨(97≤c∧c≤122))) (h2:i=0∨¬((48≤c∧c≤57)∨c=95)):okC cs i=false:=by
 rw[Bool.eq_false_iff];intro h
 rw[qO,sF,sS,hg] at h
 rcases h with h|⟨h,h3⟩
 ·exact h1 h
 ·rcases h2 with h2|h2
  ·exact h h2
  ·exact h2 h3
theorem e8 (s:ByteArray) (w:World) (hs:s.size≤1099511627776) :
  Calls Tryz.prog 10 #[.string s] w fun e w'=>e=.returned (.bool (dG (chs s)))∧Kept w w':=by
 have hl:=af s
 have HF:=Lib.hid fun i h1 h2=>@DigNum.nR (chs s) i h1 h2
 have HN:=Lib.hid (@DigNum.pQ (chs s))
 have HL:=Lib.hid (@DigNum.pP (chs s))
 have HT:=Lib.hid (@DigNum.pR (chs s))
 generalize dG (chs s)=R at *
 by_cases h0:s.size<1
 ·have h0i:((s.size:Int)<1):=by omega
  have E:=Lib.hid (HN.out (by omega))
  clear HF HN HL HT
  go_enter Tryz.func10,Tryz.ntmps10
  go_wp2
  go_ret
  exact⟨congrArg (fun b=>Ending.returned (Value.bool b)) E.out.symm,Kept.rfl' _⟩
 have h0i:¬((s.size:Int)<1):=by omega
 by_cases h1:24<s.size
 ·have h1i:((s.size:Int)>24):=by omega
  have E:=Lib.hid (HL.out (by omega))
  clear HF HN HL HT
  go_enter Tryz.func10,Tryz.ntmps10
  go_wp2
  go_ret
  exact⟨congrArg (fun b=>Ending.returned (Value.bool b)) E.out.symm,Kept.rfl' _⟩
 have h1i:¬((s.size:Int)>24):=by omega
 have HT:=Lib.hid (HT.out (by omega) (by omega))
 clear HN HL
 go_enter Tryz.func10,Tryz.ntmps10
 go_wp2
 go_loopw [3] (fun i wr=>∃ k:Nat,i=.int .i64 k∧k≤s.size∧Hid (∀ i,i<k→okC (chs s) i=true)∧∃ q,wr=w.drewN q) (fun i _=>s.size-(intOf i).toNat)
 case atStart=>exact⟨0,rfl,Nat.zero_le _,Lib.hid fun i h=>absurd h (Nat.not_lt_zero i),0,rfl⟩
 case round=>
  obtain⟨k,rfl,hk,hno,q,rfl⟩:=hrel
  by_cases hlt:k<s.size
  ·have hg:=bc hlt
   obtain⟨c,hc⟩:∃ c,s[k].toNat=c:=⟨_,rfl⟩
   rw[hc] at hg
   have hlti:((k:Int)<(s.size:Int)):=by omega
   rcases uW c with hcl|hcl|hcl|hcl|hcl|hcl|hcl|hcl|hcl
   ·by_cases hz:k=0
    ·subst hz
     have f0:¬(65≤(s[0].toNat:Int)):=by omega
     have f1:((s[0].toNat:Int)≤90):=by omega
     have f2:¬(97≤(s[0].toNat:Int)):=by omega
     have f3:((s[0].toNat:Int)≤122):=by omega
     have f4:¬(48≤(s[0].toNat:Int)):=by omega
     have f5:((s[0].toNat:Int)≤57):=by omega
     have f6:(((s[0].toNat:Int))==95)=false:=by first|(rw[beq_eq_false_iff_ne];omega)|(rw[beq_iff_eq];omega)
     have f7:¬((s[0].toNat:Int)=95):=by omega
     have E:=Lib.hid (HF.out 0 (by omega) (bI hg (by omega) (.inl rfl)))
     clear HT HF hno hg hcl hc
     go_wp2
     go_ret
     exact⟨congrArg (fun b=>Ending.returned (Value.bool b)) E.out.symm,ah (Below.refl _ _) _⟩
    ·have z1:(((k:Nat):Int)==0)=false:=by rw[beq_eq_false_iff_ne];omega
     have z2:¬(((k:Nat):Int)=0):=by omega
     have f0:¬(65≤(s[k].toNat:Int)):=by omega
     have f1:((s[k].toNat:Int)≤90):=by omega
     have f2:¬(97≤(s[k].toNat:Int)):=by omega
     have f3:((s[k].toNat:Int)≤122):=by omega
     have f4:¬(48≤(s[k].toNat:Int)):=by omega
     have f5:((s[k].toNat:Int)≤57):=by omega
     have f6:(((s[k].toNat:Int))==95)=false:=by first|(rw[beq_eq_false_iff_ne];omega)|(rw[beq_iff_eq];omega)
     have f7:¬((s[k].toNat:Int)=95):=by omega
     have E:=Lib.hid (HF.out k (by omega) (bI hg (by omega) (.inr (by omega))))
     clear hz HT HF hno hg hcl hc
     go_wp2
     go_ret
     exact⟨congrArg (fun b=>Ending.returned (Value.bool b)) E.out.symm,ah (Below.refl _ _) _⟩
   ·by_cases hz:k=0
    ·subst hz
     have f0:¬(65≤(s[0].toNat:Int)):=by omega
     have f1:((s[0].toNat:Int)≤90):=by omega
     have f2:¬(97≤(s[0].toNat:Int)):=by omega
     have f3:((s[0].toNat:Int)≤122):=by omega
     have f4:(48≤(s[0].toNat:Int)):=by omega
     have f5:((s[0].toNat:Int)≤57):=by omega
     have f6:(((s[0].toNat:Int))==95)=false:=by first|(rw[beq_eq_false_iff_ne];omega)|(rw[beq_iff_eq];omega)
     have f7:¬((s[0].toNat:Int)=95):=by omega
     have E:=Lib.hid (HF.out 0 (by omega) (bI hg (by omega) (.inl rfl)))
     clear HT HF hno hg hcl hc
     go_wp2
     go_ret
     exact⟨congrArg (fun b=>Ending.returned (Value.bool b)) E.out.symm,ah (Below.refl _ _) _⟩
    ·have z1:(((k:Nat):Int)==0)=false:=by rw[beq_eq_false_iff_ne];omega
     have z2:¬(((k:Nat):Int)=0):=by omega
     have f0:¬(65≤(s[k].toNat:Int)):=by omega
     have f1:((s[k].toNat:Int)≤90):=by omega
     have f2:¬(97≤(s[k].toNat:Int)):=by omega
     have f3:((s[k].toNat:Int)≤122):=by omega
     have f4:(48≤(s[k].toNat:Int)):=by omega
     have f5:((s[k].toNat:Int)≤57):=by omega
     have f6:(((s[k].toNat:Int))==95)=false:=by first|(rw[beq_eq_false_iff_ne];omega)|(rw[beq_iff_eq];omega)
     have f7:¬((s[k].toNat:Int)=95):=by omega
     have hno2:=Lib.hid (show ∀ i,i<k+1→okC (chs s) i=true from fun i hi=>by
      rcases Nat.lt_or_ge i k with h|h
      ·exact hno.out i h
      ·obtain rfl:i=k:=by omega
       exact kz hg hz (by omega))
     clear hz HT HF hno hg hcl hc
     go_wp2
     go_roundw
     case rel=>exact⟨k+1,by go_num,by omega,hno2,_,rfl⟩
     case measure=>simp[intOf];omega
   ·by_cases hz:k=0
    ·subst hz
     have f0:¬(65≤(s[0].toNat:Int)):=by omega
     have f1:((s[0].toNat:Int)≤90):=by omega
     have f2:¬(97≤(s[0].toNat:Int)):=by omega
     have f3:((s[0].toNat:Int)≤122):=by omega
     have f4:(48≤(s[0].toNat:Int)):=by omega
     have f5:¬((s[0].toNat:Int)≤57):=by omega
     have f6:(((s[0].toNat:Int))==95)=false:=by first|(rw[beq_eq_false_iff_ne];omega)|(rw[beq_iff_eq];omega)
     have f7:¬((s[0].toNat:Int)=95):=by omega
     have E:=Lib.hid (HF.out 0 (by omega) (bI hg (by omega) (.inl rfl)))
     clear HT HF hno hg hcl hc
     go_wp2
     go_ret
     exact⟨congrArg (fun b=>Ending.returned (Value.bool b)) E.out.symm,ah (Below.refl _ _) _⟩
    ·have z1:(((k:Nat):Int)==0)=false:=by rw[beq_eq_false_iff_ne];omega
     have z2:¬(((k:Nat):Int)=0):=by omega
     have f0:¬(65≤(s[k].toNat:Int)):=by omega
     have f1:((s[k].toNat:Int)≤90):=by omega
     have f2:¬(97≤(s[k].toNat:Int)):=by omega
     have f3:((s[k].toNat:Int)≤122):=by omega
     have f4:(48≤(s[k].toNat:Int)):=by omega
     have f5:¬((s[k].toNat:Int)≤57):=by omega
     have f6:(((s[k].toNat:Int))==95)=false:=by first|(rw[beq_eq_false_iff_ne];omega)|(rw[beq_iff_eq];omega)
     have f7:¬((s[k].toNat:Int)=95):=by omega
     have E:=Lib.hid (HF.out k (by omega) (bI hg (by omega) (.inr (by omega))))
     clear hz HT HF hno hg hcl hc
     go_wp2
     go_ret
     exact⟨congrArg (fun b=>Ending.returned (Value.bool b)) E.out.symm,ah (Below.refl _ _) _⟩
   ·have f0:(65≤(s[k].toNat:Int)):=by omega
    have f1:((s[k].toNat:Int)≤90):=by omega
    have f2:¬(97≤(s[k].toNat:Int)):=by omega
    have f3:((s[k].toNat:Int)≤122):=by omega
    have f4:(48≤(s[k].toNat:Int)):=by omega
    have f5:¬((s[k].toNat:Int)≤57):=by omega
    have f6:(((s[k].toNat:Int))==95)=false:=by first|(rw[beq_eq_false_iff_ne];omega)|(rw[beq_iff_eq];omega)
    have f7:¬((s[k].toNat:Int)=95):=by omega
    have hno2:=Lib.hid (show ∀ i,i<k+1→okC (chs s) i=true from fun i hi=>by
     rcases Nat.lt_or_ge i k with h|h
     ·exact hno.out i h
     ·obtain rfl:i=k:=by omega
      exact iV hg (by omega))
    clear HT HF hno hg hcl hc
    go_wp2
    go_roundw
    case rel=>exact⟨k+1,by go_num,by omega,hno2,_,rfl⟩
    case measure=>simp[intOf];omega
   ·by_cases hz:k=0
    ·subst hz
     have f0:(65≤(s[0].toNat:Int)):=by omega
     have f1:¬((s[0].toNat:Int)≤90):=by omega
     have f2:¬(97≤(s[0].toNat:Int)):=by omega
     have f3:((s[0].toNat:Int)≤122):=by omega
     have f4:(48≤(s[0].toNat:Int)):=by omega
     have f5:¬((s[0].toNat:Int)≤57):=by omega
     have f6:(((s[0].toNat:Int))==95)=false:=by first|(rw[beq_eq_false_iff_ne];omega)|(rw[beq_iff_eq];omega)
     have f7:¬((s[0].toNat:Int)=95):=by omega
     have E:=Lib.hid (HF.out 0 (by omega) (bI hg (by omega) (.inl rfl)))
     clear HT HF hno hg hcl hc
     go_wp2
     go_ret
     exact⟨congrArg (fun b=>Ending.returned (Value.bool b)) E.out.symm,ah (Below.refl _ _) _⟩
    ·have z1:(((k:Nat):Int)==0)=false:=by rw[beq_eq_false_iff_ne];omega
     have z2:¬(((k:Nat):Int)=0):=by omega
     have f0:(65≤(s[k].toNat:Int)):=by omega
     have f1:¬((s[k].toNat:Int)≤90):=by omega
     have f2:¬(97≤(s[k].toNat:Int)):=by omega
     have f3:((s[k].toNat:Int)≤122):=by omega
     have f4:(48≤(s[k].toNat:Int)):=by omega
     have f5:¬((s[k].toNat:Int)≤57):=by omega
     have f6:(((s[k].toNat:Int))==95)=false:=by first|(rw[beq_eq_false_iff_ne];omega)|(rw[beq_iff_eq];omega)
     have f7:¬((s[k].toNat:Int)=95):=by omega
     have E:=Lib.hid (HF.out k (by omega) (bI hg (by omega) (.inr (by omega))))
     clear hz HT HF hno hg hcl hc
     go_wp2
     go_ret
     exact⟨congrArg (fun b=>Ending.returned (Value.bool b)) E.out.symm,ah (Below.refl _ _) _⟩
   ·by_cases hz:k=0
    ·subst hz
     have f0:(65≤(s[0].toNat:Int)):=by omega
     have f1:¬((s[0].toNat:Int)≤90):=by omega
     have f2:¬(97≤(s[0].toNat:Int)):=by omega
     have f3:((s[0].toNat:Int)≤122):=by omega
     have f4:(48≤(s[0].toNat:Int)):=by omega
     have f5:¬((s[0].toNat:Int)≤57):=by omega
     have f6:(((s[0].toNat:Int))==95)=true:=by first|(rw[beq_eq_false_iff_ne];omega)|(rw[beq_iff_eq];omega)
     have f7:((s[0].toNat:Int)=95):=by omega
     have E:=Lib.hid (HF.out 0 (by omega) (bI hg (by omega) (.inl rfl)))
     clear HT HF hno hg hcl hc
     go_wp2
     go_ret
     exact⟨congrArg (fun b=>Ending.returned (Value.bool b)) E.out.symm,ah (Below.refl _ _) _⟩
    ·have z1:(((k:Nat):Int)==0)=false:=by rw[beq_eq_false_iff_ne];omega
     have z2:¬(((k:Nat):Int)=0):=by omega
     have f0:(65≤(s[k].toNat:Int)):=by omega
     have f1:¬((s[k].toNat:Int)≤90):=by omega
     have f2:¬(97≤(s[k].toNat:Int)):=by omega
     have f3:((s[k].toNat:Int)≤122):=by omega
     have f4:(48≤(s[k].toNat:Int)):=by omega
     have f5:¬((s[k].toNat:Int)≤57):=by omega
     have f6:(((s[k].toNat:Int))==95)=true:=by first|(rw[beq_eq_false_iff_ne];omega)|(rw[beq_iff_eq];omega)
     have f7:((s[k].toNat:Int)=95):=by omega
     have hno2:=Lib.hid (show ∀ i,i<k+1→okC (chs s) i=true from fun i hi=>by
      rcases Nat.lt_or_ge i k with h|h
      ·exact hno.out i h
      ·obtain rfl:i=k:=by omega
       exact kz hg hz (by omega))
     clear hz HT HF hno hg hcl hc
     go_wp2
     go_roundw
     case rel=>exact⟨k+1,by go_num,by omega,hno2,_,rfl⟩
     case measure=>simp[intOf];omega
   ·by_cases hz:k=0
    ·subst hz
     have f0:(65≤(s[0].toNat:Int)):=by omega
     have f1:¬((s[0].toNat:Int)≤90):=by omega
     have f2:¬(97≤(s[0].toNat:Int)):=by omega
     have f3:((s[0].toNat:Int)≤122):=by omega
     have f4:(48≤(s[0].toNat:Int)):=by omega
     have f5:¬((s[0].toNat:Int)≤57):=by omega
     have f6:(((s[0].toNat:Int))==95)=false:=by first|(rw[beq_eq_false_iff_ne];omega)|(rw[beq_iff_eq];omega)
     have f7:¬((s[0].toNat:Int)=95):=by omega
     have E:=Lib.hid (HF.out 0 (by omega) (bI hg (by omega) (.inl rfl)))
     clear HT HF hno hg hcl hc
     go_wp2
     go_ret
     exact⟨congrArg (fun b=>Ending.returned (Value.bool b)) E.out.symm,ah (Below.refl _ _) _⟩
    ·have z1:(((k:Nat):Int)==0)=false:=by rw[beq_eq_false_iff_ne];omega
     have z2:¬(((k:Nat):Int)=0):=by omega
     have f0:(65≤(s[k].toNat:Int)):=by omega
     have f1:¬((s[k].toNat:Int)≤90):=by omega
     have f2:¬(97≤(s[k].toNat:Int)):=by omega
     have f3:((s[k].toNat:Int)≤122):=by omega
     have f4:(48≤(s[k].toNat:Int)):=by omega
     have f5:¬((s[k].toNat:Int)≤57):=by omega
     have f6:(((s[k].toNat:Int))==95)=false:=by first|(rw[beq_eq_false_iff_ne];omega)|(rw[beq_iff_eq];omega)
     have f7:¬((s[k].toNat:Int)=95):=by omega
     have E:=Lib.hid (HF.out k (by omega) (bI hg (by omega) (.inr (by omega))))
     clear hz HT HF hno hg hcl hc
     go_wp2
     go_ret
     exact⟨congrArg (fun b=>Ending.returned (Value.bool b)) E.out.symm,ah (Below.refl _ _) _⟩
   ·have f0:(65≤(s[k].toNat:Int)):=by omega
    have f1:¬((s[k].toNat:Int)≤90):=by omega
    have f2:(97≤(s[k].toNat:Int)):=by omega
    have f3:((s[k].toNat:Int)≤122):=by omega
    have f4:(48≤(s[k].toNat:Int)):=by omega
    have f5:¬((s[k].toNat:Int)≤57):=by omega
    have f6:(((s[k].toNat:Int))==95)=false:=by first|(rw[beq_eq_false_iff_ne];omega)|(rw[beq_iff_eq];omega)
    have f7:¬((s[k].toNat:Int)=95):=by omega
    have hno2:=Lib.hid (show ∀ i,i<k+1→okC (chs s) i=true from fun i hi=>by
     rcases Nat.lt_or_ge i k with h|h
     ·exact hno.out i h
     ·obtain rfl:i=k:=by omega
      exact iV hg (by omega))
    clear HT HF hno hg hcl hc
    go_wp2
    go_roundw
    case rel=>exact⟨k+1,by go_num,by omega,hno2,_,rfl⟩
    case measure=>simp[intOf];omega
   ·by_cases hz:k=0
    ·subst hz
     have f0:(65≤(s[0].toNat:Int)):=by omega
     have f1:¬((s[0].toNat:Int)≤90):=by omega
     have f2:(97≤(s[0].toNat:Int)):=by omega
     have f3:¬((s[0].toNat:Int)≤122):=by omega
     have f4:(48≤(s[0].toNat:Int)):=by omega
     have f5:¬((s[0].toNat:Int)≤57):=by omega
     have f6:(((s[0].toNat:Int))==95)=false:=by first|(rw[beq_eq_false_iff_ne];omega)|(rw[beq_iff_eq];omega)
     have f7:¬((s[0].toNat:Int)=95):=by omega
     have E:=Lib.hid (HF.out 0 (by omega) (bI hg (by omega) (.inl rfl)))
     clear HT HF hno hg hcl hc
     go_wp2
     go_ret
     exact⟨congrArg (fun b=>Ending.returned (Value.bool b)) E.out.symm,ah (Below.refl _ _) _⟩
    ·have z1:(((k:Nat):Int)==0)=false:=by rw[beq_eq_false_iff_ne];omega
     have z2:¬(((k:Nat):Int)=0):=by omega
     have f0:(65≤(s[k].toNat:Int)):=by omega
     have f1:¬((s[k].toNat:Int)≤90):=by omega
     have f2:(97≤(s[k].toNat:Int)):=by omega
     have f3:¬((s[k].toNat:Int)≤122):=by omega
     have f4:(48≤(s[k].toNat:Int)):=by omega
     have f5:¬((s[k].toNat:Int)≤57):=by omega
     have f6:(((s[k].toNat:Int))==95)=false:=by first|(rw[beq_eq_false_iff_ne];omega)|(rw[beq_iff_eq];omega)
     have f7:¬((s[k].toNat:Int)=95):=by omega
     have E:=Lib.hid (HF.out k (by omega) (bI hg (by omega) (.inr (by omega))))
     clear hz HT HF hno hg hcl hc
     go_wp2
     go_ret
     exact⟨congrArg (fun b=>Ending.returned (Value.bool b)) E.out.symm,ah (Below.refl _ _) _⟩
  ·obtain rfl:k=s.size:=by omega
   have E:=Lib.hid (HT.out fun i hi=>hno.out i (by omega))
   clear HT HF hno
   go_wp2
   go_ret
   exact⟨congrArg (fun b=>Ending.returned (Value.bool b)) E.out.symm,ah (Below.refl _ _) _⟩
theorem bB (w:World) (s:ByteArray) (p:Nat):Kept w (w.iter s p):=ai _ _
theorem dZ (s:ByteArray) (w:World) (hs:s.size≤1099511627776) :
  Calls Tryz.prog 9 #[.string s] w fun e w'=>e=.returned (.bool (dG (chs s)))∧Kept w w':=by
 have hl:=af s
 have HF:=Lib.hid fun i h1 h2=>@DigNum.nR (chs s) i h1 h2
 have HN:=Lib.hid (@DigNum.pQ (chs s))
 have HL:=Lib.hid (@DigNum.pP (chs s))
 have HT:=Lib.hid (@DigNum.pR (chs s))
 generalize dG (chs s)=R at *
 by_cases h0:s.size<1
 ·have h0i:((s.size:Int)<1):=by omega
  have E:=Lib.hid (HN.out (by omega))
  clear HF HN HL HT
  go_enter Tryz.func9,Tryz.ntmps9
  go_wp2
  go_ret
  exact⟨congrArg (fun b=>Ending.returned (Value.bool b)) E.out.symm,Kept.rfl' _⟩
 have h0i:¬((s.size:Int)<1):=by omega
 by_cases h1:24<s.size
 ·have h1i:((s.size:Int)>24):=by omega
  have E:=Lib.hid (HL.out (by omega))
  clear HF HN HL HT
  go_enter Tryz.func9,Tryz.ntmps9
  go_wp2
  go_ret
  exact⟨congrArg (fun b=>Ending.returned (Value.bool b)) E.out.symm,Kept.rfl' _⟩
 have h1i:¬((s.size:Int)>24):=by omega
 have HT:=Lib.hid (HT.out (by omega) (by omega))
 clear HN HL
 go_enter Tryz.func9,Tryz.ntmps9
 go_wp2
 go_loopw [] (fun w'=>∃ pos:Nat,w'=w.iter s pos∧pos≤s.size∧Hid (∀ i,i<pos→okC (chs s) i=true)) (fun w'=>s.size-w'.iterPos w.heap.size)
 case atStart=>exact⟨0,rfl,Nat.zero_le _,Lib.hid fun i h=>absurd h (Nat.not_lt_zero i)⟩
 case round=>
  obtain⟨k,rfl,hk,hno⟩:=hrel
  by_cases hlt:k<s.size
  ·have hg:=bc hlt
   have hd:(s[k].toNat<128∧Utf8.decode s k=(s[k].toNat,1))∨(128≤s[k].toNat∧128≤(Utf8.decode s k).1):=by
    by_cases h:s[k].toNat<128
    ·exact .inl ⟨h,decode_ascii s k hlt h⟩
    ·exact .inr ⟨by omega,(decode_high s k hlt (by omega)).1⟩
   have hnx:∀ ty,(Instr.next (.pointer (some ⟨w.heap.size,0,none⟩)) true ty).run Tryz.prog (w.iter s k)=_:=fun ty=>run_next_any w s k ty hlt
   rcases hd with ⟨h128,hd⟩|⟨h128,hd⟩
   ·rw[hd] at hnx
    simp only at hnx
    generalize s[k].toNat=c at *
    have hc:=True.intro
    rcases uW c with hcl|hcl|hcl|hcl|hcl|hcl|hcl|hcl|hcl
    ·by_cases hz:k=0
     ·subst hz
      have f0:¬(65≤(c:Int)):=by omega
      have f1:((c:Int)≤90):=by omega
      have f2:¬(97≤(c:Int)):=by omega
      have f3:((c:Int)≤122):=by omega
      have f4:¬(48≤(c:Int)):=by omega
      have f5:((c:Int)≤57):=by omega
      have f6:(((c:Int))==95)=false:=by first|(rw[beq_eq_false_iff_ne];omega)|(rw[beq_iff_eq];omega)
      have f7:¬((c:Int)=95):=by omega
      have E:=Lib.hid (HF.out 0 (by omega) (bI hg (by omega) (.inl rfl)))
      clear HT HF hno hg hcl hc hd h128
      go_wp2
      go_ret
      exact⟨congrArg (fun b=>Ending.returned (Value.bool b)) E.out.symm,bB _ _ _⟩
     ·have z1:(((k:Nat):Int)==0)=false:=by rw[beq_eq_false_iff_ne];omega
      have z2:¬(((k:Nat):Int)=0):=by omega
      have f0:¬(65≤(c:Int)):=by omega
      have f1:((c:Int)≤90):=by omega
      have f2:¬(97≤(c:Int)):=by omega
      have f3:((c:Int)≤122):=by omega
      have f4:¬(48≤(c:Int)):=by omega
      have f5:((c:Int)≤57):=by omega
      have f6:(((c:Int))==95)=false:=by first|(rw[beq_eq_false_iff_ne];omega)|(rw[beq_iff_eq];omega)
      have f7:¬((c:Int)=95):=by omega
      have E:=Lib.hid (HF.out k (by omega) (bI hg (by omega) (.inr (by omega))))
      clear hz HT HF hno hg hcl hc hd h128
      go_wp2
      go_ret
      exact⟨congrArg (fun b=>Ending.returned (Value.bool b)) E.out.symm,bB _ _ _⟩
    ·by_cases hz:k=0
     ·subst hz
      have f0:¬(65≤(c:Int)):=by omega
      have f1:((c:Int)≤90):=by omega
      have f2:¬(97≤(c:Int)):=by omega
      have f3:((c:Int)≤122):=by omega
      have f4:(48≤(c:Int)):=by omega
      have f5:((c:Int)≤57):=by omega
      have f6:(((c:Int))==95)=false:=by first|(rw[beq_eq_false_iff_ne];omega)|(rw[beq_iff_eq];omega)
      have f7:¬((c:Int)=95):=by omega
      have E:=Lib.hid (HF.out 0 (by omega) (bI hg (by omega) (.inl rfl)))
      clear HT HF hno hg hcl hc hd h128
      go_wp2
      go_ret
      exact⟨congrArg (fun b=>Ending.returned (Value.bool b)) E.out.symm,bB _ _ _⟩
     ·have z1:(((k:Nat):Int)==0)=false:=by rw[beq_eq_false_iff_ne];omega
      have z2:¬(((k:Nat):Int)=0):=by omega
      have f0:¬(65≤(c:Int)):=by omega
      have f1:((c:Int)≤90):=by omega
      have f2:¬(97≤(c:Int)):=by omega
      have f3:((c:Int)≤122):=by omega
      have f4:(48≤(c:Int)):=by omega
      have f5:((c:Int)≤57):=by omega
      have f6:(((c:Int))==95)=false:=by first|(rw[beq_eq_false_iff_ne];omega)|(rw[beq_iff_eq];omega)
      have f7:¬((c:Int)=95):=by omega
      have hno2:=Lib.hid (show ∀ i,i<k+1→okC (chs s) i=true from fun i hi=>by
       rcases Nat.lt_or_ge i k with h|h
       ·exact hno.out i h
       ·obtain rfl:i=k:=by omega
        exact kz hg hz (by omega))
      clear hz HT HF hno hg hcl hc hd h128
      go_wp2
      go_roundw
      case rel=>exact⟨k+1,rfl,by omega,hno2⟩
      case measure=>simp;omega
    ·by_cases hz:k=0
     ·subst hz
      have f0:¬(65≤(c:Int)):=by omega
      have f1:((c:Int)≤90):=by omega
      have f2:¬(97≤(c:Int)):=by omega
      have f3:((c:Int)≤122):=by omega
      have f4:(48≤(c:Int)):=by omega
      have f5:¬((c:Int)≤57):=by omega
      have f6:(((c:Int))==95)=false:=by first|(rw[beq_eq_false_iff_ne];omega)|(rw[beq_iff_eq];omega)
      have f7:¬((c:Int)=95):=by omega
      have E:=Lib.hid (HF.out 0 (by omega) (bI hg (by omega) (.inl rfl)))
      clear HT HF hno hg hcl hc hd h128
      go_wp2
      go_ret
      exact⟨congrArg (fun b=>Ending.returned (Value.bool b)) E.out.symm,bB _ _ _⟩
     ·have z1:(((k:Nat):Int)==0)=false:=by rw[beq_eq_false_iff_ne];omega
      have z2:¬(((k:Nat):Int)=0):=by omega
      have f0:¬(65≤(c:Int)):=by omega
      have f1:((c:Int)≤90):=by omega
      have f2:¬(97≤(c:Int)):=by omega
      have f3:((c:Int)≤122):=by omega
      have f4:(48≤(c:Int)):=by omega
      have f5:¬((c:Int)≤57):=by omega
      have f6:(((c:Int))==95)=false:=by first|(rw[beq_eq_false_iff_ne];omega)|(rw[beq_iff_eq];omega)
      have f7:¬((c:Int)=95):=by omega
      have E:=Lib.hid (HF.out k (by omega) (bI hg (by omega) (.inr (by omega))))
      clear hz HT HF hno hg hcl hc hd h128
      go_wp2
      go_ret
      exact⟨congrArg (fun b=>Ending.returned (Value.bool b)) E.out.symm,bB _ _ _⟩
    ·have f0:(65≤(c:Int)):=by omega
     have f1:((c:Int)≤90):=by omega
     have f2:¬(97≤(c:Int)):=by omega
     have f3:((c:Int)≤122):=by omega
     have f4:(48≤(c:Int)):=by omega
     have f5:¬((c:Int)≤57):=by omega
     have f6:(((c:Int))==95)=false:=by first|(rw[beq_eq_false_iff_ne];omega)|(rw[beq_iff_eq];omega)
     have f7:¬((c:Int)=95):=by omega
     have hno2:=Lib.hid (show ∀ i,i<k+1→okC (chs s) i=true from fun i hi=>by
      rcases Nat.lt_or_ge i k with h|h
      ·exact hno.out i h
      ·obtain rfl:i=k:=by omega
       exact iV hg (by omega))
     clear HT HF hno hg hcl hc hd h128
     go_wp2
     go_roundw
     case rel=>exact⟨k+1,rfl,by omega,hno2⟩
     case measure=>simp;omega
    ·by_cases hz:k=0
     ·subst hz
      have f0:(65≤(c:Int)):=by omega
      have f1:¬((c:Int)≤90):=by omega
      have f2:¬(97≤(c:Int)):=by omega
      have f3:((c:Int)≤122):=by omega
      have f4:(48≤(c:Int)):=by omega
      have f5:¬((c:Int)≤57):=by omega
      have f6:(((c:Int))==95)=false:=by first|(rw[beq_eq_false_iff_ne];omega)|(rw[beq_iff_eq];omega)
      have f7:¬((c:Int)=95):=by omega
      have E:=Lib.hid (HF.out 0 (by omega) (bI hg (by omega) (.inl rfl)))
      clear HT HF hno hg hcl hc hd h128
      go_wp2
      go_ret
      exact⟨congrArg (fun b=>Ending.returned (Value.bool b)) E.out.symm,bB _ _ _⟩
     ·have z1:(((k:Nat):Int)==0)=false:=by rw[beq_eq_false_iff_ne];omega
      have z2:¬(((k:Nat):Int)=0):=by omega
      have f0:(65≤(c:Int)):=by omega
      have f1:¬((c:Int)≤90):=by omega
      have f2:¬(97≤(c:Int)):=by omega
      have f3:((c:Int)≤122):=by omega
      have f4:(48≤(c:Int)):=by omega
      have f5:¬((c:Int)≤57):=by omega
      have f6:(((c:Int))==95)=false:=by first|(rw[beq_eq_false_iff_ne];omega)|(rw[beq_iff_eq];omega)
      have f7:¬((c:Int)=95):=by omega
      have E:=Lib.hid (HF.out k (by omega) (bI hg (by omega) (.inr (by omega))))
      clear hz HT HF hno hg hcl hc hd h128
      go_wp2
      go_ret
      exact⟨congrArg (fun b=>Ending.returned (Value.bool b)) E.out.symm,bB _ _ _⟩
    ·by_cases hz:k=0
     ·subst hz
      have f0:(65≤(c:Int)):=by omega
      have f1:¬((c:Int)≤90):=by omega
      have f2:¬(97≤(c:Int)):=by omega
      have f3:((c:Int)≤122):=by omega
      have f4:(48≤(c:Int)):=by omega
      have f5:¬((c:Int)≤57):=by omega
      have f6:(((c:Int))==95)=true:=by first|(rw[beq_eq_false_iff_ne];omega)|(rw[beq_iff_eq];omega)
      have f7:((c:Int)=95):=by omega
      have E:=Lib.hid (HF.out 0 (by omega) (bI hg (by omega) (.inl rfl)))
      clear HT HF hno hg hcl hc hd h128
      go_wp2
      go_ret
      exact⟨congrArg (fun b=>Ending.returned (Value.bool b)) E.out.symm,bB _ _ _⟩
     ·have z1:(((k:Nat):Int)==0)=false:=by rw[beq_eq_false_iff_ne];omega
      have z2:¬(((k:Nat):Int)=0):=by omega
      have f0:(65≤(c:Int)):=by omega
      have f1:¬((c:Int)≤90):=by omega
      have f2:¬(97≤(c:Int)):=by omega
      have f3:((c:Int)≤122):=by omega
      have f4:(48≤(c:Int)):=by omega
      have f5:¬((c:Int)≤57):=by omega
      have f6:(((c:Int))==95)=true:=by first|(rw[beq_eq_false_iff_ne];omega)|(rw[beq_iff_eq];omega)
      have f7:((c:Int)=95):=by omega
      have hno2:=Lib.hid (show ∀ i,i<k+1→okC (chs s) i=true from fun i hi=>by
       rcases Nat.lt_or_ge i k with h|h
       ·exact hno.out i h
       ·obtain rfl:i=k:=by omega
        exact kz hg hz (by omega))
      clear hz HT HF hno hg hcl hc hd h128
      go_wp2
      go_roundw
      case rel=>exact⟨k+1,rfl,by omega,hno2⟩
      case measure=>simp;omega
    ·by_cases hz:k=0
     ·subst hz
      have f0:(65≤(c:Int)):=by omega
      have f1:¬((c:Int)≤90):=by omega
      have f2:¬(97≤(c:Int)):=by omega
      have f3:((c:Int)≤122):=by omega
      have f4:(48≤(c:Int)):=by omega
      have f5:¬((c:Int)≤57):=by omega
      have f6:(((c:Int))==95)=false:=by first|(rw[beq_eq_false_iff_ne];omega)|(rw[beq_iff_eq];omega)
      have f7:¬((c:Int)=95):=by omega
      have E:=Lib.hid (HF.out 0 (by omega) (bI hg (by omega) (.inl rfl)))
      clear HT HF hno hg hcl hc hd h128
      go_wp2
      go_ret
      exact⟨congrArg (fun b=>Ending.returned (Value.bool b)) E.out.symm,bB _ _ _⟩
     ·have z1:(((k:Nat):Int)==0)=false:=by rw[beq_eq_false_iff_ne];omega
      have z2:¬(((k:Nat):Int)=0):=by omega
      have f0:(65≤(c:Int)):=by omega
      have f1:¬((c:Int)≤90):=by omega
      have f2:¬(97≤(c:Int)):=by omega
      have f3:((c:Int)≤122):=by omega
      have f4:(48≤(c:Int)):=by omega
      have f5:¬((c:Int)≤57):=by omega
      have f6:(((c:Int))==95)=false:=by first|(rw[beq_eq_false_iff_ne];omega)|(rw[beq_iff_eq];omega)
      have f7:¬((c:Int)=95):=by omega
      have E:=Lib.hid (HF.out k (by omega) (bI hg (by omega) (.inr (by omega))))
      clear hz HT HF hno hg hcl hc hd h128
      go_wp2
      go_ret
      exact⟨congrArg (fun b=>Ending.returned (Value.bool b)) E.out.symm,bB _ _ _⟩
    ·have f0:(65≤(c:Int)):=by omega
     have f1:¬((c:Int)≤90):=by omega
     have f2:(97≤(c:Int)):=by omega
     have f3:((c:Int)≤122):=by omega
     have f4:(48≤(c:Int)):=by omega
     have f5:¬((c:Int)≤57):=by omega
     have f6:(((c:Int))==95)=false:=by first|(rw[beq_eq_false_iff_ne];omega)|(rw[beq_iff_eq];omega)
     have f7:¬((c:Int)=95):=by omega
     have hno2:=Lib.hid (show ∀ i,i<k+1→okC (chs s) i=true from fun i hi=>by
      rcases Nat.lt_or_ge i k with h|h
      ·exact hno.out i h
      ·obtain rfl:i=k:=by omega
       exact iV hg (by omega))
     clear HT HF hno hg hcl hc hd h128
     go_wp2
     go_roundw
     case rel=>exact⟨k+1,rfl,by omega,hno2⟩
     case measure=>simp;omega
    ·by_cases hz:k=0
     ·subst hz
      have f0:(65≤(c:Int)):=by omega
      have f1:¬((c:Int)≤90):=by omega
      have f2:(97≤(c:Int)):=by omega
      have f3:¬((c:Int)≤122):=by omega
      have f4:(48≤(c:Int)):=by omega
      have f5:¬((c:Int)≤57):=by omega
      have f6:(((c:Int))==95)=false:=by first|(rw[beq_eq_false_iff_ne];omega)|(rw[beq_iff_eq];omega)
      have f7:¬((c:Int)=95):=by omega
      have E:=Lib.hid (HF.out 0 (by omega) (bI hg (by omega) (.inl rfl)))
      clear HT HF hno hg hcl hc hd h128
      go_wp2
      go_ret
      exact⟨congrArg (fun b=>Ending.returned (Value.bool b)) E.out.symm,bB _ _ _⟩
     ·have z1:(((k:Nat):Int)==0)=false:=by rw[beq_eq_false_iff_ne];omega
      have z2:¬(((k:Nat):Int)=0):=by omega
      have f0:(65≤(c:Int)):=by omega
      have f1:¬((c:Int)≤90):=by omega
      have f2:(97≤(c:Int)):=by omega
      have f3:¬((c:Int)≤122):=by omega
      have f4:(48≤(c:Int)):=by omega
      have f5:¬((c:Int)≤57):=by omega
      have f6:(((c:Int))==95)=false:=by first|(rw[beq_eq_false_iff_ne];omega)|(rw[beq_iff_eq];omega)
      have f7:¬((c:Int)=95):=by omega
      have E:=Lib.hid (HF.out k (by omega) (bI hg (by omega) (.inr (by omega))))
      clear hz HT HF hno hg hcl hc hd h128
      go_wp2
      go_ret
      exact⟨congrArg (fun b=>Ending.returned (Value.bool b)) E.out.symm,bB _ _ _⟩
   ·obtain⟨r,hr⟩:∃ r,Utf8.decode s k=r:=⟨_,rfl⟩
    rw[hr] at hd hnx
    obtain⟨c,p⟩:=r
    simp only at hd hnx
    have f0:(65≤(c:Int)):=by omega
    have f1:¬((c:Int)≤90):=by omega
    have f2:(97≤(c:Int)):=by omega
    have f3:¬((c:Int)≤122):=by omega
    have f4:(48≤(c:Int)):=by omega
    have f5:¬((c:Int)≤57):=by omega
    have f6:(((c:Int))==95)=false:=by first|(rw[beq_eq_false_iff_ne];omega)|(rw[beq_iff_eq];omega)
    have f7:¬((c:Int)=95):=by omega
    have E:=Lib.hid (HF.out k (by omega) (bI hg (by omega) (.inr (by omega))))
    clear HT HF hno hg hd h128 hr
    by_cases hz:k=0
    ·subst hz
     go_wp2
     go_ret
     exact⟨congrArg (fun b=>Ending.returned (Value.bool b)) E.out.symm,bB _ _ _⟩
    ·have z1:(((k:Nat):Int)==0)=false:=by rw[beq_eq_false_iff_ne];omega
     have z2:¬(((k:Nat):Int)=0):=by omega
     clear hz
     go_wp2
     go_ret
     exact⟨congrArg (fun b=>Ending.returned (Value.bool b)) E.out.symm,bB _ _ _⟩
  ·obtain rfl:k=s.size:=by omega
   have hnx:∀ ty,(Instr.next (.pointer (some ⟨w.heap.size,0,none⟩)) true ty).run Tryz.prog (w.iter s s.size)=_:=fun ty=>run_next_end w s s.size ty hlt
   have E:=Lib.hid (HT.out fun i hi=>hno.out i (by omega))
   clear HT HF hno
   go_wp2
   go_ret
   exact⟨congrArg (fun b=>Ending.returned (Value.bool b)) E.out.symm,bB _ _ _⟩
end Go.Proofs.YtnjcdpfibmckmaaGreatDoor.E
