import Derived.Test.YtnjcdpfibmckmaaGreatDoorEa
import Derived.Test.YtnjcdpfibmckmaaGreatDoorDig
set_option linter.unusedSectionVars false
set_option linter.unusedVariables false
set_option linter.unusedSimpArgs false
set_option maxRecDepth 100000
set_option maxHeartbeats 1000000
namespace Go.Proofs.YtnjcdpfibmckmaaGreatDoor.E
open Go.RowKit LimbNum
theorem cm {n k:Nat} (h:n<10^k):LimbNum.size n≤k:=by
 refine LimbNum.size_le (Nat.lt_of_lt_of_le h (Nat.pow_le_pow_left ?_ k))
 decide
theorem lone (w:World):Calls Tryz.prog 127 #[.int .i64 1] w fun e w'=>∃ v,e=.returned v∧Whole w' v 1∧Kept w w':=ig 1 w (by decide) (by decide)
theorem ec (va vb:Value) (x g:Int) (w:World) (ha:Whole w va x) (hb:Whole w vb g) (hx:size x.natAbs≤536870912) (hg:size g.natAbs≤1099511627776) :
  Calls Tryz.prog 159 #[va,vb] w fun e w'=>∃ v,e=.returned v∧Whole w' v (x.tdiv g)∧Kept w w':=by
 have HI:=Lib.hid fun w' (h:Whole w' vb g)=>kP vb g w' h hg
 have HQ:=Lib.hid fun w' (h1:Whole w' va x) (h2:Whole w' vb g)=>uQ va vb x g w' h1 h2 hx hg
 clear hx hg
 obtain⟨s1,a1,n1,c1,rfl⟩:=aM ha
 obtain⟨s2,a2,n2,c2,rfl⟩:=aM hb
 obtain⟨hk,hB1,hB2,hB⟩:=ct w [.bool s1,.slice a1 n1 c1] [.bool s2,.slice a2 n2 c2] 87 87 87 fw
 by_cases h1:g=1
 ·rw[decide_eq_true h1] at HI
  rw[h1,Int.tdiv_one]
  clear h1 HQ
  go_enter Tryz.func159,Tryz.ntmps159
  have q0:=hB1.cell 0 rfl
  have q1:=hB1.cell 1 rfl
  have r0:=hB2.cell 0 rfl
  have r1:=hB2.cell 1 rfl
  go_wp2_with fail
  generalize ((w.alloc (.cells [.bool s1,.slice a1 n1 c1].toArray _)).alloc (.cells [.bool s2,.slice a2 n2 c2].toArray _)).alloc (.cells fw.toArray _)=w2 at *
  refine (HI.out _ (hb.kept hk)).mono ?_
  rintro e w3 ⟨rfl,hk3⟩
  have hv:=ha.kept (Kept.comp _ _ _ hk hk3)
  have hk:=Kept.comp _ _ _ hk hk3
  have hB1:=hB1.kept hk3
  have hB:=hB.kept hk3
  have q0:=hB1.cell 0 rfl
  have q1:=hB1.cell 1 rfl
  have r0:=hB.cell 0 rfl
  have r1:=hB.cell 1 rfl
  have f0:=hB.free 0
  have f1:=hB.free 1
  clear HI
  go_wp2
  obtain⟨rB,rv,rk⟩:=xD (w:=w) hB (by omega) hk hv
  have p0:=rB.cell 0 rfl
  have p1:=rB.cell 1 rfl
  exact bodyPost_ret (v:=.agg #[.bool s1,.slice a1 n1 c1]) (by simp[results,Tryz.results159,go_sem,p0,p1]) rfl ⟨_,rfl,rv,rk⟩
 ·rw[decide_eq_false h1] at HI
  clear h1
  go_enter Tryz.func159,Tryz.ntmps159
  have q0:=hB1.cell 0 rfl
  have q1:=hB1.cell 1 rfl
  have r0:=hB2.cell 0 rfl
  have r1:=hB2.cell 1 rfl
  go_wp2_with fail
  generalize ((w.alloc (.cells [.bool s1,.slice a1 n1 c1].toArray _)).alloc (.cells [.bool s2,.slice a2 n2 c2].toArray _)).alloc (.cells fw.toArray _)=w2 at *
  refine (HI.out _ (hb.kept hk)).mono ?_
  rintro e w3 ⟨rfl,hk3⟩
  have hk:=Kept.comp _ _ _ hk hk3
  have hB1:=hB1.kept hk3
  have hB2:=hB2.kept hk3
  have hB:=hB.kept hk3
  have q0:=hB1.cell 0 rfl
  have q1:=hB1.cell 1 rfl
  have r0:=hB2.cell 0 rfl
  have r1:=hB2.cell 1 rfl
  clear HI
  go_wp2_with fail
  refine (HQ.out _ (ha.kept hk) (hb.kept hk)).mono ?_
  rintro e w4 ⟨v,rfl,hv,hk4⟩
  have hk:=Kept.comp _ _ _ hk hk4
  have hB:=hB.kept hk4
  obtain⟨s3,a3,n3,c3,rfl⟩:=aM hv
  have r0:=hB.cell 0 rfl
  have r1:=hB.cell 1 rfl
  have f0:=hB.free 0
  have f1:=hB.free 1
  clear HQ
  go_wp2
  obtain⟨rB,rv,rk⟩:=xD (w:=w) hB (by omega) hk hv
  have p0:=rB.cell 0 rfl
  have p1:=rB.cell 1 rfl
  exact bodyPost_ret (v:=.agg #[.bool s3,.slice a3 n3 c3]) (by simp[results,Tryz.results159,go_sem,p0,p1]) rfl ⟨_,rfl,rv,rk⟩
theorem px (v:Value) (x:Rat) (k:Nat) (w:World) (h:Ex w v x) (hb:DigNum.Bd x k) (hk:k≤1000000) :
  Calls Tryz.prog 100 #[v] w fun e w'=>∃ v,e=.returned v∧Whole w' v x.den∧Kept w w':=by
 have hsz:size x.den≤1000000:=Nat.le_trans (cm hb.2) hk
 have hden:=x.den_nz
 clear hb hk
 obtain⟨s1,a1,n1,c1,s2,a2,n2,c2,rfl⟩:=fH h
 have h2:=h.both.2
 obtain⟨hk,hB1,hB⟩:=bY w [.bool s1,.slice a1 n1 c1,.bool s2,.slice a2 n2 c2] fw 89 87
 have H1:=Lib.hid fun w'=>lone w'
 have HS:=Lib.hid fun w' n (h:Whole w' (.agg #[.bool s2,.slice a2 n2 c2]) n) (hm:size n.natAbs≤1099511627776)=>cW _ n w' h hm
 clear h
 rcases h2 with h2|⟨hd,h2⟩
 ·have HS:=Lib.hid fun w' (h:Whole w' (.agg #[.bool s2,.slice a2 n2 c2]) (x.den:Int))=>HS.out w' _ h (by rw[Int.natAbs_natCast];omega)
  rw[Int.sign_eq_one_of_pos (by omega)] at HS
  clear hden hsz
  go_enter Tryz.func100,Tryz.ntmps100
  have q0:=hB1.cell 0 rfl
  have q1:=hB1.cell 1 rfl
  have q2:=hB1.cell 2 rfl
  have q3:=hB1.cell 3 rfl
  go_wp2_with fail
  generalize (w.alloc (.cells [.bool s1,.slice a1 n1 c1,.bool s2,.slice a2 n2 c2].toArray _)).alloc (.cells fw.toArray _)=w2 at *
  refine (HS.out _ (h2.kept hk)).mono ?_
  rintro e w3 ⟨rfl,hk3⟩
  have hk:=Kept.comp _ _ _ hk hk3
  have hv:=h2.kept hk
  have hB1:=hB1.kept hk3
  have hB:=hB.kept hk3
  have q0:=hB1.cell 0 rfl
  have q1:=hB1.cell 1 rfl
  have q2:=hB1.cell 2 rfl
  have q3:=hB1.cell 3 rfl
  have r0:=hB.cell 0 rfl
  have r1:=hB.cell 1 rfl
  have f0:=hB.free 0
  have f1:=hB.free 1
  clear HS H1
  go_wp2
  obtain⟨rB,rv,rk⟩:=xD (w:=w) hB (by omega) hk hv
  have p0:=rB.cell 0 rfl
  have p1:=rB.cell 1 rfl
  exact bodyPost_ret (v:=.agg #[.bool s2,.slice a2 n2 c2]) (by simp[results,Tryz.results100,go_sem,p0,p1]) rfl ⟨_,rfl,rv,rk⟩
 ·have HS:=Lib.hid fun w' (h:Whole w' (.agg #[.bool s2,.slice a2 n2 c2]) 0)=>HS.out w' _ h (by decide)
  rw[show (0:Int).sign=0 from rfl] at HS
  rw[hd]
  clear hden hsz hd
  go_enter Tryz.func100,Tryz.ntmps100
  have q0:=hB1.cell 0 rfl
  have q1:=hB1.cell 1 rfl
  have q2:=hB1.cell 2 rfl
  have q3:=hB1.cell 3 rfl
  go_wp2_with fail
  generalize (w.alloc (.cells [.bool s1,.slice a1 n1 c1,.bool s2,.slice a2 n2 c2].toArray _)).alloc (.cells fw.toArray _)=w2 at *
  refine (HS.out _ (h2.kept hk)).mono ?_
  rintro e w3 ⟨rfl,hk3⟩
  have hk:=Kept.comp _ _ _ hk hk3
  have hB:=hB.kept hk3
  clear HS
  go_wp2_with fail
  refine (H1.out _).mono ?_
  rintro e w4 ⟨v,rfl,hv,hk4⟩
  have hk:=Kept.comp _ _ _ hk hk4
  have hB:=hB.kept hk4
  obtain⟨s3,a3,n3,c3,rfl⟩:=aM hv
  have r0:=hB.cell 0 rfl
  have r1:=hB.cell 1 rfl
  have f0:=hB.free 0
  have f1:=hB.free 1
  clear H1
  go_wp2
  obtain⟨rB,rv,rk⟩:=xD (w:=w) hB (by omega) hk hv
  have p0:=rB.cell 0 rfl
  have p1:=rB.cell 1 rfl
  exact bodyPost_ret (v:=.agg #[.bool s3,.slice a3 n3 c3]) (by simp[results,Tryz.results100,go_sem,p0,p1]) rfl ⟨_,rfl,rv,rk⟩
theorem mY (v:Value) (n:Int) (w:World) (h:Whole w v n) :
  Calls Tryz.prog 58 #[v] w fun e w'=>∃ v,e=.returned v∧Ex w' v (n:Rat)∧Kept w w':=by
 obtain⟨s1,a1,n1,c1,rfl⟩:=aM h
 obtain⟨hk,hB1,hB⟩:=bY w [.bool s1,.slice a1 n1 c1] [.bool s1,.slice a1 n1 c1,.bool false,.slice none 0 0] 87 89
 obtain⟨_,hB1',hB'⟩:=bY w [.bool s1,.slice a1 n1 c1] fO 87 89
 have hv:Ex ((w.alloc (.cells [.bool s1,.slice a1 n1 c1].toArray _)).alloc (.cells [.bool s1,.slice a1 n1 c1,.bool false,.slice none 0 0].toArray _)) (.agg #[.bool s1,.slice a1 n1 c1,.bool false,.slice none 0 0]) (n:Rat):=
  ⟨_,_,_,_,_,_,_,_,rfl,by rw[Rat.num_intCast];exact h.kept hk,.inr ⟨Rat.den_intCast _,⟨_,rfl,none,0,rfl,Nat.le_refl _,.inl ⟨rfl,aY⟩⟩⟩⟩
 clear h
 go_enter Tryz.func58,Tryz.ntmps58
 have q0:=hB1'.cell 0 rfl
 have q1:=hB1'.cell 1 rfl
 have r0:=hB'.cell 0 rfl
 have r1:=hB'.cell 1 rfl
 have r2:=hB'.cell 2 rfl
 have r3:=hB'.cell 3 rfl
 have f0:=hB'.free 0
 have f1:=hB'.free 1
 have f2:=hB'.free 2
 have f3:=hB'.free 3
 go_wp2
 have p0:=hB.cell 0 rfl
 have p1:=hB.cell 1 rfl
 have p2:=hB.cell 2 rfl
 have p3:=hB.cell 3 rfl
 exact bodyPost_ret (v:=.agg #[.bool s1,.slice a1 n1 c1,.bool false,.slice none 0 0]) (by simp[results,Tryz.results58,go_sem]) rfl ⟨_,rfl,hv,hk⟩
end Go.Proofs.YtnjcdpfibmckmaaGreatDoor.E
