import Derived.Test.YtjbcmmaniphkkaaGreatDoorEc
set_option linter.unusedSectionVars false
set_option linter.unusedVariables false
set_option linter.unusedSimpArgs false
set_option maxRecDepth 100000
set_option maxHeartbeats 2000000
namespace Go.Proofs.YtjbcmmaniphkkaaGreatDoor.E
open Go.RowKit LimbNum
theorem BY (v1 v2:Value) (x y:Rat) (k l:Nat) (w:World) (hx:Ex w v1 x) (hy:Ex w v2 y) (bx:DigNum.Bd x k) (bl:DigNum.Bd y l) (hkk:k≤1000000) (hll:l≤1000000) :
  Calls Tryz.prog 126 #[v1,v2] w fun e w'=>∃ v,e=.returned v∧Ex w' v (x-y)∧Kept w w':=by
 have MN:=K7 fun v w' (h:Ex w' v y)=>ud v y l w' h bl hll
 have MA:=K7 fun va vb w' (h1:Ex w' va x) (h2:Ex w' vb (-y))=>tW va vb x (-y) k l w' h1 h2 bx (DigNum.sN bl) hkk hll
 rw[←Rat.sub_eq_add_neg] at MA
 generalize x-y=z at *
 clear bx bl hkk hll
 obtain⟨s1,a1,n1,c1,s2,a2,n2,c2,rfl⟩:=bB hx
 obtain⟨s3,a3,n3,c3,s4,a4,n4,c4,rfl⟩:=bB hy
 obtain⟨hk,hB1,hB2,hB⟩:=cR w [.bool s1,.slice a1 n1 c1,.bool s2,.slice a2 n2 c2] [.bool s3,.slice a3 n3 c3,.bool s4,.slice a4 n4 c4] 97 97 97 eu
 go_enter Tryz.func126,Tryz.ntmps126
 have q2_0:=hB1.cell 0 rfl
 have q2_1:=hB1.cell 1 rfl
 have q2_2:=hB1.cell 2 rfl
 have q2_3:=hB1.cell 3 rfl
 have q3_0:=hB2.cell 0 rfl
 have q3_1:=hB2.cell 1 rfl
 have q3_2:=hB2.cell 2 rfl
 have q3_3:=hB2.cell 3 rfl
 go_wp2_with fail
 have hx:=hx.kept hk
 have hy:=hy.kept hk
 generalize ((w.alloc (.cells [.bool s1,.slice a1 n1 c1,.bool s2,.slice a2 n2 c2].toArray _)).alloc (.cells [.bool s3,.slice a3 n3 c3,.bool s4,.slice a4 n4 c4].toArray _)).alloc (.cells eu.toArray _)=w2 at *
 have hz0:=K6 w2.heap.size
 have lt2:=hB1.lt
 have lt3:=hB2.lt
 refine ai 4 [.is (.agg #[.bool s1,.slice a1 n1 c1,.bool s2,.slice a2 n2 c2]),.is (.agg #[.bool s3,.slice a3 n3 c3,.bool s4,.slice a4 n4 c4]),.num (-y),.num z] [0,1,2,3] (by kernel_rfl) (by kernel_rfl) (by kernel_rfl) (by kernel_rfl) (by kernel_rfl) (by kernel_rfl) (by intro f;simp only[laid,List.foldl_cons,List.foldl_nil,List.getElem?_toArray,K9,K8,Option.bind_some,Act.put,List.setIfInBounds_toArray,List.set_cons_zero,List.set_cons_succ];rfl) ?_ ?_
 ·intro i o him ho f wi hki hdep
  have q2_0:=(hB1.kept hki).cell 0 rfl
  have q2_1:=(hB1.kept hki).cell 1 rfl
  have q2_2:=(hB1.kept hki).cell 2 rfl
  have q2_3:=(hB1.kept hki).cell 3 rfl
  have q3_0:=(hB2.kept hki).cell 0 rfl
  have q3_1:=(hB2.kept hki).cell 1 rfl
  have q3_2:=(hB2.kept hki).cell 2 rfl
  have q3_3:=(hB2.kept hki).cell 3 rfl
  rcases i with _|_|_|_|i
  ·cases so ho
   refine ae.value (.agg #[.bool s1,.slice a1 n1 c1,.bool s2,.slice a2 n2 c2]) ?_ (aa rfl)
   go_simp
  ·cases so ho
   refine ae.value (.agg #[.bool s3,.slice a3 n3 c3,.bool s4,.slice a4 n4 c4]) ?_ (aa rfl)
   go_simp
  ·cases so ho
   have d1:=hdep ⟨1,.data⟩ (by simp) rfl
   simp only[af,K9,K8] at d1
   refine ae.call 180 #[.agg #[.bool s3,.slice a3 n3 c3,.bool s4,.slice a4 n4 c4]] (by go_simp) ((MN.out _ wi (hy.kept hki)).mono ?_)
   rintro e w7 ⟨v,rfl,hv,hk7⟩
   exact⟨v,rfl,hv,hk7,trivial⟩
  ·cases so ho
   have d0:=hdep ⟨0,.data⟩ (by simp) rfl
   have d2:=hdep ⟨2,.data⟩ (by simp) rfl
   simp only[af,K9,K8] at d0 d2
   refine ae.call 175 #[.agg #[.bool s1,.slice a1 n1 c1,.bool s2,.slice a2 n2 c2],f 2] (by go_simp) ((MA.out _ _ wi (hx.kept hki) d2).mono ?_)
   rintro e w7 ⟨v,rfl,hv,hk7⟩
   exact⟨v,rfl,hv,hk7,trivial⟩
  ·omega
 ·intro f wi hki hall hap
  have hk:=Kept.comp _ _ _ hk hki
  have hB1:=hB1.kept hki
  have hB2:=hB2.kept hki
  have hx:=hx.kept hki
  have hy:=hy.kept hki
  have hB:=hB.kept hki
  have hv:=hall 3 (by decide)
  simp only[af,K9,K8] at hv
  obtain⟨s5,a5,n5,c5,s6,a6,n6,c6,e5⟩:=bB hv
  rw[e5] at hv
  clear hall hap
  simp only[List.drop_succ_cons,List.drop_zero]
  rw[e5]
  have r0:=hB.cell 0 rfl
  have r1:=hB.cell 1 rfl
  have r2:=hB.cell 2 rfl
  have r3:=hB.cell 3 rfl
  have f0:=hB.free 0
  have f1:=hB.free 1
  have f2:=hB.free 2
  have f3:=hB.free 3
  clear MN MA hx hy hB1 hB2
  go_wp2
  obtain⟨rB,rv,rk⟩:=xW (w:=w) hB (by omega) hk hv
  have p0:=rB.cell 0 rfl
  have p1:=rB.cell 1 rfl
  have p2:=rB.cell 2 rfl
  have p3:=rB.cell 3 rfl
  exact bodyPost_ret (v:=.agg #[.bool s5,.slice a5 n5 c5,.bool s6,.slice a6 n6 c6]) (by simp[results,Tryz.results126,go_sem,p0,p1,p2,p3]) rfl ⟨_,rfl,rv,rk⟩
theorem sG (v1 v2:Value) (x y:Rat) (k l:Nat) (w:World) (hx:Ex w v1 x) (hy:Ex w v2 y) (bx:DigNum.Bd x k) (bl:DigNum.Bd y l) (hkk:k≤1000000) (hll:l≤1000000) :
  Calls Tryz.prog 76 #[v1,v2] w fun e w'=>e=.returned (.int .i64 (je (x.num*y.den) (y.num*x.den)))∧Kept w w':=by
 have MB1:=K7 fun v w' (h:Ex w' v x)=>du v x k w' h bx hkk
 have MB2:=K7 fun v w' (h:Ex w' v y)=>du v y l w' h bl hll
 have e1:=bx.1
 have e2:=DigNum.dB bx.2
 have e3:=bl.1
 have e4:=DigNum.dB bl.2
 have M1:=K7 fun va vb w' h1 h2=>cI va vb x.num y.den w' h1 h2 (Nat.le_trans (aK e1) (by omega)) (Nat.le_trans (aK e4) (by omega)) (Nat.le_trans (aK (DigNum.cJ e1 e4)) (by omega))
 have M2:=K7 fun va vb w' h1 h2=>cI va vb y.num x.den w' h1 h2 (Nat.le_trans (aK e3) (by omega)) (Nat.le_trans (aK e2) (by omega)) (Nat.le_trans (aK (DigNum.cJ e3 e2)) (by omega))
 have MC:=K7 fun va vb w' h1 h2=>fX va vb (x.num*y.den) (y.num*x.den) w' h1 h2 (Nat.le_trans (aK (DigNum.cJ e1 e4)) (by omega)) (Nat.le_trans (aK (DigNum.cJ e3 e2)) (by omega))
 clear bx bl e1 e2 e3 e4 hkk hll
 obtain⟨s1,a1,n1,c1,s2,a2,n2,c2,rfl⟩:=bB hx
 obtain⟨s3,a3,n3,c3,s4,a4,n4,c4,rfl⟩:=bB hy
 have hx1:=hx.both.1
 have hy1:=hy.both.1
 generalize x.num=a at *
 generalize (x.den:Int)=b at *
 generalize y.num=c at *
 generalize (y.den:Int)=d at *
 generalize je (a*d) (c*b)=z at *
 obtain⟨hk,hB1,hB2⟩:=bg w [.bool s1,.slice a1 n1 c1,.bool s2,.slice a2 n2 c2] [.bool s3,.slice a3 n3 c3,.bool s4,.slice a4 n4 c4] 97 97
 go_enter Tryz.func76,Tryz.ntmps76
 have q2_0:=hB1.cell 0 rfl
 have q2_1:=hB1.cell 1 rfl
 have q2_2:=hB1.cell 2 rfl
 have q2_3:=hB1.cell 3 rfl
 have q3_0:=hB2.cell 0 rfl
 have q3_1:=hB2.cell 1 rfl
 have q3_2:=hB2.cell 2 rfl
 have q3_3:=hB2.cell 3 rfl
 go_wp2_with fail
 have hx:=hx.kept hk
 have hy:=hy.kept hk
 have hx1:=hx1.kept hk
 have hy1:=hy1.kept hk
 generalize (w.alloc (.cells [.bool s1,.slice a1 n1 c1,.bool s2,.slice a2 n2 c2].toArray _)).alloc (.cells [.bool s3,.slice a3 n3 c3,.bool s4,.slice a4 n4 c4].toArray _)=w2 at *
 have hz0:=K6 w2.heap.size
 have lt2:=hB1.lt
 have lt3:=hB2.lt
 refine ai 11 [.is (.pointer (some ⟨w.heap.size,0,none⟩)),.is (.agg #[.bool s1,.slice a1 n1 c1]),.is (.agg #[.bool s3,.slice a3 n3 c3,.bool s4,.slice a4 n4 c4]),.int d,.int (a*d),.is (.pointer (some ⟨w.heap.size+1,0,none⟩)),.is (.agg #[.bool s3,.slice a3 n3 c3]),.is (.agg #[.bool s1,.slice a1 n1 c1,.bool s2,.slice a2 n2 c2]),.int b,.int (c*b),.is (.int .i64 z)] [0,1,2,3,4,5,6,7,8,9,10] (by kernel_rfl) (by kernel_rfl) (by kernel_rfl) (by kernel_rfl) (by kernel_rfl) (by kernel_rfl) (by intro f;simp only[laid,List.foldl_cons,List.foldl_nil,List.getElem?_toArray,K9,K8,Option.bind_some,Act.put,List.setIfInBounds_toArray,List.set_cons_zero,List.set_cons_succ];rfl) ?_ ?_
 ·intro i o him ho f wi hki hdep
  have q2_0:=(hB1.kept hki).cell 0 rfl
  have q2_1:=(hB1.kept hki).cell 1 rfl
  have q2_2:=(hB1.kept hki).cell 2 rfl
  have q2_3:=(hB1.kept hki).cell 3 rfl
  have q3_0:=(hB2.kept hki).cell 0 rfl
  have q3_1:=(hB2.kept hki).cell 1 rfl
  have q3_2:=(hB2.kept hki).cell 2 rfl
  have q3_3:=(hB2.kept hki).cell 3 rfl
  rcases i with _|_|_|_|_|_|_|_|_|_|_|i
  ·cases so ho
   refine ae.value (.pointer (some ⟨w.heap.size,0,none⟩)) ?_ (aa rfl)
   go_simp
  ·cases so ho
   have d0:=hdep ⟨0,.data⟩ (by simp) rfl
   simp only[af,K9] at d0
   refine ae.value (.agg #[.bool s1,.slice a1 n1 c1]) ?_ (aa rfl)
   go_simp
  ·cases so ho
   refine ae.value (.agg #[.bool s3,.slice a3 n3 c3,.bool s4,.slice a4 n4 c4]) ?_ (aa rfl)
   go_simp
  ·cases so ho
   have d2:=hdep ⟨2,.data⟩ (by simp) rfl
   simp only[af,K9,K8] at d2
   refine ae.call 73 #[.agg #[.bool s3,.slice a3 n3 c3,.bool s4,.slice a4 n4 c4]] (by go_simp) ((MB2.out _ wi (hy.kept hki)).mono ?_)
   rintro e w7 ⟨v,rfl,hv,hk7⟩
   exact⟨v,rfl,hv,hk7,trivial⟩
  ·cases so ho
   have d1:=hdep ⟨1,.data⟩ (by simp) rfl
   have d3:=hdep ⟨3,.data⟩ (by simp) rfl
   simp only[af,K9,K8] at d1 d3
   refine ae.call 81 #[.agg #[.bool s1,.slice a1 n1 c1],f 3] (by go_simp) ((M1.out _ _ wi (hx1.kept hki) d3).mono ?_)
   rintro e w7 ⟨v,rfl,hv,hk7⟩
   exact⟨v,rfl,hv,hk7,trivial⟩
  ·cases so ho
   refine ae.value (.pointer (some ⟨w.heap.size+1,0,none⟩)) ?_ (aa rfl)
   go_simp
  ·cases so ho
   have d5:=hdep ⟨5,.data⟩ (by simp) rfl
   simp only[af,K9,K8] at d5
   refine ae.value (.agg #[.bool s3,.slice a3 n3 c3]) ?_ (aa rfl)
   go_simp
  ·cases so ho
   refine ae.value (.agg #[.bool s1,.slice a1 n1 c1,.bool s2,.slice a2 n2 c2]) ?_ (aa rfl)
   go_simp
  ·cases so ho
   have d7:=hdep ⟨7,.data⟩ (by simp) rfl
   simp only[af,K9,K8] at d7
   refine ae.call 73 #[.agg #[.bool s1,.slice a1 n1 c1,.bool s2,.slice a2 n2 c2]] (by go_simp) ((MB1.out _ wi (hx.kept hki)).mono ?_)
   rintro e w7 ⟨v,rfl,hv,hk7⟩
   exact⟨v,rfl,hv,hk7,trivial⟩
  ·cases so ho
   have d6:=hdep ⟨6,.data⟩ (by simp) rfl
   have d8:=hdep ⟨8,.data⟩ (by simp) rfl
   simp only[af,K9,K8] at d6 d8
   refine ae.call 81 #[.agg #[.bool s3,.slice a3 n3 c3],f 8] (by go_simp) ((M2.out _ _ wi (hy1.kept hki) d8).mono ?_)
   rintro e w7 ⟨v,rfl,hv,hk7⟩
   exact⟨v,rfl,hv,hk7,trivial⟩
  ·cases so ho
   have d4:=hdep ⟨4,.data⟩ (by simp) rfl
   have d9:=hdep ⟨9,.data⟩ (by simp) rfl
   simp only[af,K9,K8] at d4 d9
   refine ae.call 155 #[f 4,f 9] (by go_simp) ((MC.out _ _ wi d4 d9).mono ?_)
   rintro e w7 ⟨rfl,hk7⟩
   exact⟨_,rfl,rfl,hk7,trivial⟩
  ·omega
 ·intro f wi hki hall hap
  have hk:=Kept.comp _ _ _ hk hki
  have hB1:=hB1.kept hki
  have hB2:=hB2.kept hki
  have hx:=hx.kept hki
  have hx1:=hx1.kept hki
  have hy:=hy.kept hki
  have hy1:=hy1.kept hki
  have he:=hall 10 (by decide)
  simp only[af,K9,K8] at he
  clear hall hap
  simp only[List.drop_succ_cons,List.drop_zero]
  rw[he]
  clear MB1 MB2 M1 M2 MC hx hy hx1 hy1 hB1 hB2
  go_wp2
  go_ret
  exact⟨rfl,hk⟩
end Go.Proofs.YtjbcmmaniphkkaaGreatDoor.E
