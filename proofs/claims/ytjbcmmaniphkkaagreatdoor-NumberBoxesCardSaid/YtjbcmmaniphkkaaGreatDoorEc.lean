import Derived.Test.YtjbcmmaniphkkaaGreatDoorEa
set_option linter.unusedSectionVars false
set_option linter.unusedVariables false
set_option linter.unusedSimpArgs false
set_option maxRecDepth 100000
set_option maxHeartbeats 2000000
namespace Go.Proofs.YtjbcmmaniphkkaaGreatDoor.E
open Go.RowKit LimbNum
theorem Bc (x y:Rat) {b d g l r s g1:Int} (hb:(x.den:Int)=b) (hd:(y.den:Int)=d) (hg:((Nat.gcd x.den y.den:Nat):Int)=g) (hl:b.tdiv g=l) (hr:d.tdiv g=r) (hs:x.num*r+y.num*l=s)
  (h1:((Nat.gcd s.natAbs g.natAbs:Nat):Int)=g1):(x+y).num=s.tdiv g1∧((x+y).den:Int)=l*d.tdiv g1:=by
 obtain⟨p1,p2⟩:=DigNum.xS x y
 subst hb hd hg hl hr hs h1
 rw[Int.natAbs_natCast,←Int.ofNat_tdiv,←Int.ofNat_tdiv]
 exact⟨p1,p2⟩
theorem tW (v1 v2:Value) (x y:Rat) (k l:Nat) (w:World) (hx:Ex w v1 x) (hy:Ex w v2 y) (bx:DigNum.Bd x k) (bl:DigNum.Bd y l) (hkk:k≤1000000) (hll:l≤1000000) :
  Calls Tryz.prog 175 #[v1,v2] w fun e w'=>∃ v,e=.returned v∧Ex w' v (x+y)∧Kept w w':=by
 have MB1:=K7 fun v w' (h:Ex w' v x)=>du v x k w' h bx hkk
 have MB2:=K7 fun v w' (h:Ex w' v y)=>du v y l w' h bl hll
 have e1:=bx.1
 have e2:=DigNum.dB bx.2
 have e3:=bl.1
 have e4:=DigNum.dB bl.2
 have MD1:=K7 fun va vb w' h1 h2=>dS va vb x.den y.den w' h1 h2 (Nat.le_trans (aK e2) (by omega)) (Nat.le_trans (aK e4) (by omega))
 rw[Int.natAbs_natCast,Int.natAbs_natCast] at MD1
 have G1:=DigNum.dB (DigNum.sX bl.2 y.den_pos x.den)
 obtain⟨g,hg⟩:∃ g,((Nat.gcd x.den y.den:Nat):Int)=g:=⟨_,rfl⟩
 have hgp:0<g.natAbs:=by rw[←hg,Int.natAbs_natCast];exact Nat.gcd_pos_of_pos_left _ x.den_pos
 obtain⟨b,hb⟩:∃ b,(x.den:Int)=b:=⟨_,rfl⟩
 obtain⟨d,hd⟩:∃ d,(y.den:Int)=d:=⟨_,rfl⟩
 obtain⟨lz,hl⟩:∃ lz,b.tdiv g=lz:=⟨_,rfl⟩
 obtain⟨rz,hr⟩:∃ rz,d.tdiv g=rz:=⟨_,rfl⟩
 obtain⟨s,hs⟩:∃ s,x.num*rz+y.num*lz=s:=⟨_,rfl⟩
 obtain⟨g1,h1⟩:∃ g1,((Nat.gcd s.natAbs g.natAbs:Nat):Int)=g1:=⟨_,rfl⟩
 obtain⟨m1,m2⟩:=Bc x y hb hd hg hl hr hs h1
 rw[hg] at MD1 G1
 rw[hb] at MB1 MD1 e2
 rw[hd] at MB2 MD1 e4
 clear bx bl
 obtain⟨s1,a1,n1,c1,s2,a2,n2,c2,rfl⟩:=bB hx
 obtain⟨s3,a3,n3,c3,s4,a4,n4,c4,rfl⟩:=bB hy
 have hx1:=hx.both.1
 have hy1:=hy.both.1
 generalize x.num=a at *
 generalize y.num=c at *
 have S1:=K7 fun va vb w' h1 h2=>bY va vb b g w' h1 h2 (Nat.le_trans (aK e2) (by omega)) (Nat.le_trans (aK G1) (by omega))
 have S2:=K7 fun va vb w' h1 h2=>bY va vb d g w' h1 h2 (Nat.le_trans (aK e4) (by omega)) (Nat.le_trans (aK G1) (by omega))
 rw[hl] at S1
 rw[hr] at S2
 have f1:=DigNum.iH e2 g
 have f2:=DigNum.iH e4 g
 rw[hl] at f1
 rw[hr] at f2
 have M1:=K7 fun va vb w' h1 h2=>cI va vb a rz w' h1 h2 (Nat.le_trans (aK e1) (by omega)) (Nat.le_trans (aK f2) (by omega)) (Nat.le_trans (aK (DigNum.cJ e1 f2)) (by omega))
 have M2:=K7 fun va vb w' h1 h2=>cI va vb c lz w' h1 h2 (Nat.le_trans (aK e3) (by omega)) (Nat.le_trans (aK f1) (by omega)) (Nat.le_trans (aK (DigNum.cJ e3 f1)) (by omega))
 have M3:=K7 fun va vb w' h1 h2=>kW va vb (a*rz) (c*lz) w' h1 h2 (Nat.le_trans (aK (DigNum.cJ e1 f2)) (by omega)) (Nat.le_trans (aK (DigNum.cJ e3 f1)) (by omega))
 have sb:s.natAbs<10^(k+l+1):=by rw[←hs];exact DigNum.Fc (DigNum.cJ e1 f2) (by rw[Nat.add_comm];exact DigNum.cJ e3 f1)
 rw[hs] at M3
 have MD2:=K7 fun va vb w' q1 q2=>dS va vb s g w' q1 q2 (Nat.le_trans (aK sb) (by omega)) (Nat.le_trans (aK G1) (by omega))
 have G2:g1.natAbs<10^l:=by rw[←h1,Int.natAbs_natCast];exact DigNum.sX G1 hgp _
 rw[h1] at MD2
 have S3:=K7 fun va vb w' h1 h2=>bY va vb s g1 w' h1 h2 (Nat.le_trans (aK sb) (by omega)) (Nat.le_trans (aK G2) (by omega))
 have S4:=K7 fun va vb w' h1 h2=>bY va vb d g1 w' h1 h2 (Nat.le_trans (aK e4) (by omega)) (Nat.le_trans (aK G2) (by omega))
 have f4:=DigNum.iH e4 g1
 generalize s.tdiv g1=q at *
 generalize d.tdiv g1=d2 at *
 have M4:=K7 fun va vb w' h1 h2=>cI va vb lz d2 w' h1 h2 (Nat.le_trans (aK f1) (by omega)) (Nat.le_trans (aK f4) (by omega)) (Nat.le_trans (aK (DigNum.cJ f1 f4)) (by omega))
 have HX:=K7 fun w' s a n c s' a' n' c' (q1:Whole w' (.agg #[.bool s,.slice a n c]) q) (q2:Whole w' (.agg #[.bool s',.slice a' n' c']) (lz*d2))=>(oF (x:=x+y) (by rw[m1];exact q1) (by rw[m2];exact q2))
 generalize x+y=z at *
 clear e1 e2 e3 e4 G1 G2 f1 f2 f4 m1 m2 hkk hll sb hg hb hd hl hr hs h1 hgp
 obtain⟨hk,hB1,hB2,hB⟩:=cR w [.bool s1,.slice a1 n1 c1,.bool s2,.slice a2 n2 c2] [.bool s3,.slice a3 n3 c3,.bool s4,.slice a4 n4 c4] 97 97 97 eu
 go_enter Tryz.func175,Tryz.ntmps175
 go_wp2_with fail
 have hx:=hx.kept hk
 have hy:=hy.kept hk
 have hx1:=hx1.kept hk
 have hy1:=hy1.kept hk
 have hz0:w.heap.size+1+1+1≤_:=hB.lt
 generalize ((w.alloc (.cells [.bool s1,.slice a1 n1 c1,.bool s2,.slice a2 n2 c2].toArray _)).alloc (.cells [.bool s3,.slice a3 n3 c3,.bool s4,.slice a4 n4 c4].toArray _)).alloc (.cells eu.toArray _)=w2 at *
 have hz0:=K6 w2.heap.size
 have lt2:=hB1.lt
 have lt3:=hB2.lt
 refine ai 6 [.is (.agg #[.bool s1,.slice a1 n1 c1,.bool s2,.slice a2 n2 c2]),.int b,.is (.agg #[.bool s3,.slice a3 n3 c3,.bool s4,.slice a4 n4 c4]),.int d,.int g,.new w2.heap.size 95 cY] [0,1,2,3,4,5] (by kernel_rfl) (by kernel_rfl) (by kernel_rfl) (by kernel_rfl) (by kernel_rfl) (by kernel_rfl) (by intro f;simp only[laid,List.foldl_cons,List.foldl_nil,List.getElem?_toArray,K9,K8,Option.bind_some,Act.put,List.setIfInBounds_toArray,List.set_cons_zero,List.set_cons_succ];rfl) ?_ ?_
 ·intro i o him ho f wi hki hdep
  have q2_0:=(hB1.kept hki).cell 0 rfl
  have q2_1:=(hB1.kept hki).cell 1 rfl
  have q2_2:=(hB1.kept hki).cell 2 rfl
  have q2_3:=(hB1.kept hki).cell 3 rfl
  have q3_0:=(hB2.kept hki).cell 0 rfl
  have q3_1:=(hB2.kept hki).cell 1 rfl
  have q3_2:=(hB2.kept hki).cell 2 rfl
  have q3_3:=(hB2.kept hki).cell 3 rfl
  rcases i with _|_|_|_|_|_|i
  ·cases so ho
   refine ae.value (.agg #[.bool s1,.slice a1 n1 c1,.bool s2,.slice a2 n2 c2]) ?_ (aa rfl)
   go_simp
  ·cases so ho
   have d0:=hdep ⟨0,.data⟩ (by simp) rfl
   simp only[af,K9] at d0
   refine ae.call 73 #[.agg #[.bool s1,.slice a1 n1 c1,.bool s2,.slice a2 n2 c2]] (by go_simp) ((MB1.out _ wi (hx.kept hki)).mono ?_)
   rintro e w7 ⟨v,rfl,hv,hk7⟩
   exact⟨v,rfl,hv,hk7,trivial⟩
  ·cases so ho
   refine ae.value (.agg #[.bool s3,.slice a3 n3 c3,.bool s4,.slice a4 n4 c4]) ?_ (aa rfl)
   go_simp
  ·cases so ho
   have d2:=hdep ⟨2,.data⟩ (by simp) rfl
   simp only[af,K9,K8] at d2
   refine ae.call 73 #[.agg #[.bool s3,.slice a3 n3 c3,.bool s4,.slice a4 n4 c4]] (by go_simp) ((MB2.out _ wi (hy.kept hki)).mono ?_)
   rintro e w7 ⟨v,rfl,hv,hk7⟩
   exact⟨v,rfl,hv,hk7,trivial⟩
  ·cases so ho
   have d1:=hdep ⟨1,.data⟩ (by simp) rfl
   have d3:=hdep ⟨3,.data⟩ (by simp) rfl
   simp only[af,K9,K8] at d1 d3
   refine ae.call 147 #[f 1,f 3] (by go_simp) ((MD1.out _ _ wi d1 d3).mono ?_)
   rintro e w7 ⟨v,rfl,hv,hk7⟩
   exact⟨v,rfl,hv,hk7,trivial⟩
  ·cases so ho
   refine ae.to (.pointer (some ⟨wi.heap.size,0,none⟩)) (wi.alloc (.cells cY.toArray 95)) ?_ ⟨⟨_,rfl,Nat.le_trans hz0 hki.size,aE _ _ _⟩,aj _ _,rfl⟩
   go_simp
  ·omega
 ·intro f wi hki hall hap
  have hk:=Kept.comp _ _ _ hk hki
  have hB1:=hB1.kept hki
  have hB2:=hB2.kept hki
  have hx:=hx.kept hki
  have hx1:=hx1.kept hki
  have hy:=hy.kept hki
  have hy1:=hy1.kept hki
  have hB:=hB.kept hki
  have hg:=hall 4 (by decide)
  simp only[af,K9,K8] at hg
  obtain⟨s5,a5,n5,c5,e5⟩:=aN hg
  rw[e5] at hg
  obtain⟨b5,eb5,hb5,B5⟩:=hall 5 (by decide)
  clear hall hap
  simp only[List.drop_succ_cons,List.drop_zero]
  rw[eb5,e5]
  have w50:=B5.cell 0 rfl
  have w51:=B5.cell 1 rfl
  have v50:=B5.free 0
  have v51:=B5.free 1
  obtain⟨B5n,st,sx,sb,sk,sz⟩:=iG B5 s5 a5 n5 c5
  have hB1:=sb _ _ _ (by omega) hB1
  have hB2:=sb _ _ _ (by omega) hB2
  have hB:=sb _ _ _ (by omega) hB
  have hg:=st _ _ hg
  have hx:=sx _ _ hx
  have hx1:=st _ _ hx1
  have hy:=sx _ _ hy
  have hy1:=st _ _ hy1
  have hk:=sk w (by omega) hk
  have q2_0:=hB1.cell 0 rfl
  have q2_1:=hB1.cell 1 rfl
  have q2_2:=hB1.cell 2 rfl
  have q2_3:=hB1.cell 3 rfl
  have q3_0:=hB2.cell 0 rfl
  have q3_1:=hB2.cell 1 rfl
  have q3_2:=hB2.cell 2 rfl
  have q3_3:=hB2.cell 3 rfl
  have q5_0:=B5n.cell 0 rfl
  have q5_1:=B5n.cell 1 rfl
  go_wp2_with fail
  generalize (wi.setCell ⟨b5,0,none⟩ (.bool s5)).setCell ⟨b5,1,none⟩ (.slice a5 n5 c5)=w3 at *
  have hz0:=K6 w3.heap.size
  have lt2:=hB1.lt
  have lt3:=hB2.lt
  have lt5:=B5n.lt
  have ltB:=hB.lt
  refine ai 10 [.is (.agg #[.bool s1,.slice a1 n1 c1,.bool s2,.slice a2 n2 c2]),.int b,.is (.agg #[.bool s5,.slice a5 n5 c5]),.int lz,.is (.agg #[.bool s3,.slice a3 n3 c3,.bool s4,.slice a4 n4 c4]),.int d,.is (.agg #[.bool s5,.slice a5 n5 c5]),.int rz,.new w3.heap.size 95 cY,.new w3.heap.size 95 cY] [0,1,2,3,4,5,6,7,8,9] (by kernel_rfl) (by kernel_rfl) (by kernel_rfl) (by kernel_rfl) (by kernel_rfl) (by kernel_rfl) (by intro f;simp only[laid,List.foldl_cons,List.foldl_nil,List.getElem?_toArray,K9,K8,Option.bind_some,Act.put,List.setIfInBounds_toArray,List.set_cons_zero,List.set_cons_succ];rfl) ?_ ?_
  ·intro i o him ho f wi hki hdep
   have q2_0:=(hB1.kept hki).cell 0 rfl
   have q2_1:=(hB1.kept hki).cell 1 rfl
   have q2_2:=(hB1.kept hki).cell 2 rfl
   have q2_3:=(hB1.kept hki).cell 3 rfl
   have q3_0:=(hB2.kept hki).cell 0 rfl
   have q3_1:=(hB2.kept hki).cell 1 rfl
   have q3_2:=(hB2.kept hki).cell 2 rfl
   have q3_3:=(hB2.kept hki).cell 3 rfl
   have q5_0:=(B5n.kept hki).cell 0 rfl
   have q5_1:=(B5n.kept hki).cell 1 rfl
   rcases i with _|_|_|_|_|_|_|_|_|_|i
   ·cases so ho
    refine ae.value (.agg #[.bool s1,.slice a1 n1 c1,.bool s2,.slice a2 n2 c2]) ?_ (aa rfl)
    go_simp
   ·cases so ho
    have d0:=hdep ⟨0,.data⟩ (by simp) rfl
    simp only[af,K9] at d0
    refine ae.call 73 #[.agg #[.bool s1,.slice a1 n1 c1,.bool s2,.slice a2 n2 c2]] (by go_simp) ((MB1.out _ wi (hx.kept hki)).mono ?_)
    rintro e w7 ⟨v,rfl,hv,hk7⟩
    exact⟨v,rfl,hv,hk7,trivial⟩
   ·cases so ho
    refine ae.value (.agg #[.bool s5,.slice a5 n5 c5]) ?_ (aa rfl)
    go_simp
   ·cases so ho
    have d1:=hdep ⟨1,.data⟩ (by simp) rfl
    have d2:=hdep ⟨2,.data⟩ (by simp) rfl
    simp only[af,K9,K8] at d1 d2
    refine ae.call 157 #[f 1,.agg #[.bool s5,.slice a5 n5 c5]] (by go_simp) ((S1.out _ _ wi d1 (hg.kept hki)).mono ?_)
    rintro e w7 ⟨v,rfl,hv,hk7⟩
    exact⟨v,rfl,hv,hk7,trivial⟩
   ·cases so ho
    refine ae.value (.agg #[.bool s3,.slice a3 n3 c3,.bool s4,.slice a4 n4 c4]) ?_ (aa rfl)
    go_simp
   ·cases so ho
    have d4:=hdep ⟨4,.data⟩ (by simp) rfl
    simp only[af,K9,K8] at d4
    refine ae.call 73 #[.agg #[.bool s3,.slice a3 n3 c3,.bool s4,.slice a4 n4 c4]] (by go_simp) ((MB2.out _ wi (hy.kept hki)).mono ?_)
    rintro e w7 ⟨v,rfl,hv,hk7⟩
    exact⟨v,rfl,hv,hk7,trivial⟩
   ·cases so ho
    refine ae.value (.agg #[.bool s5,.slice a5 n5 c5]) ?_ (aa rfl)
    go_simp
   ·cases so ho
    have d5:=hdep ⟨5,.data⟩ (by simp) rfl
    have d6:=hdep ⟨6,.data⟩ (by simp) rfl
    simp only[af,K9,K8] at d5 d6
    refine ae.call 157 #[f 5,.agg #[.bool s5,.slice a5 n5 c5]] (by go_simp) ((S2.out _ _ wi d5 (hg.kept hki)).mono ?_)
    rintro e w7 ⟨v,rfl,hv,hk7⟩
    exact⟨v,rfl,hv,hk7,trivial⟩
   ·cases so ho
    refine ae.to (.pointer (some ⟨wi.heap.size,0,none⟩)) (wi.alloc (.cells cY.toArray 95)) ?_ ⟨⟨_,rfl,Nat.le_trans hz0 hki.size,aE _ _ _⟩,aj _ _,rfl⟩
    go_simp
   ·cases so ho
    refine ae.to (.pointer (some ⟨wi.heap.size,0,none⟩)) (wi.alloc (.cells cY.toArray 95)) ?_ ⟨⟨_,rfl,Nat.le_trans hz0 hki.size,aE _ _ _⟩,aj _ _,rfl⟩
    go_simp
   ·omega
  ·intro f wi hki hall hap
   have hk:=Kept.comp _ _ _ hk hki
   have hB1:=hB1.kept hki
   have hB2:=hB2.kept hki
   have B5n:=B5n.kept hki
   have hg:=hg.kept hki
   have hx:=hx.kept hki
   have hx1:=hx1.kept hki
   have hy:=hy.kept hki
   have hy1:=hy1.kept hki
   have hB:=hB.kept hki
   have hl:=hall 3 (by decide)
   simp only[af,K9,K8] at hl
   obtain⟨s6,a6,n6,c6,e6⟩:=aN hl
   rw[e6] at hl
   have hr:=hall 7 (by decide)
   simp only[af,K9,K8] at hr
   obtain⟨s7,a7,n7,c7,e7⟩:=aN hr
   rw[e7] at hr
   obtain⟨b6,eb6,hb6,B6⟩:=hall 8 (by decide)
   obtain⟨b7,eb7,hb7,B7⟩:=hall 9 (by decide)
   have hne6:b7≠b6:=by
    have:=hap 8 9 (by decide) (by decide) (by decide)
    rintro rfl
    exact this (eb6.trans eb7.symm)
   clear hall hap
   simp only[List.drop_succ_cons,List.drop_zero]
   rw[eb6,eb7,e6,e7]
   have w60:=B6.cell 0 rfl
   have w61:=B6.cell 1 rfl
   have v60:=B6.free 0
   have v61:=B6.free 1
   have w70:=B7.cell 0 rfl
   have w71:=B7.cell 1 rfl
   have v70:=B7.free 0
   have v71:=B7.free 1
   obtain⟨B6n,st,sx,sb,sk,sz⟩:=iG B6 s6 a6 n6 c6
   have hB1:=sb _ _ _ (by omega) hB1
   have hB2:=sb _ _ _ (by omega) hB2
   have B5n:=sb _ _ _ (by omega) B5n
   have hB:=sb _ _ _ (by omega) hB
   have hg:=st _ _ hg
   have hl:=st _ _ hl
   have hr:=st _ _ hr
   have hx:=sx _ _ hx
   have hx1:=st _ _ hx1
   have hy:=sx _ _ hy
   have hy1:=st _ _ hy1
   have hk:=sk w (by omega) hk
   have B7:=sb _ _ _ hne6 B7
   obtain⟨B7n,st,sx,sb,sk,sz⟩:=iG B7 s7 a7 n7 c7
   have hB1:=sb _ _ _ (by omega) hB1
   have hB2:=sb _ _ _ (by omega) hB2
   have B5n:=sb _ _ _ (by omega) B5n
   have hB:=sb _ _ _ (by omega) hB
   have B6n:=sb _ _ _ (Ne.symm hne6) B6n
   have hg:=st _ _ hg
   have hl:=st _ _ hl
   have hr:=st _ _ hr
   have hx:=sx _ _ hx
   have hx1:=st _ _ hx1
   have hy:=sx _ _ hy
   have hy1:=st _ _ hy1
   have hk:=sk w (by omega) hk
   have q2_0:=hB1.cell 0 rfl
   have q2_1:=hB1.cell 1 rfl
   have q2_2:=hB1.cell 2 rfl
   have q2_3:=hB1.cell 3 rfl
   have q3_0:=hB2.cell 0 rfl
   have q3_1:=hB2.cell 1 rfl
   have q3_2:=hB2.cell 2 rfl
   have q3_3:=hB2.cell 3 rfl
   have q5_0:=B5n.cell 0 rfl
   have q5_1:=B5n.cell 1 rfl
   have q6_0:=B6n.cell 0 rfl
   have q6_1:=B6n.cell 1 rfl
   have q7_0:=B7n.cell 0 rfl
   have q7_1:=B7n.cell 1 rfl
   go_wp2_with fail
   generalize (((wi.setCell ⟨b6,0,none⟩ (.bool s6)).setCell ⟨b6,1,none⟩ (.slice a6 n6 c6)).setCell ⟨b7,0,none⟩ (.bool s7)).setCell ⟨b7,1,none⟩ (.slice a7 n7 c7)=w4 at *
   have hz0:=K6 w4.heap.size
   have lt2:=hB1.lt
   have lt3:=hB2.lt
   have lt5:=B5n.lt
   have lt6:=B6n.lt
   have lt7:=B7n.lt
   have ltB:=hB.lt
   refine ai 10 [.is (.pointer (some ⟨w.heap.size,0,none⟩)),.is (.agg #[.bool s1,.slice a1 n1 c1]),.is (.agg #[.bool s7,.slice a7 n7 c7]),.int (a*rz),.is (.pointer (some ⟨w.heap.size+1,0,none⟩)),.is (.agg #[.bool s3,.slice a3 n3 c3]),.is (.agg #[.bool s6,.slice a6 n6 c6]),.int (c*lz),.int s,.new w4.heap.size 95 cY] [0,1,2,3,4,5,6,7,8,9] (by kernel_rfl) (by kernel_rfl) (by kernel_rfl) (by kernel_rfl) (by kernel_rfl) (by kernel_rfl) (by intro f;simp only[laid,List.foldl_cons,List.foldl_nil,List.getElem?_toArray,K9,K8,Option.bind_some,Act.put,List.setIfInBounds_toArray,List.set_cons_zero,List.set_cons_succ];rfl) ?_ ?_
   ·intro i o him ho f wi hki hdep
    have q2_0:=(hB1.kept hki).cell 0 rfl
    have q2_1:=(hB1.kept hki).cell 1 rfl
    have q2_2:=(hB1.kept hki).cell 2 rfl
    have q2_3:=(hB1.kept hki).cell 3 rfl
    have q3_0:=(hB2.kept hki).cell 0 rfl
    have q3_1:=(hB2.kept hki).cell 1 rfl
    have q3_2:=(hB2.kept hki).cell 2 rfl
    have q3_3:=(hB2.kept hki).cell 3 rfl
    have q5_0:=(B5n.kept hki).cell 0 rfl
    have q5_1:=(B5n.kept hki).cell 1 rfl
    have q6_0:=(B6n.kept hki).cell 0 rfl
    have q6_1:=(B6n.kept hki).cell 1 rfl
    have q7_0:=(B7n.kept hki).cell 0 rfl
    have q7_1:=(B7n.kept hki).cell 1 rfl
    rcases i with _|_|_|_|_|_|_|_|_|_|i
    ·cases so ho
     refine ae.value (.pointer (some ⟨w.heap.size,0,none⟩)) ?_ (aa rfl)
     go_simp
    ·cases so ho
     have d0:=hdep ⟨0,.data⟩ (by simp) rfl
     simp only[af,K9] at d0
     refine ae.value (.agg #[.bool s1,.slice a1 n1 c1]) ?_ (aa rfl)
     go_simp
    ·cases so ho
     refine ae.value (.agg #[.bool s7,.slice a7 n7 c7]) ?_ (aa rfl)
     go_simp
    ·cases so ho
     have d1:=hdep ⟨1,.data⟩ (by simp) rfl
     have d2:=hdep ⟨2,.data⟩ (by simp) rfl
     simp only[af,K9,K8] at d1 d2
     refine ae.call 81 #[.agg #[.bool s1,.slice a1 n1 c1],.agg #[.bool s7,.slice a7 n7 c7]] (by go_simp) ((M1.out _ _ wi (hx1.kept hki) (hr.kept hki)).mono ?_)
     rintro e w7 ⟨v,rfl,hv,hk7⟩
     exact⟨v,rfl,hv,hk7,trivial⟩
    ·cases so ho
     refine ae.value (.pointer (some ⟨w.heap.size+1,0,none⟩)) ?_ (aa rfl)
     go_simp
    ·cases so ho
     have d4:=hdep ⟨4,.data⟩ (by simp) rfl
     simp only[af,K9,K8] at d4
     refine ae.value (.agg #[.bool s3,.slice a3 n3 c3]) ?_ (aa rfl)
     go_simp
    ·cases so ho
     refine ae.value (.agg #[.bool s6,.slice a6 n6 c6]) ?_ (aa rfl)
     go_simp
    ·cases so ho
     have d5:=hdep ⟨5,.data⟩ (by simp) rfl
     have d6:=hdep ⟨6,.data⟩ (by simp) rfl
     simp only[af,K9,K8] at d5 d6
     refine ae.call 81 #[.agg #[.bool s3,.slice a3 n3 c3],.agg #[.bool s6,.slice a6 n6 c6]] (by go_simp) ((M2.out _ _ wi (hy1.kept hki) (hl.kept hki)).mono ?_)
     rintro e w7 ⟨v,rfl,hv,hk7⟩
     exact⟨v,rfl,hv,hk7,trivial⟩
    ·cases so ho
     have d3:=hdep ⟨3,.data⟩ (by simp) rfl
     have d7:=hdep ⟨7,.data⟩ (by simp) rfl
     simp only[af,K9,K8] at d3 d7
     refine ae.call 153 #[f 3,f 7] (by go_simp) ((M3.out _ _ wi d3 d7).mono ?_)
     rintro e w7 ⟨v,rfl,hv,hk7⟩
     exact⟨v,rfl,hv,hk7,trivial⟩
    ·cases so ho
     refine ae.to (.pointer (some ⟨wi.heap.size,0,none⟩)) (wi.alloc (.cells cY.toArray 95)) ?_ ⟨⟨_,rfl,Nat.le_trans hz0 hki.size,aE _ _ _⟩,aj _ _,rfl⟩
     go_simp
    ·omega
   ·intro f wi hki hall hap
    have hk:=Kept.comp _ _ _ hk hki
    have hB1:=hB1.kept hki
    have hB2:=hB2.kept hki
    have B5n:=B5n.kept hki
    have B6n:=B6n.kept hki
    have B7n:=B7n.kept hki
    have hg:=hg.kept hki
    have hl:=hl.kept hki
    have hr:=hr.kept hki
    have hx:=hx.kept hki
    have hx1:=hx1.kept hki
    have hy:=hy.kept hki
    have hy1:=hy1.kept hki
    have hB:=hB.kept hki
    have hs:=hall 8 (by decide)
    simp only[af,K9,K8] at hs
    obtain⟨s8,a8,n8,c8,e8⟩:=aN hs
    rw[e8] at hs
    obtain⟨b8,eb8,hb8,B8⟩:=hall 9 (by decide)
    clear hall hap
    simp only[List.drop_succ_cons,List.drop_zero]
    rw[eb8,e8]
    have w80:=B8.cell 0 rfl
    have w81:=B8.cell 1 rfl
    have v80:=B8.free 0
    have v81:=B8.free 1
    obtain⟨B8n,st,sx,sb,sk,sz⟩:=iG B8 s8 a8 n8 c8
    have hB1:=sb _ _ _ (by omega) hB1
    have hB2:=sb _ _ _ (by omega) hB2
    have B5n:=sb _ _ _ (by omega) B5n
    have B6n:=sb _ _ _ (by omega) B6n
    have B7n:=sb _ _ _ (by omega) B7n
    have hB:=sb _ _ _ (by omega) hB
    have hg:=st _ _ hg
    have hl:=st _ _ hl
    have hr:=st _ _ hr
    have hs:=st _ _ hs
    have hx:=sx _ _ hx
    have hx1:=st _ _ hx1
    have hy:=sx _ _ hy
    have hy1:=st _ _ hy1
    have hk:=sk w (by omega) hk
    have q2_0:=hB1.cell 0 rfl
    have q2_1:=hB1.cell 1 rfl
    have q2_2:=hB1.cell 2 rfl
    have q2_3:=hB1.cell 3 rfl
    have q3_0:=hB2.cell 0 rfl
    have q3_1:=hB2.cell 1 rfl
    have q3_2:=hB2.cell 2 rfl
    have q3_3:=hB2.cell 3 rfl
    have q5_0:=B5n.cell 0 rfl
    have q5_1:=B5n.cell 1 rfl
    have q6_0:=B6n.cell 0 rfl
    have q6_1:=B6n.cell 1 rfl
    have q7_0:=B7n.cell 0 rfl
    have q7_1:=B7n.cell 1 rfl
    have q8_0:=B8n.cell 0 rfl
    have q8_1:=B8n.cell 1 rfl
    go_wp2_with fail
    generalize (wi.setCell ⟨b8,0,none⟩ (.bool s8)).setCell ⟨b8,1,none⟩ (.slice a8 n8 c8)=w5 at *
    refine (MD2.out _ _ _ hs hg).mono ?_
    rintro e wc ⟨vc,rfl,hg1,hkc⟩
    have hk:=Kept.comp _ _ _ hk hkc
    have hB1:=hB1.kept hkc
    have hB2:=hB2.kept hkc
    have B5n:=B5n.kept hkc
    have B6n:=B6n.kept hkc
    have B7n:=B7n.kept hkc
    have B8n:=B8n.kept hkc
    have hB:=hB.kept hkc
    have hg:=hg.kept hkc
    have hl:=hl.kept hkc
    have hr:=hr.kept hkc
    have hs:=hs.kept hkc
    have hx:=hx.kept hkc
    have hx1:=hx1.kept hkc
    have hy:=hy.kept hkc
    have hy1:=hy1.kept hkc
    obtain⟨s9,a9,n9,c9,rfl⟩:=aN hg1
    clear hkc
    have lt2:=hB1.lt
    have lt3:=hB2.lt
    have lt5:=B5n.lt
    have lt6:=B6n.lt
    have lt7:=B7n.lt
    have lt8:=B8n.lt
    have q2_0:=hB1.cell 0 rfl
    have q2_1:=hB1.cell 1 rfl
    have q2_2:=hB1.cell 2 rfl
    have q2_3:=hB1.cell 3 rfl
    have q3_0:=hB2.cell 0 rfl
    have q3_1:=hB2.cell 1 rfl
    have q3_2:=hB2.cell 2 rfl
    have q3_3:=hB2.cell 3 rfl
    have q5_0:=B5n.cell 0 rfl
    have q5_1:=B5n.cell 1 rfl
    have q6_0:=B6n.cell 0 rfl
    have q6_1:=B6n.cell 1 rfl
    have q7_0:=B7n.cell 0 rfl
    have q7_1:=B7n.cell 1 rfl
    have q8_0:=B8n.cell 0 rfl
    have q8_1:=B8n.cell 1 rfl
    have v50:=B5n.free 0
    have v51:=B5n.free 1
    obtain⟨Bn,st,sx,sb,sk,sz⟩:=iG B5n s9 a9 n9 c9
    have hB1:=sb _ _ _ (by omega) hB1
    have hB2:=sb _ _ _ (by omega) hB2
    have B6n:=sb _ _ _ (by omega) B6n
    have B7n:=sb _ _ _ (by omega) B7n
    have B8n:=sb _ _ _ (by omega) B8n
    have hB:=sb _ _ _ (by omega) hB
    have hg:=st _ _ hg
    have hg1:=st _ _ hg1
    have hl:=st _ _ hl
    have hr:=st _ _ hr
    have hs:=st _ _ hs
    have hx:=sx _ _ hx
    have hx1:=st _ _ hx1
    have hy:=sx _ _ hy
    have hy1:=st _ _ hy1
    have hk:=sk w (by omega) hk
    go_wp2_with fail
    generalize (wc.setCell ⟨b5,0,none⟩ (.bool s9)).setCell ⟨b5,1,none⟩ (.slice a9 n9 c9)=w6 at *
    have B5n:=Bn
    clear Bn
    have hz0:=K6 w6.heap.size
    have lt2:=hB1.lt
    have lt3:=hB2.lt
    have lt5:=B5n.lt
    have lt6:=B6n.lt
    have lt7:=B7n.lt
    have lt8:=B8n.lt
    refine ai 10 [.is (.agg #[.bool s8,.slice a8 n8 c8]),.is (.agg #[.bool s9,.slice a9 n9 c9]),.int q,.is (.agg #[.bool s6,.slice a6 n6 c6]),.is (.agg #[.bool s3,.slice a3 n3 c3,.bool s4,.slice a4 n4 c4]),.int d,.is (.agg #[.bool s9,.slice a9 n9 c9]),.int d2,.int (lz*d2),.num z] [0,1,2,3,4,5,6,7,8,9] (by kernel_rfl) (by kernel_rfl) (by kernel_rfl) (by kernel_rfl) (by kernel_rfl) (by kernel_rfl) (by intro f;simp only[laid,List.foldl_cons,List.foldl_nil,List.getElem?_toArray,K9,K8,Option.bind_some,Act.put,List.setIfInBounds_toArray,List.set_cons_zero,List.set_cons_succ];rfl) ?_ ?_
    ·intro i o him ho f wi hki hdep
     have q2_0:=(hB1.kept hki).cell 0 rfl
     have q2_1:=(hB1.kept hki).cell 1 rfl
     have q2_2:=(hB1.kept hki).cell 2 rfl
     have q2_3:=(hB1.kept hki).cell 3 rfl
     have q3_0:=(hB2.kept hki).cell 0 rfl
     have q3_1:=(hB2.kept hki).cell 1 rfl
     have q3_2:=(hB2.kept hki).cell 2 rfl
     have q3_3:=(hB2.kept hki).cell 3 rfl
     have q5_0:=(B5n.kept hki).cell 0 rfl
     have q5_1:=(B5n.kept hki).cell 1 rfl
     have q6_0:=(B6n.kept hki).cell 0 rfl
     have q6_1:=(B6n.kept hki).cell 1 rfl
     have q7_0:=(B7n.kept hki).cell 0 rfl
     have q7_1:=(B7n.kept hki).cell 1 rfl
     have q8_0:=(B8n.kept hki).cell 0 rfl
     have q8_1:=(B8n.kept hki).cell 1 rfl
     rcases i with _|_|_|_|_|_|_|_|_|_|i
     ·cases so ho
      refine ae.value (.agg #[.bool s8,.slice a8 n8 c8]) ?_ (aa rfl)
      go_simp
     ·cases so ho
      refine ae.value (.agg #[.bool s9,.slice a9 n9 c9]) ?_ (aa rfl)
      go_simp
     ·cases so ho
      have d0:=hdep ⟨0,.data⟩ (by simp) rfl
      have d1:=hdep ⟨1,.data⟩ (by simp) rfl
      simp only[af,K9,K8] at d0 d1
      refine ae.call 157 #[.agg #[.bool s8,.slice a8 n8 c8],.agg #[.bool s9,.slice a9 n9 c9]] (by go_simp) ((S3.out _ _ wi (hs.kept hki) (hg1.kept hki)).mono ?_)
      rintro e w7 ⟨v,rfl,hv,hk7⟩
      exact⟨v,rfl,hv,hk7,trivial⟩
     ·cases so ho
      refine ae.value (.agg #[.bool s6,.slice a6 n6 c6]) ?_ (aa rfl)
      go_simp
     ·cases so ho
      refine ae.value (.agg #[.bool s3,.slice a3 n3 c3,.bool s4,.slice a4 n4 c4]) ?_ (aa rfl)
      go_simp
     ·cases so ho
      have d4:=hdep ⟨4,.data⟩ (by simp) rfl
      simp only[af,K9,K8] at d4
      refine ae.call 73 #[.agg #[.bool s3,.slice a3 n3 c3,.bool s4,.slice a4 n4 c4]] (by go_simp) ((MB2.out _ wi (hy.kept hki)).mono ?_)
      rintro e w7 ⟨v,rfl,hv,hk7⟩
      exact⟨v,rfl,hv,hk7,trivial⟩
     ·cases so ho
      refine ae.value (.agg #[.bool s9,.slice a9 n9 c9]) ?_ (aa rfl)
      go_simp
     ·cases so ho
      have d5:=hdep ⟨5,.data⟩ (by simp) rfl
      have d6:=hdep ⟨6,.data⟩ (by simp) rfl
      simp only[af,K9,K8] at d5 d6
      refine ae.call 157 #[f 5,.agg #[.bool s9,.slice a9 n9 c9]] (by go_simp) ((S4.out _ _ wi d5 (hg1.kept hki)).mono ?_)
      rintro e w7 ⟨v,rfl,hv,hk7⟩
      exact⟨v,rfl,hv,hk7,trivial⟩
     ·cases so ho
      have d3:=hdep ⟨3,.data⟩ (by simp) rfl
      have d7:=hdep ⟨7,.data⟩ (by simp) rfl
      simp only[af,K9,K8] at d3 d7
      refine ae.call 81 #[.agg #[.bool s6,.slice a6 n6 c6],f 7] (by go_simp) ((M4.out _ _ wi (hl.kept hki) d7).mono ?_)
      rintro e w7 ⟨v,rfl,hv,hk7⟩
      exact⟨v,rfl,hv,hk7,trivial⟩
     ·cases so ho
      have d2:=hdep ⟨2,.data⟩ (by simp) rfl
      have d8:=hdep ⟨8,.data⟩ (by simp) rfl
      simp only[af,K9,K8] at d2 d8
      obtain⟨sx0,ax0,nx0,cx0,ex0⟩:=aN d2
      rw[ex0] at d2
      obtain⟨sx1,ax1,nx1,cx1,ex1⟩:=aN d8
      rw[ex1] at d8
      refine ae.value (.agg #[.bool sx0,.slice ax0 nx0 cx0,.bool sx1,.slice ax1 nx1 cx1]) ?_ ⟨HX.out wi _ _ _ _ _ _ _ _ d2 d8,Kept.rfl' _,trivial⟩
      simp only[ex0,ex1]
      go_simp
     ·omega
    ·intro f wi hki hall hap
     have hk:=Kept.comp _ _ _ hk hki
     have hB1:=hB1.kept hki
     have hB2:=hB2.kept hki
     have B5n:=B5n.kept hki
     have B6n:=B6n.kept hki
     have B7n:=B7n.kept hki
     have B8n:=B8n.kept hki
     have hg:=hg.kept hki
     have hg1:=hg1.kept hki
     have hl:=hl.kept hki
     have hr:=hr.kept hki
     have hs:=hs.kept hki
     have hx:=hx.kept hki
     have hx1:=hx1.kept hki
     have hy:=hy.kept hki
     have hy1:=hy1.kept hki
     have hB:=hB.kept hki
     have hv:=hall 9 (by decide)
     simp only[af,K9,K8] at hv
     obtain⟨s10,a10,n10,c10,s11,a11,n11,c11,e10⟩:=bB hv
     rw[e10] at hv
     clear hall hap
     simp only[List.drop_succ_cons,List.drop_zero]
     rw[e10]
     have r0:=hB.cell 0 rfl
     have r1:=hB.cell 1 rfl
     have r2:=hB.cell 2 rfl
     have r3:=hB.cell 3 rfl
     have f0:=hB.free 0
     have f1:=hB.free 1
     have f2:=hB.free 2
     have f3:=hB.free 3
     clear MB1 MB2 MD1 MD2 S1 S2 S3 S4 M1 M2 M3 M4 HX hx hy hx1 hy1 hB1 hB2 hg hl hr hs hg1
     go_wp2
     obtain⟨rB,rv,rk⟩:=xW (w:=w) hB (by omega) hk hv
     have p0:=rB.cell 0 rfl
     have p1:=rB.cell 1 rfl
     have p2:=rB.cell 2 rfl
     have p3:=rB.cell 3 rfl
     exact bodyPost_ret (v:=.agg #[.bool s10,.slice a10 n10 c10,.bool s11,.slice a11 n11 c11]) (by simp[results,Tryz.results175,go_sem,p0,p1,p2,p3]) rfl ⟨_,rfl,rv,rk⟩
end Go.Proofs.YtjbcmmaniphkkaaGreatDoor.E
