import Derived.Test.YtjbcmmaniphkkaaGreatDoorEd
set_option linter.unusedSectionVars false
set_option linter.unusedVariables false
set_option linter.unusedSimpArgs false
set_option maxRecDepth 100000
set_option maxHeartbeats 2000000
namespace Go.Proofs.YtjbcmmaniphkkaaGreatDoor.E
open Go.RowKit LimbNum
theorem BU (v1 v2:Value) (x y:Int) (k:Nat) (w:World) (hx:Whole w v1 x) (hy:Whole w v2 y) (bx:x.natAbs<10^k) (bl:y.natAbs<10^k) (hkk:k≤1000000) (hc:y<0) :
  Calls Tryz.prog 74 #[v1,v2] w fun e w'=>∃ v,e=.returned v∧Ex w' v (Rat.divInt x y)∧Kept w w':=by
 have MS:=K7 fun v w' (h:Whole w' v y)=>bZ v y w' h (Nat.le_trans (aX bl) (by omega))
 rw[show y.sign = -1 from Int.sign_eq_neg_one_of_neg hc] at MS
 have N1:=K7 fun v w' h=>iz v x w' h (Nat.le_trans (aX bx) (by omega))
 have N2:=K7 fun v w' h=>iz v y w' h (Nat.le_trans (aX bl) (by omega))
 have bx:(-x).natAbs<10^k:=by rw[Int.natAbs_neg];exact bx
 have bl:(-y).natAbs<10^k:=by rw[Int.natAbs_neg];exact bl
 obtain⟨i1,i2⟩:=DigNum.uB (m:=-x) (D:=-y) (by omega)
 rw[DigNum.vw] at i1 i2
 have G1:((Nat.gcd (-x).natAbs (-y).natAbs:Nat):Int).natAbs<10^k:=DigNum.fo (DigNum.ta bl (by omega) _)
 have MD:=K7 fun va vb w' h1 h2=>dQ va vb (-x) (-y) w' h1 h2 (Nat.le_trans (aX bx) (by omega)) (Nat.le_trans (aX bl) (by omega))
 generalize ((Nat.gcd (-x).natAbs (-y).natAbs:Nat):Int)=g at *
 have S1:=K7 fun va vb w' h1 h2=>cm va vb (-x) g w' h1 h2 (Nat.le_trans (aX bx) (by omega)) (Nat.le_trans (aX G1) (by omega))
 have S2:=K7 fun va vb w' h1 h2=>cm va vb (-y) g w' h1 h2 (Nat.le_trans (aX bl) (by omega)) (Nat.le_trans (aX G1) (by omega))
 have HX:=K7 fun w' s a n c s' a' n' c' (q1:Whole w' (.agg #[.bool s,.slice a n c]) ((-x).tdiv g)) (q2:Whole w' (.agg #[.bool s',.slice a' n' c']) ((-y).tdiv g))=>(oJ (x:=Rat.divInt x y) (by rw[i1];exact q1) (by rw[i2];exact q2))
 generalize Rat.divInt x y=z at *
 generalize (-x).tdiv g=p1 at *
 generalize (-y).tdiv g=p2 at *
 clear i1 i2 G1 bx bl hkk hc
 generalize hm : -x=m at *
 generalize hd : -y=d at *
 clear hm hd
 obtain⟨s1,a1,n1,c1,rfl⟩:=aO hx
 obtain⟨s2,a2,n2,c2,rfl⟩:=aO hy
 obtain⟨hk,hB1,hB2,hB⟩:=cO w [.bool s1,.slice a1 n1 c1] [.bool s2,.slice a2 n2 c2] 95 95 97 iw
 go_enter Tryz.func74,Tryz.ntmps74
 have q2_0:=hB1.cell 0 rfl
 have q2_1:=hB1.cell 1 rfl
 have q3_0:=hB2.cell 0 rfl
 have q3_1:=hB2.cell 1 rfl
 go_wp2_with fail
 have hx:=hx.kept hk
 have hy:=hy.kept hk
 generalize ((w.alloc (.cells [.bool s1,.slice a1 n1 c1].toArray _)).alloc (.cells [.bool s2,.slice a2 n2 c2].toArray _)).alloc (.cells iw.toArray _)=w2 at *
 refine (MS.out _ _ hy).mono ?_
 rintro e wc ⟨rfl,hkc⟩
 have hk:=Kept.comp _ _ _ hk hkc
 have hB1:=hB1.kept hkc
 have hB2:=hB2.kept hkc
 have hB:=hB.kept hkc
 have hx:=hx.kept hkc
 have hy:=hy.kept hkc
 clear hkc
 have q2_0:=hB1.cell 0 rfl
 have q2_1:=hB1.cell 1 rfl
 have q3_0:=hB2.cell 0 rfl
 have q3_1:=hB2.cell 1 rfl
 go_wp2_with fail
 have hkw:=hk
 refine (MS.out _ _ hy).mono ?_
 rintro e wc ⟨rfl,hkc⟩
 have hk:=Kept.comp _ _ _ hk hkc
 have hB1:=hB1.kept hkc
 have hB2:=hB2.kept hkc
 have hB:=hB.kept hkc
 have hx:=hx.kept hkc
 have hy:=hy.kept hkc
 clear hkc MS hkw
 have q2_0:=hB1.cell 0 rfl
 have q2_1:=hB1.cell 1 rfl
 have q3_0:=hB2.cell 0 rfl
 have q3_1:=hB2.cell 1 rfl
 go_wp2_with fail
 have hz0:=K6 wc.heap.size
 have lt2:=hB1.lt
 have lt3:=hB2.lt
 have ltB:=hB.lt
 refine aj 4 [.is (.agg #[.bool s1,.slice a1 n1 c1]),.int m,.is (.agg #[.bool s2,.slice a2 n2 c2]),.int d] [0,1,2,3] (by kernel_rfl) (by kernel_rfl) (by kernel_rfl) (by kernel_rfl) (by kernel_rfl) (by kernel_rfl) (by intro f;simp only[laid,List.foldl_cons,List.foldl_nil,List.getElem?_toArray,K9,K8,Option.bind_some,Act.put,List.setIfInBounds_toArray,List.set_cons_zero,List.set_cons_succ];rfl) ?_ ?_
 ·intro i o him ho f wi hki hdep
  have q2_0:=(hB1.kept hki).cell 0 rfl
  have q2_1:=(hB1.kept hki).cell 1 rfl
  have q3_0:=(hB2.kept hki).cell 0 rfl
  have q3_1:=(hB2.kept hki).cell 1 rfl
  rcases i with _|_|_|_|i
  ·cases so ho
   refine ae.value (.agg #[.bool s1,.slice a1 n1 c1]) ?_ (aa rfl)
   go_simp
  ·cases so ho
   have d0:=hdep ⟨0,.data⟩ (by simp) rfl
   simp only[af,K9] at d0
   refine ae.call 156 #[.agg #[.bool s1,.slice a1 n1 c1]] (by go_simp) ((N1.out _ wi (hx.kept hki)).mono ?_)
   rintro e w7 ⟨v,rfl,hv,hk7⟩
   exact⟨v,rfl,hv,hk7,trivial⟩
  ·cases so ho
   refine ae.value (.agg #[.bool s2,.slice a2 n2 c2]) ?_ (aa rfl)
   go_simp
  ·cases so ho
   have d2:=hdep ⟨2,.data⟩ (by simp) rfl
   simp only[af,K9,K8] at d2
   refine ae.call 156 #[.agg #[.bool s2,.slice a2 n2 c2]] (by go_simp) ((N2.out _ wi (hy.kept hki)).mono ?_)
   rintro e w7 ⟨v,rfl,hv,hk7⟩
   exact⟨v,rfl,hv,hk7,trivial⟩
  ·omega
 ·intro f wi hki hall hap
  have hk:=Kept.comp _ _ _ hk hki
  have hB1:=hB1.kept hki
  have hB2:=hB2.kept hki
  have hx:=hx.kept hki
  have hy:=hy.kept hki
  have hB:=hB.kept hki
  have hm:=hall 1 (by decide)
  simp only[af,K9,K8] at hm
  obtain⟨s5,a5,n5,c5,e5⟩:=aO hm
  rw[e5] at hm
  have hd:=hall 3 (by decide)
  simp only[af,K9,K8] at hd
  obtain⟨s6,a6,n6,c6,e6⟩:=aO hd
  rw[e6] at hd
  clear hall hap
  simp only[List.drop_succ_cons,List.drop_zero]
  rw[e5,e6]
  have q2_0:=hB1.cell 0 rfl
  have q2_1:=hB1.cell 1 rfl
  have q3_0:=hB2.cell 0 rfl
  have q3_1:=hB2.cell 1 rfl
  have v20:=hB1.free 0
  have v21:=hB1.free 1
  have v30:=hB2.free 0
  have v31:=hB2.free 1
  obtain⟨Bn2,st,sx,sb,sk,sz⟩:=oU hB1 s5 a5 n5 c5
  have hB2:=sb _ _ _ (by omega) hB2
  have hB1:=Bn2
  have hB:=sb _ _ _ (by omega) hB
  have hd:=st _ _ hd
  have hm:=st _ _ hm
  have hx:=st _ _ hx
  have hy:=st _ _ hy
  have hk:=sk w (by omega) hk
  obtain⟨Bn3,st,sx,sb,sk,sz⟩:=oU hB2 s6 a6 n6 c6
  have hB1:=sb _ _ _ (by omega) hB1
  have hB2:=Bn3
  have hB:=sb _ _ _ (by omega) hB
  have hd:=st _ _ hd
  have hm:=st _ _ hm
  have hx:=st _ _ hx
  have hy:=st _ _ hy
  have hk:=sk w (by omega) hk
  have q2_0:=hB1.cell 0 rfl
  have q2_1:=hB1.cell 1 rfl
  have q3_0:=hB2.cell 0 rfl
  have q3_1:=hB2.cell 1 rfl
  go_wp2_with fail
  generalize (((wi.setCell ⟨w.heap.size,0,none⟩ (.bool s5)).setCell ⟨w.heap.size,1,none⟩ (.slice a5 n5 c5)).setCell ⟨w.heap.size+1,0,none⟩ (.bool s6)).setCell ⟨w.heap.size+1,1,none⟩ (.slice a6 n6 c6)=w4 at *
  refine (MD.out _ _ _ hm hd).mono ?_
  rintro e wd ⟨vc,rfl,hg,hkc⟩
  have hk:=Kept.comp _ _ _ hk hkc
  have hB1:=hB1.kept hkc
  have hB2:=hB2.kept hkc
  have hB:=hB.kept hkc
  have hd:=hd.kept hkc
  have hm:=hm.kept hkc
  have hx:=hx.kept hkc
  have hy:=hy.kept hkc
  obtain⟨s8,a8,n8,c8,rfl⟩:=aO hg
  clear hkc MD
  have kn:=ak wd (.cells ([.bool s8,.slice a8 n8 c8]).toArray 95)
  have B5:=aJ wd 95 [.bool s8,.slice a8 n8 c8]
  have q2_0:=hB1.cell 0 rfl
  have q2_1:=hB1.cell 1 rfl
  have q3_0:=hB2.cell 0 rfl
  have q3_1:=hB2.cell 1 rfl
  go_wp2_with fail
  have hk:=Kept.comp _ _ _ hk kn
  have hB1:=hB1.kept kn
  have hB2:=hB2.kept kn
  have hB:=hB.kept kn
  have hd:=hd.kept kn
  have hg:=hg.kept kn
  have hm:=hm.kept kn
  have hx:=hx.kept kn
  have hy:=hy.kept kn
  generalize hwd:wd.heap.size=zd at *
  clear hwd
  generalize wd.alloc (.cells [.bool s8,.slice a8 n8 c8].toArray _)=w5 at *
  clear kn
  have hz0:=K6 w5.heap.size
  have lt2:=hB1.lt
  have lt3:=hB2.lt
  have lt5:=B5.lt
  refine aj 7 [.is (.agg #[.bool s5,.slice a5 n5 c5]),.is (.agg #[.bool s8,.slice a8 n8 c8]),.int p1,.is (.agg #[.bool s6,.slice a6 n6 c6]),.is (.agg #[.bool s8,.slice a8 n8 c8]),.int p2,.num z] [0,1,2,3,4,5,6] (by kernel_rfl) (by kernel_rfl) (by kernel_rfl) (by kernel_rfl) (by kernel_rfl) (by kernel_rfl) (by intro f;simp only[laid,List.foldl_cons,List.foldl_nil,List.getElem?_toArray,K9,K8,Option.bind_some,Act.put,List.setIfInBounds_toArray,List.set_cons_zero,List.set_cons_succ];rfl) ?_ ?_
  ·intro i o him ho f wi hki hdep
   have q2_0:=(hB1.kept hki).cell 0 rfl
   have q2_1:=(hB1.kept hki).cell 1 rfl
   have q3_0:=(hB2.kept hki).cell 0 rfl
   have q3_1:=(hB2.kept hki).cell 1 rfl
   have q5_0:=(B5.kept hki).cell 0 rfl
   have q5_1:=(B5.kept hki).cell 1 rfl
   rcases i with _|_|_|_|_|_|_|i
   ·cases so ho
    refine ae.value (.agg #[.bool s5,.slice a5 n5 c5]) ?_ (aa rfl)
    go_simp
   ·cases so ho
    refine ae.value (.agg #[.bool s8,.slice a8 n8 c8]) ?_ (aa rfl)
    go_simp
   ·cases so ho
    have d0:=hdep ⟨0,.data⟩ (by simp) rfl
    have d1:=hdep ⟨1,.data⟩ (by simp) rfl
    simp only[af,K9,K8] at d0 d1
    refine ae.call 157 #[.agg #[.bool s5,.slice a5 n5 c5],.agg #[.bool s8,.slice a8 n8 c8]] (by go_simp) ((S1.out _ _ wi (hm.kept hki) (hg.kept hki)).mono ?_)
    rintro e w7 ⟨v,rfl,hv,hk7⟩
    exact⟨v,rfl,hv,hk7,trivial⟩
   ·cases so ho
    refine ae.value (.agg #[.bool s6,.slice a6 n6 c6]) ?_ (aa rfl)
    go_simp
   ·cases so ho
    refine ae.value (.agg #[.bool s8,.slice a8 n8 c8]) ?_ (aa rfl)
    go_simp
   ·cases so ho
    have d3:=hdep ⟨3,.data⟩ (by simp) rfl
    have d4:=hdep ⟨4,.data⟩ (by simp) rfl
    simp only[af,K9,K8] at d3 d4
    refine ae.call 157 #[.agg #[.bool s6,.slice a6 n6 c6],.agg #[.bool s8,.slice a8 n8 c8]] (by go_simp) ((S2.out _ _ wi (hd.kept hki) (hg.kept hki)).mono ?_)
    rintro e w7 ⟨v,rfl,hv,hk7⟩
    exact⟨v,rfl,hv,hk7,trivial⟩
   ·cases so ho
    have d2:=hdep ⟨2,.data⟩ (by simp) rfl
    have d5:=hdep ⟨5,.data⟩ (by simp) rfl
    simp only[af,K9,K8] at d2 d5
    obtain⟨sx0,ax0,nx0,cx0,ex0⟩:=aO d2
    rw[ex0] at d2
    obtain⟨sx1,ax1,nx1,cx1,ex1⟩:=aO d5
    rw[ex1] at d5
    refine ae.value (.agg #[.bool sx0,.slice ax0 nx0 cx0,.bool sx1,.slice ax1 nx1 cx1]) ?_ ⟨HX.out wi _ _ _ _ _ _ _ _ d2 d5,Kept.rfl' _,trivial⟩
    simp only[ex0,ex1]
    go_simp
   ·omega
  ·intro f wi hki hall hap
   have hk:=Kept.comp _ _ _ hk hki
   have hB1:=hB1.kept hki
   have hB2:=hB2.kept hki
   have B5:=B5.kept hki
   have hd:=hd.kept hki
   have hg:=hg.kept hki
   have hm:=hm.kept hki
   have hx:=hx.kept hki
   have hy:=hy.kept hki
   have hB:=hB.kept hki
   have hv:=hall 6 (by decide)
   simp only[af,K9,K8] at hv
   obtain⟨s9,a9,n9,c9,s10,a10,n10,c10,e9⟩:=dL hv
   rw[e9] at hv
   clear hall hap
   simp only[List.drop_succ_cons,List.drop_zero]
   rw[e9]
   have r0:=hB.cell 0 rfl
   have r1:=hB.cell 1 rfl
   have r2:=hB.cell 2 rfl
   have r3:=hB.cell 3 rfl
   have f0:=hB.free 0
   have f1:=hB.free 1
   have f2:=hB.free 2
   have f3:=hB.free 3
   clear S1 S2 HX hx hy hB1 hB2 B5 hg hm hd N1 N2
   go_wp2
   obtain⟨rB,rv,rk⟩:=GS (w:=w) hB (by omega) hk hv
   have p0:=rB.cell 0 rfl
   have p1:=rB.cell 1 rfl
   have p2:=rB.cell 2 rfl
   have p3:=rB.cell 3 rfl
   exact bodyPost_ret (v:=.agg #[.bool s9,.slice a9 n9 c9,.bool s10,.slice a10 n10 c10]) (by simp[results,Tryz.results74,go_sem,p0,p1,p2,p3]) rfl ⟨_,rfl,rv,rk⟩
theorem BV (v1 v2:Value) (x y:Int) (k:Nat) (w:World) (hx:Whole w v1 x) (hy:Whole w v2 y) (bx:x.natAbs<10^k) (bl:y.natAbs<10^k) (hkk:k≤1000000) (hc:0<y) :
  Calls Tryz.prog 74 #[v1,v2] w fun e w'=>∃ v,e=.returned v∧Ex w' v (Rat.divInt x y)∧Kept w w':=by
 have MS:=K7 fun v w' (h:Whole w' v y)=>bZ v y w' h (Nat.le_trans (aX bl) (by omega))
 rw[show y.sign=1 from Int.sign_eq_one_of_pos hc] at MS
 obtain⟨i1,i2⟩:=DigNum.uB (m:=x) hc
 have G1:((Nat.gcd x.natAbs y.natAbs:Nat):Int).natAbs<10^k:=DigNum.fo (DigNum.ta bl (by omega) _)
 have MD:=K7 fun va vb w' h1 h2=>dQ va vb x y w' h1 h2 (Nat.le_trans (aX bx) (by omega)) (Nat.le_trans (aX bl) (by omega))
 generalize ((Nat.gcd x.natAbs y.natAbs:Nat):Int)=g at *
 have S1:=K7 fun va vb w' h1 h2=>cm va vb x g w' h1 h2 (Nat.le_trans (aX bx) (by omega)) (Nat.le_trans (aX G1) (by omega))
 have S2:=K7 fun va vb w' h1 h2=>cm va vb y g w' h1 h2 (Nat.le_trans (aX bl) (by omega)) (Nat.le_trans (aX G1) (by omega))
 have HX:=K7 fun w' s a n c s' a' n' c' (q1:Whole w' (.agg #[.bool s,.slice a n c]) (x.tdiv g)) (q2:Whole w' (.agg #[.bool s',.slice a' n' c']) (y.tdiv g))=>(oJ (x:=Rat.divInt x y) (by rw[i1];exact q1) (by rw[i2];exact q2))
 generalize Rat.divInt x y=z at *
 generalize x.tdiv g=p1 at *
 generalize y.tdiv g=p2 at *
 clear i1 i2 G1 bx bl hkk hc
 obtain⟨s1,a1,n1,c1,rfl⟩:=aO hx
 obtain⟨s2,a2,n2,c2,rfl⟩:=aO hy
 obtain⟨hk,hB1,hB2,hB⟩:=cO w [.bool s1,.slice a1 n1 c1] [.bool s2,.slice a2 n2 c2] 95 95 97 iw
 go_enter Tryz.func74,Tryz.ntmps74
 have q2_0:=hB1.cell 0 rfl
 have q2_1:=hB1.cell 1 rfl
 have q3_0:=hB2.cell 0 rfl
 have q3_1:=hB2.cell 1 rfl
 go_wp2_with fail
 have hx:=hx.kept hk
 have hy:=hy.kept hk
 generalize ((w.alloc (.cells [.bool s1,.slice a1 n1 c1].toArray _)).alloc (.cells [.bool s2,.slice a2 n2 c2].toArray _)).alloc (.cells iw.toArray _)=w2 at *
 refine (MS.out _ _ hy).mono ?_
 rintro e wc ⟨rfl,hkc⟩
 have hk:=Kept.comp _ _ _ hk hkc
 have hB1:=hB1.kept hkc
 have hB2:=hB2.kept hkc
 have hB:=hB.kept hkc
 have hx:=hx.kept hkc
 have hy:=hy.kept hkc
 clear hkc
 have q2_0:=hB1.cell 0 rfl
 have q2_1:=hB1.cell 1 rfl
 have q3_0:=hB2.cell 0 rfl
 have q3_1:=hB2.cell 1 rfl
 go_wp2_with fail
 have hkw:=hk
 refine (MS.out _ _ hy).mono ?_
 rintro e wc ⟨rfl,hkc⟩
 have hk:=Kept.comp _ _ _ hk hkc
 have hB1:=hB1.kept hkc
 have hB2:=hB2.kept hkc
 have hB:=hB.kept hkc
 have hx:=hx.kept hkc
 have hy:=hy.kept hkc
 clear hkc MS hkw
 have q2_0:=hB1.cell 0 rfl
 have q2_1:=hB1.cell 1 rfl
 have q3_0:=hB2.cell 0 rfl
 have q3_1:=hB2.cell 1 rfl
 go_wp2_with fail
 have hz0:=K6 wc.heap.size
 have lt2:=hB1.lt
 have lt3:=hB2.lt
 have ltB:=hB.lt
 refine (MD.out _ _ _ hx hy).mono ?_
 rintro e wd ⟨vc,rfl,hg,hkc⟩
 have hk:=Kept.comp _ _ _ hk hkc
 have hB1:=hB1.kept hkc
 have hB2:=hB2.kept hkc
 have hB:=hB.kept hkc
 have hx:=hx.kept hkc
 have hy:=hy.kept hkc
 obtain⟨s8,a8,n8,c8,rfl⟩:=aO hg
 clear hkc MD
 have kn:=ak wd (.cells ([.bool s8,.slice a8 n8 c8]).toArray 95)
 have B5:=aJ wd 95 [.bool s8,.slice a8 n8 c8]
 have q2_0:=hB1.cell 0 rfl
 have q2_1:=hB1.cell 1 rfl
 have q3_0:=hB2.cell 0 rfl
 have q3_1:=hB2.cell 1 rfl
 go_wp2_with fail
 have hk:=Kept.comp _ _ _ hk kn
 have hB1:=hB1.kept kn
 have hB2:=hB2.kept kn
 have hB:=hB.kept kn
 have hg:=hg.kept kn
 have hx:=hx.kept kn
 have hy:=hy.kept kn
 generalize hwd:wd.heap.size=zd at *
 clear hwd
 generalize wd.alloc (.cells [.bool s8,.slice a8 n8 c8].toArray _)=w5 at *
 clear kn
 have hz0:=K6 w5.heap.size
 have lt2:=hB1.lt
 have lt3:=hB2.lt
 have lt5:=B5.lt
 refine aj 7 [.is (.agg #[.bool s1,.slice a1 n1 c1]),.is (.agg #[.bool s8,.slice a8 n8 c8]),.int p1,.is (.agg #[.bool s2,.slice a2 n2 c2]),.is (.agg #[.bool s8,.slice a8 n8 c8]),.int p2,.num z] [0,1,2,3,4,5,6] (by kernel_rfl) (by kernel_rfl) (by kernel_rfl) (by kernel_rfl) (by kernel_rfl) (by kernel_rfl) (by intro f;simp only[laid,List.foldl_cons,List.foldl_nil,List.getElem?_toArray,K9,K8,Option.bind_some,Act.put,List.setIfInBounds_toArray,List.set_cons_zero,List.set_cons_succ];rfl) ?_ ?_
 ·intro i o him ho f wi hki hdep
  have q2_0:=(hB1.kept hki).cell 0 rfl
  have q2_1:=(hB1.kept hki).cell 1 rfl
  have q3_0:=(hB2.kept hki).cell 0 rfl
  have q3_1:=(hB2.kept hki).cell 1 rfl
  have q5_0:=(B5.kept hki).cell 0 rfl
  have q5_1:=(B5.kept hki).cell 1 rfl
  rcases i with _|_|_|_|_|_|_|i
  ·cases so ho
   refine ae.value (.agg #[.bool s1,.slice a1 n1 c1]) ?_ (aa rfl)
   go_simp
  ·cases so ho
   refine ae.value (.agg #[.bool s8,.slice a8 n8 c8]) ?_ (aa rfl)
   go_simp
  ·cases so ho
   have d0:=hdep ⟨0,.data⟩ (by simp) rfl
   have d1:=hdep ⟨1,.data⟩ (by simp) rfl
   simp only[af,K9,K8] at d0 d1
   refine ae.call 157 #[.agg #[.bool s1,.slice a1 n1 c1],.agg #[.bool s8,.slice a8 n8 c8]] (by go_simp) ((S1.out _ _ wi (hx.kept hki) (hg.kept hki)).mono ?_)
   rintro e w7 ⟨v,rfl,hv,hk7⟩
   exact⟨v,rfl,hv,hk7,trivial⟩
  ·cases so ho
   refine ae.value (.agg #[.bool s2,.slice a2 n2 c2]) ?_ (aa rfl)
   go_simp
  ·cases so ho
   refine ae.value (.agg #[.bool s8,.slice a8 n8 c8]) ?_ (aa rfl)
   go_simp
  ·cases so ho
   have d3:=hdep ⟨3,.data⟩ (by simp) rfl
   have d4:=hdep ⟨4,.data⟩ (by simp) rfl
   simp only[af,K9,K8] at d3 d4
   refine ae.call 157 #[.agg #[.bool s2,.slice a2 n2 c2],.agg #[.bool s8,.slice a8 n8 c8]] (by go_simp) ((S2.out _ _ wi (hy.kept hki) (hg.kept hki)).mono ?_)
   rintro e w7 ⟨v,rfl,hv,hk7⟩
   exact⟨v,rfl,hv,hk7,trivial⟩
  ·cases so ho
   have d2:=hdep ⟨2,.data⟩ (by simp) rfl
   have d5:=hdep ⟨5,.data⟩ (by simp) rfl
   simp only[af,K9,K8] at d2 d5
   obtain⟨sx0,ax0,nx0,cx0,ex0⟩:=aO d2
   rw[ex0] at d2
   obtain⟨sx1,ax1,nx1,cx1,ex1⟩:=aO d5
   rw[ex1] at d5
   refine ae.value (.agg #[.bool sx0,.slice ax0 nx0 cx0,.bool sx1,.slice ax1 nx1 cx1]) ?_ ⟨HX.out wi _ _ _ _ _ _ _ _ d2 d5,Kept.rfl' _,trivial⟩
   simp only[ex0,ex1]
   go_simp
  ·omega
 ·intro f wi hki hall hap
  have hk:=Kept.comp _ _ _ hk hki
  have hB1:=hB1.kept hki
  have hB2:=hB2.kept hki
  have B5:=B5.kept hki
  have hg:=hg.kept hki
  have hx:=hx.kept hki
  have hy:=hy.kept hki
  have hB:=hB.kept hki
  have hv:=hall 6 (by decide)
  simp only[af,K9,K8] at hv
  obtain⟨s9,a9,n9,c9,s10,a10,n10,c10,e9⟩:=dL hv
  rw[e9] at hv
  clear hall hap
  simp only[List.drop_succ_cons,List.drop_zero]
  rw[e9]
  have r0:=hB.cell 0 rfl
  have r1:=hB.cell 1 rfl
  have r2:=hB.cell 2 rfl
  have r3:=hB.cell 3 rfl
  have f0:=hB.free 0
  have f1:=hB.free 1
  have f2:=hB.free 2
  have f3:=hB.free 3
  clear S1 S2 HX hx hy hB1 hB2 B5 hg
  go_wp2
  obtain⟨rB,rv,rk⟩:=GS (w:=w) hB (by omega) hk hv
  have p0:=rB.cell 0 rfl
  have p1:=rB.cell 1 rfl
  have p2:=rB.cell 2 rfl
  have p3:=rB.cell 3 rfl
  exact bodyPost_ret (v:=.agg #[.bool s9,.slice a9 n9 c9,.bool s10,.slice a10 n10 c10]) (by simp[results,Tryz.results74,go_sem,p0,p1,p2,p3]) rfl ⟨_,rfl,rv,rk⟩
theorem BT (v1 v2:Value) (x y:Int) (k:Nat) (w:World) (hx:Whole w v1 x) (hy:Whole w v2 y) (bx:x.natAbs<10^k) (bl:y.natAbs<10^k) (hkk:k≤1000000) (hc:y≠0) :
  Calls Tryz.prog 74 #[v1,v2] w fun e w'=>∃ v,e=.returned v∧Ex w' v (Rat.divInt x y)∧Kept w w':=by
 rcases Int.lt_trichotomy y 0 with h|h|h
 ·exact BU v1 v2 x y k w hx hy bx bl hkk h
 ·exact absurd h hc
 ·exact BV v1 v2 x y k w hx hy bx bl hkk h
theorem BK (v1 v2:Value) (x y:Rat) (k l:Nat) (w:World) (hx:Ex w v1 x) (hy:Ex w v2 y) (bx:DigNum.Bd x k) (bl:DigNum.Bd y l) (hkk:k≤1000000) (hll:l≤1000000) :
  Calls Tryz.prog 76 #[v1,v2] w fun e w'=>e=.returned (.int .i64 (x-y).num.sign)∧Kept w w':=by
 have:=sO v1 v2 x y k l w hx hy bx bl hkk hll
 rwa [show jm (x.num*y.den) (y.num*x.den)=(x-y).num.sign from DigNum.FL x y] at this
end Go.Proofs.YtjbcmmaniphkkaaGreatDoor.E
