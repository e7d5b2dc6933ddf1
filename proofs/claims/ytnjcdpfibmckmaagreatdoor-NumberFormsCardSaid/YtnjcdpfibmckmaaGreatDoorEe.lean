import Derived.Test.YtnjcdpfibmckmaaGreatDoorEd
set_option linter.unusedSectionVars false
set_option linter.unusedVariables false
set_option linter.unusedSimpArgs false
set_option maxRecDepth 100000
set_option maxHeartbeats 2000000
namespace Go.Proofs.YtnjcdpfibmckmaaGreatDoor.E
open Go.RowKit LimbNum
theorem xY (v1 v2:Value) (x y:Int) (k:Nat) (w:World) (hx:Whole w v1 x) (hy:Whole w v2 y) (bx:x.natAbs<10^k) (bl:y.natAbs<10^k) (hkk:k≤1000000) (hc:y<0) :
  Calls Tryz.prog 101 #[v1,v2] w fun e w'=>∃ v,e=.returned v∧Ex w' v (Rat.divInt x y)∧Kept w w':=by
 have MS:=Lib.hid fun v w' (h:Whole w' v y)=>cW v y w' h (Nat.le_trans (cm bl) (by omega))
 rw[show y.sign = -1 from Int.sign_eq_neg_one_of_neg hc] at MS
 have N1:=Lib.hid fun v w' h=>gJ v x w' h (Nat.le_trans (cm bx) (by omega))
 have N2:=Lib.hid fun v w' h=>gJ v y w' h (Nat.le_trans (cm bl) (by omega))
 have bx:(-x).natAbs<10^k:=by rw[Int.natAbs_neg];exact bx
 have bl:(-y).natAbs<10^k:=by rw[Int.natAbs_neg];exact bl
 obtain⟨i1,i2⟩:=DigNum.rW (m:=-x) (D:=-y) (by omega)
 rw[DigNum.sM] at i1 i2
 have G1:((Nat.gcd (-x).natAbs (-y).natAbs:Nat):Int).natAbs<10^k:=DigNum.mI (DigNum.yQ bl (by omega) _)
 have MD:=Lib.hid fun va vb w' h1 h2=>fB va vb (-x) (-y) w' h1 h2 (Nat.le_trans (cm bx) (by omega)) (Nat.le_trans (cm bl) (by omega))
 generalize ((Nat.gcd (-x).natAbs (-y).natAbs:Nat):Int)=g at *
 have S1:=Lib.hid fun va vb w' h1 h2=>ec va vb (-x) g w' h1 h2 (Nat.le_trans (cm bx) (by omega)) (Nat.le_trans (cm G1) (by omega))
 have S2:=Lib.hid fun va vb w' h1 h2=>ec va vb (-y) g w' h1 h2 (Nat.le_trans (cm bl) (by omega)) (Nat.le_trans (cm G1) (by omega))
 have HX:=Lib.hid fun w' s a n c s' a' n' c' (q1:Whole w' (.agg #[.bool s,.slice a n c]) ((-x).tdiv g)) (q2:Whole w' (.agg #[.bool s',.slice a' n' c']) ((-y).tdiv g))=>(qv (x:=Rat.divInt x y) (by rw[i1];exact q1) (by rw[i2];exact q2))
 generalize Rat.divInt x y=z at *
 generalize (-x).tdiv g=p1 at *
 generalize (-y).tdiv g=p2 at *
 clear i1 i2 G1 bx bl hkk hc
 generalize hm : -x=m at *
 generalize hd : -y=d at *
 clear hm hd
 obtain⟨s1,a1,n1,c1,rfl⟩:=aM hx
 obtain⟨s2,a2,n2,c2,rfl⟩:=aM hy
 obtain⟨hk,hB1,hB2,hB⟩:=ct w [.bool s1,.slice a1 n1 c1] [.bool s2,.slice a2 n2 c2] 87 87 89 fO
 go_enter Tryz.func101,Tryz.ntmps101
 have q2_0:=hB1.cell 0 rfl
 have q2_1:=hB1.cell 1 rfl
 have q3_0:=hB2.cell 0 rfl
 have q3_1:=hB2.cell 1 rfl
 go_wp2_with fail
 have hx:=hx.kept hk
 have hy:=hy.kept hk
 generalize ((w.alloc (.cells [.bool s1,.slice a1 n1 c1].toArray _)).alloc (.cells [.bool s2,.slice a2 n2 c2].toArray _)).alloc (.cells fO.toArray _)=w2 at *
 refine (MS.out _ _ hy).mono ?_
 rintro e wc ⟨rfl,hkc⟩
 have hk:=Kept.comp _ _ _ hk hkc
 have hB1:=hB1.kept hkc
 have hB2:=hB2.kept hkc
 have hB:=hB.kept hkc
 have hx:=hx.kept hkc
 have hy:=hy.kept hkc
 clear hkc
 have q2_0:=hB1.cell 0 rfl
 have q2_1:=hB1.cell 1 rfl
 have q3_0:=hB2.cell 0 rfl
 have q3_1:=hB2.cell 1 rfl
 go_wp2_with fail
 have hkw:=hk
 refine (MS.out _ _ hy).mono ?_
 rintro e wc ⟨rfl,hkc⟩
 have hk:=Kept.comp _ _ _ hk hkc
 have hB1:=hB1.kept hkc
 have hB2:=hB2.kept hkc
 have hB:=hB.kept hkc
 have hx:=hx.kept hkc
 have hy:=hy.kept hkc
 clear hkc MS hkw
 have q2_0:=hB1.cell 0 rfl
 have q2_1:=hB1.cell 1 rfl
 have q3_0:=hB2.cell 0 rfl
 have q3_1:=hB2.cell 1 rfl
 go_wp2_with fail
 have hz0:=Nat.le_refl wc.heap.size
 have lt2:=hB1.lt
 have lt3:=hB2.lt
 have ltB:=hB.lt
 refine an 4 [.is (.agg #[.bool s1,.slice a1 n1 c1]),.int m,.is (.agg #[.bool s2,.slice a2 n2 c2]),.int d] [0,1,2,3] (by kernel_rfl) (by kernel_rfl) (by kernel_rfl) (by kernel_rfl) (by kernel_rfl) (by kernel_rfl) (by intro f;simp only[laid,List.foldl_cons,List.foldl_nil,List.getElem?_toArray,List.getElem?_cons_zero,List.getElem?_cons_succ,Option.bind_some,Act.put,List.setIfInBounds_toArray,List.set_cons_zero,List.set_cons_succ];rfl) ?_ ?_
 ·intro i o him ho f wi hki hdep
  have q2_0:=(hB1.kept hki).cell 0 rfl
  have q2_1:=(hB1.kept hki).cell 1 rfl
  have q3_0:=(hB2.kept hki).cell 0 rfl
  have q3_1:=(hB2.kept hki).cell 1 rfl
  rcases i with _|_|_|_|i
  ·cases so ho
   refine aa.value (.agg #[.bool s1,.slice a1 n1 c1]) ?_ (a7 rfl)
   go_simp
  ·cases so ho
   have d0:=hdep ⟨0,.data⟩ (by simp) rfl
   simp only[ae,List.getElem?_cons_zero] at d0
   refine aa.call 152 #[.agg #[.bool s1,.slice a1 n1 c1]] (by go_simp) ((N1.out _ wi (hx.kept hki)).mono ?_)
   rintro e w7 ⟨v,rfl,hv,hk7⟩
   exact⟨v,rfl,hv,hk7,trivial⟩
  ·cases so ho
   refine aa.value (.agg #[.bool s2,.slice a2 n2 c2]) ?_ (a7 rfl)
   go_simp
  ·cases so ho
   have d2:=hdep ⟨2,.data⟩ (by simp) rfl
   simp only[ae,List.getElem?_cons_zero,List.getElem?_cons_succ] at d2
   refine aa.call 152 #[.agg #[.bool s2,.slice a2 n2 c2]] (by go_simp) ((N2.out _ wi (hy.kept hki)).mono ?_)
   rintro e w7 ⟨v,rfl,hv,hk7⟩
   exact⟨v,rfl,hv,hk7,trivial⟩
  ·omega
 ·intro f wi hki hall hap
  have hk:=Kept.comp _ _ _ hk hki
  have hB1:=hB1.kept hki
  have hB2:=hB2.kept hki
  have hx:=hx.kept hki
  have hy:=hy.kept hki
  have hB:=hB.kept hki
  have hm:=hall 1 (by decide)
  simp only[ae,List.getElem?_cons_zero,List.getElem?_cons_succ] at hm
  obtain⟨s5,a5,n5,c5,e5⟩:=aM hm
  rw[e5] at hm
  have hd:=hall 3 (by decide)
  simp only[ae,List.getElem?_cons_zero,List.getElem?_cons_succ] at hd
  obtain⟨s6,a6,n6,c6,e6⟩:=aM hd
  rw[e6] at hd
  clear hall hap
  simp only[List.drop_succ_cons,List.drop_zero]
  rw[e5,e6]
  have q2_0:=hB1.cell 0 rfl
  have q2_1:=hB1.cell 1 rfl
  have q3_0:=hB2.cell 0 rfl
  have q3_1:=hB2.cell 1 rfl
  have v20:=hB1.free 0
  have v21:=hB1.free 1
  have v30:=hB2.free 0
  have v31:=hB2.free 1
  obtain⟨Bn2,st,sx,sb,sk,sz⟩:=vN hB1 s5 a5 n5 c5
  have hB2:=sb _ _ _ (by omega) hB2
  have hB1:=Bn2
  have hB:=sb _ _ _ (by omega) hB
  have hd:=st _ _ hd
  have hm:=st _ _ hm
  have hx:=st _ _ hx
  have hy:=st _ _ hy
  have hk:=sk w (by omega) hk
  obtain⟨Bn3,st,sx,sb,sk,sz⟩:=vN hB2 s6 a6 n6 c6
  have hB1:=sb _ _ _ (by omega) hB1
  have hB2:=Bn3
  have hB:=sb _ _ _ (by omega) hB
  have hd:=st _ _ hd
  have hm:=st _ _ hm
  have hx:=st _ _ hx
  have hy:=st _ _ hy
  have hk:=sk w (by omega) hk
  have q2_0:=hB1.cell 0 rfl
  have q2_1:=hB1.cell 1 rfl
  have q3_0:=hB2.cell 0 rfl
  have q3_1:=hB2.cell 1 rfl
  go_wp2_with fail
  generalize (((wi.setCell ⟨w.heap.size,0,none⟩ (.bool s5)).setCell ⟨w.heap.size,1,none⟩ (.slice a5 n5 c5)).setCell ⟨w.heap.size+1,0,none⟩ (.bool s6)).setCell ⟨w.heap.size+1,1,none⟩ (.slice a6 n6 c6)=w4 at *
  refine (MD.out _ _ _ hm hd).mono ?_
  rintro e wd ⟨vc,rfl,hg,hkc⟩
  have hk:=Kept.comp _ _ _ hk hkc
  have hB1:=hB1.kept hkc
  have hB2:=hB2.kept hkc
  have hB:=hB.kept hkc
  have hd:=hd.kept hkc
  have hm:=hm.kept hkc
  have hx:=hx.kept hkc
  have hy:=hy.kept hkc
  obtain⟨s8,a8,n8,c8,rfl⟩:=aM hg
  clear hkc MD
  have kn:=ai wd (.cells ([.bool s8,.slice a8 n8 c8]).toArray 87)
  have B5:=ax wd 87 [.bool s8,.slice a8 n8 c8]
  have q2_0:=hB1.cell 0 rfl
  have q2_1:=hB1.cell 1 rfl
  have q3_0:=hB2.cell 0 rfl
  have q3_1:=hB2.cell 1 rfl
  go_wp2_with fail
  have hk:=Kept.comp _ _ _ hk kn
  have hB1:=hB1.kept kn
  have hB2:=hB2.kept kn
  have hB:=hB.kept kn
  have hd:=hd.kept kn
  have hg:=hg.kept kn
  have hm:=hm.kept kn
  have hx:=hx.kept kn
  have hy:=hy.kept kn
  generalize hwd:wd.heap.size=zd at *
  clear hwd
  generalize wd.alloc (.cells [.bool s8,.slice a8 n8 c8].toArray _)=w5 at *
  clear kn
  have hz0:=Nat.le_refl w5.heap.size
  have lt2:=hB1.lt
  have lt3:=hB2.lt
  have lt5:=B5.lt
  refine an 7 [.is (.agg #[.bool s5,.slice a5 n5 c5]),.is (.agg #[.bool s8,.slice a8 n8 c8]),.int p1,.is (.agg #[.bool s6,.slice a6 n6 c6]),.is (.agg #[.bool s8,.slice a8 n8 c8]),.int p2,.num z] [0,1,2,3,4,5,6] (by kernel_rfl) (by kernel_rfl) (by kernel_rfl) (by kernel_rfl) (by kernel_rfl) (by kernel_rfl) (by intro f;simp only[laid,List.foldl_cons,List.foldl_nil,List.getElem?_toArray,List.getElem?_cons_zero,List.getElem?_cons_succ,Option.bind_some,Act.put,List.setIfInBounds_toArray,List.set_cons_zero,List.set_cons_succ];rfl) ?_ ?_
  ·intro i o him ho f wi hki hdep
   have q2_0:=(hB1.kept hki).cell 0 rfl
   have q2_1:=(hB1.kept hki).cell 1 rfl
   have q3_0:=(hB2.kept hki).cell 0 rfl
   have q3_1:=(hB2.kept hki).cell 1 rfl
   have q5_0:=(B5.kept hki).cell 0 rfl
   have q5_1:=(B5.kept hki).cell 1 rfl
   rcases i with _|_|_|_|_|_|_|i
   ·cases so ho
    refine aa.value (.agg #[.bool s5,.slice a5 n5 c5]) ?_ (a7 rfl)
    go_simp
   ·cases so ho
    refine aa.value (.agg #[.bool s8,.slice a8 n8 c8]) ?_ (a7 rfl)
    go_simp
   ·cases so ho
    have d0:=hdep ⟨0,.data⟩ (by simp) rfl
    have d1:=hdep ⟨1,.data⟩ (by simp) rfl
    simp only[ae,List.getElem?_cons_zero,List.getElem?_cons_succ] at d0 d1
    refine aa.call 159 #[.agg #[.bool s5,.slice a5 n5 c5],.agg #[.bool s8,.slice a8 n8 c8]] (by go_simp) ((S1.out _ _ wi (hm.kept hki) (hg.kept hki)).mono ?_)
    rintro e w7 ⟨v,rfl,hv,hk7⟩
    exact⟨v,rfl,hv,hk7,trivial⟩
   ·cases so ho
    refine aa.value (.agg #[.bool s6,.slice a6 n6 c6]) ?_ (a7 rfl)
    go_simp
   ·cases so ho
    refine aa.value (.agg #[.bool s8,.slice a8 n8 c8]) ?_ (a7 rfl)
    go_simp
   ·cases so ho
    have d3:=hdep ⟨3,.data⟩ (by simp) rfl
    have d4:=hdep ⟨4,.data⟩ (by simp) rfl
    simp only[ae,List.getElem?_cons_zero,List.getElem?_cons_succ] at d3 d4
    refine aa.call 159 #[.agg #[.bool s6,.slice a6 n6 c6],.agg #[.bool s8,.slice a8 n8 c8]] (by go_simp) ((S2.out _ _ wi (hd.kept hki) (hg.kept hki)).mono ?_)
    rintro e w7 ⟨v,rfl,hv,hk7⟩
    exact⟨v,rfl,hv,hk7,trivial⟩
   ·cases so ho
    have d2:=hdep ⟨2,.data⟩ (by simp) rfl
    have d5:=hdep ⟨5,.data⟩ (by simp) rfl
    simp only[ae,List.getElem?_cons_zero,List.getElem?_cons_succ] at d2 d5
    obtain⟨sx0,ax0,nx0,cx0,ex0⟩:=aM d2
    rw[ex0] at d2
    obtain⟨sx1,ax1,nx1,cx1,ex1⟩:=aM d5
    rw[ex1] at d5
    refine aa.value (.agg #[.bool sx0,.slice ax0 nx0 cx0,.bool sx1,.slice ax1 nx1 cx1]) ?_ ⟨HX.out wi _ _ _ _ _ _ _ _ d2 d5,Kept.rfl' _,trivial⟩
    simp only[ex0,ex1]
    go_simp
   ·omega
  ·intro f wi hki hall hap
   have hk:=Kept.comp _ _ _ hk hki
   have hB1:=hB1.kept hki
   have hB2:=hB2.kept hki
   have B5:=B5.kept hki
   have hd:=hd.kept hki
   have hg:=hg.kept hki
   have hm:=hm.kept hki
   have hx:=hx.kept hki
   have hy:=hy.kept hki
   have hB:=hB.kept hki
   have hv:=hall 6 (by decide)
   simp only[ae,List.getElem?_cons_zero,List.getElem?_cons_succ] at hv
   obtain⟨s9,a9,n9,c9,s10,a10,n10,c10,e9⟩:=fH hv
   rw[e9] at hv
   clear hall hap
   simp only[List.drop_succ_cons,List.drop_zero]
   rw[e9]
   have r0:=hB.cell 0 rfl
   have r1:=hB.cell 1 rfl
   have r2:=hB.cell 2 rfl
   have r3:=hB.cell 3 rfl
   have f0:=hB.free 0
   have f1:=hB.free 1
   have f2:=hB.free 2
   have f3:=hB.free 3
   clear S1 S2 HX hx hy hB1 hB2 B5 hg hm hd N1 N2
   go_wp2
   obtain⟨rB,rv,rk⟩:=B4 (w:=w) hB (by omega) hk hv
   have p0:=rB.cell 0 rfl
   have p1:=rB.cell 1 rfl
   have p2:=rB.cell 2 rfl
   have p3:=rB.cell 3 rfl
   exact bodyPost_ret (v:=.agg #[.bool s9,.slice a9 n9 c9,.bool s10,.slice a10 n10 c10]) (by simp[results,Tryz.results101,go_sem,p0,p1,p2,p3]) rfl ⟨_,rfl,rv,rk⟩
theorem xZ (v1 v2:Value) (x y:Int) (k:Nat) (w:World) (hx:Whole w v1 x) (hy:Whole w v2 y) (bx:x.natAbs<10^k) (bl:y.natAbs<10^k) (hkk:k≤1000000) (hc:0<y) :
  Calls Tryz.prog 101 #[v1,v2] w fun e w'=>∃ v,e=.returned v∧Ex w' v (Rat.divInt x y)∧Kept w w':=by
 have MS:=Lib.hid fun v w' (h:Whole w' v y)=>cW v y w' h (Nat.le_trans (cm bl) (by omega))
 rw[show y.sign=1 from Int.sign_eq_one_of_pos hc] at MS
 obtain⟨i1,i2⟩:=DigNum.rW (m:=x) hc
 have G1:((Nat.gcd x.natAbs y.natAbs:Nat):Int).natAbs<10^k:=DigNum.mI (DigNum.yQ bl (by omega) _)
 have MD:=Lib.hid fun va vb w' h1 h2=>fB va vb x y w' h1 h2 (Nat.le_trans (cm bx) (by omega)) (Nat.le_trans (cm bl) (by omega))
 generalize ((Nat.gcd x.natAbs y.natAbs:Nat):Int)=g at *
 have S1:=Lib.hid fun va vb w' h1 h2=>ec va vb x g w' h1 h2 (Nat.le_trans (cm bx) (by omega)) (Nat.le_trans (cm G1) (by omega))
 have S2:=Lib.hid fun va vb w' h1 h2=>ec va vb y g w' h1 h2 (Nat.le_trans (cm bl) (by omega)) (Nat.le_trans (cm G1) (by omega))
 have HX:=Lib.hid fun w' s a n c s' a' n' c' (q1:Whole w' (.agg #[.bool s,.slice a n c]) (x.tdiv g)) (q2:Whole w' (.agg #[.bool s',.slice a' n' c']) (y.tdiv g))=>(qv (x:=Rat.divInt x y) (by rw[i1];exact q1) (by rw[i2];exact q2))
 generalize Rat.divInt x y=z at *
 generalize x.tdiv g=p1 at *
 generalize y.tdiv g=p2 at *
 clear i1 i2 G1 bx bl hkk hc
 obtain⟨s1,a1,n1,c1,rfl⟩:=aM hx
 obtain⟨s2,a2,n2,c2,rfl⟩:=aM hy
 obtain⟨hk,hB1,hB2,hB⟩:=ct w [.bool s1,.slice a1 n1 c1] [.bool s2,.slice a2 n2 c2] 87 87 89 fO
 go_enter Tryz.func101,Tryz.ntmps101
 have q2_0:=hB1.cell 0 rfl
 have q2_1:=hB1.cell 1 rfl
 have q3_0:=hB2.cell 0 rfl
 have q3_1:=hB2.cell 1 rfl
 go_wp2_with fail
 have hx:=hx.kept hk
 have hy:=hy.kept hk
 generalize ((w.alloc (.cells [.bool s1,.slice a1 n1 c1].toArray _)).alloc (.cells [.bool s2,.slice a2 n2 c2].toArray _)).alloc (.cells fO.toArray _)=w2 at *
 refine (MS.out _ _ hy).mono ?_
 rintro e wc ⟨rfl,hkc⟩
 have hk:=Kept.comp _ _ _ hk hkc
 have hB1:=hB1.kept hkc
 have hB2:=hB2.kept hkc
 have hB:=hB.kept hkc
 have hx:=hx.kept hkc
 have hy:=hy.kept hkc
 clear hkc
 have q2_0:=hB1.cell 0 rfl
 have q2_1:=hB1.cell 1 rfl
 have q3_0:=hB2.cell 0 rfl
 have q3_1:=hB2.cell 1 rfl
 go_wp2_with fail
 have hkw:=hk
 refine (MS.out _ _ hy).mono ?_
 rintro e wc ⟨rfl,hkc⟩
 have hk:=Kept.comp _ _ _ hk hkc
 have hB1:=hB1.kept hkc
 have hB2:=hB2.kept hkc
 have hB:=hB.kept hkc
 have hx:=hx.kept hkc
 have hy:=hy.kept hkc
 clear hkc MS hkw
 have q2_0:=hB1.cell 0 rfl
 have q2_1:=hB1.cell 1 rfl
 have q3_0:=hB2.cell 0 rfl
 have q3_1:=hB2.cell 1 rfl
 go_wp2_with fail
 have hz0:=Nat.le_refl wc.heap.size
 have lt2:=hB1.lt
 have lt3:=hB2.lt
 have ltB:=hB.lt
 refine (MD.out _ _ _ hx hy).mono ?_
 rintro e wd ⟨vc,rfl,hg,hkc⟩
 have hk:=Kept.comp _ _ _ hk hkc
 have hB1:=hB1.kept hkc
 have hB2:=hB2.kept hkc
 have hB:=hB.kept hkc
 have hx:=hx.kept hkc
 have hy:=hy.kept hkc
 obtain⟨s8,a8,n8,c8,rfl⟩:=aM hg
 clear hkc MD
 have kn:=ai wd (.cells ([.bool s8,.slice a8 n8 c8]).toArray 87)
 have B5:=ax wd 87 [.bool s8,.slice a8 n8 c8]
 have q2_0:=hB1.cell 0 rfl
 have q2_1:=hB1.cell 1 rfl
 have q3_0:=hB2.cell 0 rfl
 have q3_1:=hB2.cell 1 rfl
 go_wp2_with fail
 have hk:=Kept.comp _ _ _ hk kn
 have hB1:=hB1.kept kn
 have hB2:=hB2.kept kn
 have hB:=hB.kept kn
 have hg:=hg.kept kn
 have hx:=hx.kept kn
 have hy:=hy.kept kn
 generalize hwd:wd.heap.size=zd at *
 clear hwd
 generalize wd.alloc (.cells [.bool s8,.slice a8 n8 c8].toArray _)=w5 at *
 clear kn
 have hz0:=Nat.le_refl w5.heap.size
 have lt2:=hB1.lt
 have lt3:=hB2.lt
 have lt5:=B5.lt
 refine an 7 [.is (.agg #[.bool s1,.slice a1 n1 c1]),.is (.agg #[.bool s8,.slice a8 n8 c8]),.int p1,.is (.agg #[.bool s2,.slice a2 n2 c2]),.is (.agg #[.bool s8,.slice a8 n8 c8]),.int p2,.num z] [0,1,2,3,4,5,6] (by kernel_rfl) (by kernel_rfl) (by kernel_rfl) (by kernel_rfl) (by kernel_rfl) (by kernel_rfl) (by intro f;simp only[laid,List.foldl_cons,List.foldl_nil,List.getElem?_toArray,List.getElem?_cons_zero,List.getElem?_cons_succ,Option.bind_some,Act.put,List.setIfInBounds_toArray,List.set_cons_zero,List.set_cons_succ];rfl) ?_ ?_
 ·intro i o him ho f wi hki hdep
  have q2_0:=(hB1.kept hki).cell 0 rfl
  have q2_1:=(hB1.kept hki).cell 1 rfl
  have q3_0:=(hB2.kept hki).cell 0 rfl
  have q3_1:=(hB2.kept hki).cell 1 rfl
  have q5_0:=(B5.kept hki).cell 0 rfl
  have q5_1:=(B5.kept hki).cell 1 rfl
  rcases i with _|_|_|_|_|_|_|i
  ·cases so ho
   refine aa.value (.agg #[.bool s1,.slice a1 n1 c1]) ?_ (a7 rfl)
   go_simp
  ·cases so ho
   refine aa.value (.agg #[.bool s8,.slice a8 n8 c8]) ?_ (a7 rfl)
   go_simp
  ·cases so ho
   have d0:=hdep ⟨0,.data⟩ (by simp) rfl
   have d1:=hdep ⟨1,.data⟩ (by simp) rfl
   simp only[ae,List.getElem?_cons_zero,List.getElem?_cons_succ] at d0 d1
   refine aa.call 159 #[.agg #[.bool s1,.slice a1 n1 c1],.agg #[.bool s8,.slice a8 n8 c8]] (by go_simp) ((S1.out _ _ wi (hx.kept hki) (hg.kept hki)).mono ?_)
   rintro e w7 ⟨v,rfl,hv,hk7⟩
   exact⟨v,rfl,hv,hk7,trivial⟩
  ·cases so ho
   refine aa.value (.agg #[.bool s2,.slice a2 n2 c2]) ?_ (a7 rfl)
   go_simp
  ·cases so ho
   refine aa.value (.agg #[.bool s8,.slice a8 n8 c8]) ?_ (a7 rfl)
   go_simp
  ·cases so ho
   have d3:=hdep ⟨3,.data⟩ (by simp) rfl
   have d4:=hdep ⟨4,.data⟩ (by simp) rfl
   simp only[ae,List.getElem?_cons_zero,List.getElem?_cons_succ] at d3 d4
   refine aa.call 159 #[.agg #[.bool s2,.slice a2 n2 c2],.agg #[.bool s8,.slice a8 n8 c8]] (by go_simp) ((S2.out _ _ wi (hy.kept hki) (hg.kept hki)).mono ?_)
   rintro e w7 ⟨v,rfl,hv,hk7⟩
   exact⟨v,rfl,hv,hk7,trivial⟩
  ·cases so ho
   have d2:=hdep ⟨2,.data⟩ (by simp) rfl
   have d5:=hdep ⟨5,.data⟩ (by simp) rfl
   simp only[ae,List.getElem?_cons_zero,List.getElem?_cons_succ] at d2 d5
   obtain⟨sx0,ax0,nx0,cx0,ex0⟩:=aM d2
   rw[ex0] at d2
   obtain⟨sx1,ax1,nx1,cx1,ex1⟩:=aM d5
   rw[ex1] at d5
   refine aa.value (.agg #[.bool sx0,.slice ax0 nx0 cx0,.bool sx1,.slice ax1 nx1 cx1]) ?_ ⟨HX.out wi _ _ _ _ _ _ _ _ d2 d5,Kept.rfl' _,trivial⟩
   simp only[ex0,ex1]
   go_simp
  ·omega
 ·intro f wi hki hall hap
  have hk:=Kept.comp _ _ _ hk hki
  have hB1:=hB1.kept hki
  have hB2:=hB2.kept hki
  have B5:=B5.kept hki
  have hg:=hg.kept hki
  have hx:=hx.kept hki
  have hy:=hy.kept hki
  have hB:=hB.kept hki
  have hv:=hall 6 (by decide)
  simp only[ae,List.getElem?_cons_zero,List.getElem?_cons_succ] at hv
  obtain⟨s9,a9,n9,c9,s10,a10,n10,c10,e9⟩:=fH hv
  rw[e9] at hv
  clear hall hap
  simp only[List.drop_succ_cons,List.drop_zero]
  rw[e9]
  have r0:=hB.cell 0 rfl
  have r1:=hB.cell 1 rfl
  have r2:=hB.cell 2 rfl
  have r3:=hB.cell 3 rfl
  have f0:=hB.free 0
  have f1:=hB.free 1
  have f2:=hB.free 2
  have f3:=hB.free 3
  clear S1 S2 HX hx hy hB1 hB2 B5 hg
  go_wp2
  obtain⟨rB,rv,rk⟩:=B4 (w:=w) hB (by omega) hk hv
  have p0:=rB.cell 0 rfl
  have p1:=rB.cell 1 rfl
  have p2:=rB.cell 2 rfl
  have p3:=rB.cell 3 rfl
  exact bodyPost_ret (v:=.agg #[.bool s9,.slice a9 n9 c9,.bool s10,.slice a10 n10 c10]) (by simp[results,Tryz.results101,go_sem,p0,p1,p2,p3]) rfl ⟨_,rfl,rv,rk⟩
theorem xX (v1 v2:Value) (x y:Int) (k:Nat) (w:World) (hx:Whole w v1 x) (hy:Whole w v2 y) (bx:x.natAbs<10^k) (bl:y.natAbs<10^k) (hkk:k≤1000000) (hc:y≠0) :
  Calls Tryz.prog 101 #[v1,v2] w fun e w'=>∃ v,e=.returned v∧Ex w' v (Rat.divInt x y)∧Kept w w':=by
 rcases Int.lt_trichotomy y 0 with h|h|h
 ·exact xY v1 v2 x y k w hx hy bx bl hkk h
 ·exact absurd h hc
 ·exact xZ v1 v2 x y k w hx hy bx bl hkk h
theorem A8 (x y:Int) (w:World) (h1:x.natAbs<10^19) (h2:y.natAbs<10^19) (hx : -9223372036854775808≤x∧x≤9223372036854775807) (hy : -9223372036854775808≤y∧y≤9223372036854775807) (h0:y≠0) :
  Calls Tryz.prog 55 #[.int .i64 x,.int .i64 y] w fun e w'=>∃ v,e=.returned v∧Ex w' v (Rat.divInt x y)∧Kept w w':=by
 have O1:=Lib.hid fun w'=>ig x w' hx.1 hx.2
 have O2:=Lib.hid fun w'=>ig y w' hy.1 hy.2
 have MN:=Lib.hid fun va vb w' g1 g2=>xX va vb x y 19 w' g1 g2 h1 h2 (by decide) h0
 generalize Rat.divInt x y=z at *
 have hk:=ai w (.cells fO.toArray 89)
 have hB:=ax w 89 fO
 clear h1 h2 hx hy h0
 go_enter Tryz.func55,Tryz.ntmps55
 go_wp2_with fail
 generalize w.alloc (.cells fO.toArray _)=w2 at *
 refine (O1.out _).mono ?_
 rintro e w3 ⟨v1,rfl,hv1,hk3⟩
 have hk:=Kept.comp _ _ _ hk hk3
 have hB:=hB.kept hk3
 clear hk3
 go_wp2_with fail
 refine (O2.out _).mono ?_
 rintro e w4 ⟨v2,rfl,hv2,hk3⟩
 have hk:=Kept.comp _ _ _ hk hk3
 have hB:=hB.kept hk3
 have hv1:=hv1.kept hk3
 clear hk3 O1 O2
 go_wp2_with fail
 refine (MN.out _ _ _ hv1 hv2).mono ?_
 rintro e w5 ⟨v,rfl,hv,hk3⟩
 have hk:=Kept.comp _ _ _ hk hk3
 have hB:=hB.kept hk3
 obtain⟨s1,a1,n1,c1,s2,a2,n2,c2,rfl⟩:=fH hv
 have r0:=hB.cell 0 rfl
 have r1:=hB.cell 1 rfl
 have r2:=hB.cell 2 rfl
 have r3:=hB.cell 3 rfl
 have f0:=hB.free 0
 have f1:=hB.free 1
 have f2:=hB.free 2
 have f3:=hB.free 3
 clear hk3 MN hv1 hv2
 go_wp2
 obtain⟨rB,rv,rk⟩:=B4 (w:=w) hB (by omega) hk hv
 have p0:=rB.cell 0 rfl
 have p1:=rB.cell 1 rfl
 have p2:=rB.cell 2 rfl
 have p3:=rB.cell 3 rfl
 exact bodyPost_ret (v:=.agg #[.bool s1,.slice a1 n1 c1,.bool s2,.slice a2 n2 c2]) (by simp[results,Tryz.results55,go_sem,p0,p1,p2,p3]) rfl ⟨_,rfl,rv,rk⟩
end Go.Proofs.YtnjcdpfibmckmaaGreatDoor.E
