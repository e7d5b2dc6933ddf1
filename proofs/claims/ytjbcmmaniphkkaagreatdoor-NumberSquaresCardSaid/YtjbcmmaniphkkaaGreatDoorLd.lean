import Derived.Test.YtjbcmmaniphkkaaGreatDoorLb
set_option linter.unusedSectionVars false
set_option linter.unusedVariables false
set_option linter.unusedSimpArgs false
set_option maxRecDepth 100000
set_option maxHeartbeats 1000000
namespace Go.Proofs.YtjbcmmaniphkkaaGreatDoor
open Go.RowKit LimbNum
theorem uI (x y:Int) (hy:y≠0):((x.tmod y).sign*y.sign<0→x.fdiv y=x.tdiv y-1)∧(¬(x.tmod y).sign*y.sign<0→x.fdiv y=x.tdiv y):=by
 rw[Int.fdiv_eq_tdiv]
 by_cases hd:y ∣ x
 ·rw[Int.dvd_iff_tmod_eq_zero.1 hd,if_pos hd]
  simp
 ·have hne:x.tmod y≠0:=fun h=>hd (Int.dvd_iff_tmod_eq_zero.2 h)
  rw[if_neg hd]
  by_cases hx:0≤x
  ·have h1:0<x.tmod y:=by have:=Int.tmod_nonneg y hx;omega
   rw[Int.sign_eq_one_of_pos h1,if_pos hx]
   rcases Int.lt_or_gt_of_ne hy with h|h
   ·rw[Int.sign_eq_neg_one_of_neg h,if_neg (by omega)];simp
   ·rw[Int.sign_eq_one_of_pos h,if_pos (by omega)];simp
  ·have h1:x.tmod y<0:=by
    have:=Int.tmod_nonneg y (show 0≤-x by omega)
    rw[Int.neg_tmod] at this;omega
   rw[Int.sign_eq_neg_one_of_neg h1,if_neg hx]
   rcases Int.lt_or_gt_of_ne hy with h|h
   ·rw[Int.sign_eq_neg_one_of_neg h,if_neg (by omega)];simp
   ·rw[Int.sign_eq_one_of_pos h,if_pos (by omega)];simp
theorem rH (va vb:Value) (x y:Int) (w:World) (ha:Whole w va x) (hb:Whole w vb y) (hx:size x.natAbs≤536870912) (hy:size y.natAbs≤536870912) :
  Calls Tryz.prog 82 #[va,vb] w fun e w'=>∃ v,e=.returned v∧Whole w' v (x.fdiv y)∧Kept w w':=by
 have mq:=K7 fun w' (hk:Kept w w')=>ky va vb x y w' (ha.kept hk) (hb.kept hk) hx (by omega)
 have mb:=K7 fun w' (hk:Kept w w')=>bZ vb y w' (hb.kept hk) (by omega)
 have mr:=K7 fun w' v (hv:Whole w' v (x.tmod y))=>bZ v (x.tmod y) w' hv (by rw[Int.natAbs_tmod];exact Nat.le_trans (aK (Nat.mod_le _ _)) (by omega))
 have zq:size (x.tdiv y).natAbs≤1073741824:=by rw[Int.natAbs_tdiv];exact Nat.le_trans (aK (Nat.div_le_self _ _)) (by omega)
 have ms:=K7 fun w' u v (hu:Whole w' u (x.tdiv y)) (hv:Whole w' v 1)=>yk u v (x.tdiv y) 1 w' hu hv zq (by decide)
 clear zq
 obtain⟨l1,rfl,_⟩:=ha
 obtain⟨l2,rfl,_⟩:=hb
 clear hx hy
 generalize decide (x<0)=s1 at *
 generalize decide (y<0)=s2 at *
 by_cases h0:y=0
 ·have e0:x.fdiv y=x.tdiv y:=by rw[h0,Int.fdiv_zero,Int.tdiv_zero]
  have e1:y.sign=0:=by rw[h0];rfl
  rw[e0]
  rw[e1] at mb
  clear e0 e1 mr ms h0
  go_enter Tryz.func82,Tryz.ntmps82
  go_wp2_with fail
  obtain⟨hk,hB1,hB2,hB3⟩:=cO w [.bool s1,l1] [.bool s2,l2] 95 95 95 [.bool false,.slice none 0 0]
  generalize ((w.alloc (.cells [.bool s1,l1].toArray _)).alloc (.cells [.bool s2,l2].toArray _)).alloc (.cells [.bool false,.slice none 0 0].toArray _)=w2 at *
  refine (mq.out _ hk).mono ?_
  rintro e w3 ⟨v1,v2,rfl,hv1,hv2,hk3⟩
  obtain⟨_,rfl,a3,k3,rfl,_⟩:=id hv1
  obtain⟨_,rfl,a4,k4,rfl,_⟩:=id hv2
  generalize size (x.tdiv y).natAbs=m1 at *
  generalize size (x.tmod y).natAbs=m2 at *
  generalize decide (x.tdiv y<0)=t1 at *
  generalize decide (x.tmod y<0)=t2 at *
  replace hk:=Kept.comp _ _ _ hk hk3
  replace hB2:=hB2.kept hk3
  replace hB3:=hB3.kept hk3
  clear mq hB1 hk3
  obtain⟨kk,b1,b2⟩:=bp w3 [.bool t1,.slice a3 m1 k3] [.bool t2,.slice a4 m2 k4] 95 95
  have hlt:=hB3.lt
  go_wp2_with fail
  replace hB2:=hB2.kept kk
  replace hB3:=hB3.kept kk
  replace hv1:=hv1.kept kk
  replace hv2:=hv2.kept kk
  replace hk:=Kept.comp _ _ _ hk kk
  generalize (w3.alloc (.cells [.bool t1,.slice a3 m1 k3].toArray _)).alloc (.cells [.bool t2,.slice a4 m2 k4].toArray _)=w4 at *
  refine cJ 11 [.is (.agg #[.bool s2,l2]),.is (.int .i64 0),.is (.bool false),.is (.bool false),.is undef,.is undef,.is undef,.is undef,.is undef,.is undef,.is (.bool false)] [0,1,2,3,4,5,6,7,8,9,10] (by kernel_rfl) (by kernel_rfl) (by kernel_rfl) (by kernel_rfl) (by kernel_rfl) (by kernel_rfl) (by intro f;simp only[laid,List.foldl_cons,List.foldl_nil,List.getElem?_toArray,K9,K8,Option.bind_some,Act.put,List.setIfInBounds_toArray,List.set_cons_zero,List.set_cons_succ];rfl) ?_ ?_
  ·intro i o him ho f wi hki hdep
   have c1:=(hB2.kept hki).cell 0 rfl
   have c2:=(hB2.kept hki).cell 1 rfl
   have c3:=(b2.kept hki).cell 0 rfl
   have c4:=(b2.kept hki).cell 1 rfl
   rcases i with _|_|_|_|_|_|_|_|_|_|_|i
   ·cases so ho
    refine Or.inl ⟨rfl,?_⟩
    refine ae.value (.agg #[.bool s2,l2]) ?_ (aa rfl)
    go_simp
   ·cases so ho
    have d0:=hdep ⟨0,.data⟩ (by simp) rfl
    simp only[af,K9] at d0
    refine Or.inl ⟨rfl,?_⟩
    refine ae.call 149 #[.agg #[.bool s2,l2]] (by go_simp) ((mb.out wi (Kept.comp _ _ _ hk hki)).mono ?_)
    rintro e w3 ⟨rfl,hk3⟩
    exact⟨_,rfl,rfl,hk3⟩
   ·cases so ho
    have d1:=hdep ⟨1,.data⟩ (by simp) rfl
    simp only[af,K9,K8] at d1
    refine Or.inl ⟨rfl,?_⟩
    refine ae.value (.bool false) ?_ (aa rfl)
    go_simp
   ·cases so ho
    have d2:=hdep ⟨2,.data⟩ (by simp) rfl
    simp only[af,K9,K8] at d2
    refine Or.inl ⟨rfl,?_⟩
    refine ae.value (.bool false) ?_ (aa rfl)
    go_simp
   ·cases so ho
    have dg:=hdep ⟨3,.guard⟩ (by simp) rfl
    simp only[af,K9,K8] at dg
    exact Or.inr ⟨by simp[Region.wanted,yielded,dg],rfl,Kept.rfl' _⟩
   ·cases so ho
    have dg:=hdep ⟨3,.guard⟩ (by simp) rfl
    simp only[af,K9,K8] at dg
    exact Or.inr ⟨by simp[Region.wanted,yielded,dg],rfl,Kept.rfl' _⟩
   ·cases so ho
    have dg:=hdep ⟨3,.guard⟩ (by simp) rfl
    simp only[af,K9,K8] at dg
    exact Or.inr ⟨by simp[Region.wanted,yielded,dg],rfl,Kept.rfl' _⟩
   ·cases so ho
    have dg:=hdep ⟨3,.guard⟩ (by simp) rfl
    simp only[af,K9,K8] at dg
    exact Or.inr ⟨by simp[Region.wanted,yielded,dg],rfl,Kept.rfl' _⟩
   ·cases so ho
    have dg:=hdep ⟨3,.guard⟩ (by simp) rfl
    simp only[af,K9,K8] at dg
    exact Or.inr ⟨by simp[Region.wanted,yielded,dg],rfl,Kept.rfl' _⟩
   ·cases so ho
    have dg:=hdep ⟨3,.guard⟩ (by simp) rfl
    simp only[af,K9,K8] at dg
    exact Or.inr ⟨by simp[Region.wanted,yielded,dg],rfl,Kept.rfl' _⟩
   ·cases so ho
    have d3:=hdep ⟨3,.data⟩ (by simp) rfl
    have d9:=hdep ⟨9,.data⟩ (by simp) rfl
    simp only[af,K9,K8] at d3 d9
    refine Or.inl ⟨rfl,?_⟩
    refine ae.value (.bool false) ?_ (aa rfl)
    go_simp
   ·omega
  ·intro f wi hki hall
   have h10:=hall 10 (by decide)
   simp only[af,K9,K8] at h10
   clear hall
   rw[h10]
   clear h10
   simp only[List.drop_succ_cons,List.drop_nil]
   replace hB3:=hB3.kept hki
   replace b1:=b1.kept hki
   replace hv1:=hv1.kept hki
   replace hk:=Kept.comp _ _ _ hk hki
   have c1:=b1.cell 0 rfl
   have c2:=b1.cell 1 rfl
   clear hki hB2 b2 hv2
   have r0:=hB3.cell 0 rfl
   have r1:=hB3.cell 1 rfl
   have f0:=hB3.free 0
   have f1:=hB3.free 1
   go_wp2
   obtain⟨p0,p1,p2,p3⟩:=aP hB3 (by omega) hk hv1
   exact bodyPost_ret (v:=.agg #[.bool t1,.slice a3 m1 k3]) (by simp[results,Tryz.results82,go_sem,p0,p1]) rfl ⟨_,rfl,p2,p3⟩
 ·obtain⟨g1,g2⟩:=uI x y h0
  have G1:=K7 g1
  have G2:=K7 g2
  have hy1:y.sign=1∨y.sign = -1:=by
   rcases Int.lt_or_gt_of_ne h0 with h|h
   ·exact .inr (Int.sign_eq_neg_one_of_neg h)
   ·exact .inl (Int.sign_eq_one_of_pos h)
  have hr1:(x.tmod y).sign=1∨(x.tmod y).sign = -1∨(x.tmod y).sign=0:=by
   rcases Int.lt_trichotomy (x.tmod y) 0 with h|h|h
   ·exact .inr (.inl (Int.sign_eq_neg_one_of_neg h))
   ·rw[h];exact .inr (.inr rfl)
   ·exact .inl (Int.sign_eq_one_of_pos h)
  have hnz:(y.sign != 0)=true:=by rcases hy1 with h|h<;>rw[h]<;>rfl
  clear g1 g2 h0
  generalize x.fdiv y=F at *
  generalize (x.tmod y).sign=sr at *
  generalize y.sign=sy at *
  obtain⟨p,hp⟩:∃ p,p=sr*sy:=⟨_,rfl⟩
  rw[←hp] at G1 G2
  have hwr:IntKind.i64.wrap (sr*sy)=p:=by
   rw[hp]
   rcases hy1 with rfl|rfl<;>rcases hr1 with rfl|rfl|rfl<;>rfl
  clear hp hy1 hr1
  go_enter Tryz.func82,Tryz.ntmps82
  go_wp2_with fail
  obtain⟨hk,hB1,hB2,hB3⟩:=cO w [.bool s1,l1] [.bool s2,l2] 95 95 95 [.bool false,.slice none 0 0]
  generalize ((w.alloc (.cells [.bool s1,l1].toArray _)).alloc (.cells [.bool s2,l2].toArray _)).alloc (.cells [.bool false,.slice none 0 0].toArray _)=w2 at *
  refine (mq.out _ hk).mono ?_
  rintro e w3 ⟨v1,v2,rfl,hv1,hv2,hk3⟩
  obtain⟨_,rfl,a3,k3,rfl,_⟩:=id hv1
  obtain⟨_,rfl,a4,k4,rfl,_⟩:=id hv2
  generalize size (x.tdiv y).natAbs=m1 at *
  generalize size (x.tmod y).natAbs=m2 at *
  generalize decide (x.tdiv y<0)=t1 at *
  generalize decide (x.tmod y<0)=t2 at *
  replace hk:=Kept.comp _ _ _ hk hk3
  replace hB2:=hB2.kept hk3
  replace hB3:=hB3.kept hk3
  clear mq hB1 hk3
  obtain⟨kk,b1,b2⟩:=bp w3 [.bool t1,.slice a3 m1 k3] [.bool t2,.slice a4 m2 k4] 95 95
  have hlt:=hB3.lt
  go_wp2_with fail
  replace hB2:=hB2.kept kk
  replace hB3:=hB3.kept kk
  replace hv1:=hv1.kept kk
  replace hv2:=hv2.kept kk
  replace hk:=Kept.comp _ _ _ hk kk
  generalize (w3.alloc (.cells [.bool t1,.slice a3 m1 k3].toArray _)).alloc (.cells [.bool t2,.slice a4 m2 k4].toArray _)=w4 at *
  refine cJ 11 [.is (.agg #[.bool s2,l2]),.is (.int .i64 sy),.is (.bool true),.is (.bool true),.is (.agg #[.bool t2,.slice a4 m2 k4]),.is (.int .i64 sr),.is (.agg #[.bool s2,l2]),.is (.int .i64 sy),.is (.int .i64 p),.is (.bool (decide (p<0))),.is (.bool (decide (p<0)))] [0,1,2,3,4,5,6,7,8,9,10] (by kernel_rfl) (by kernel_rfl) (by kernel_rfl) (by kernel_rfl) (by kernel_rfl) (by kernel_rfl) (by intro f;simp only[laid,List.foldl_cons,List.foldl_nil,List.getElem?_toArray,K9,K8,Option.bind_some,Act.put,List.setIfInBounds_toArray,List.set_cons_zero,List.set_cons_succ];rfl) ?_ ?_
  ·intro i o him ho f wi hki hdep
   have c1:=(hB2.kept hki).cell 0 rfl
   have c2:=(hB2.kept hki).cell 1 rfl
   have c3:=(b2.kept hki).cell 0 rfl
   have c4:=(b2.kept hki).cell 1 rfl
   rcases i with _|_|_|_|_|_|_|_|_|_|_|i
   ·cases so ho
    refine Or.inl ⟨rfl,?_⟩
    refine ae.value (.agg #[.bool s2,l2]) ?_ (aa rfl)
    go_simp
   ·cases so ho
    have d0:=hdep ⟨0,.data⟩ (by simp) rfl
    simp only[af,K9] at d0
    refine Or.inl ⟨rfl,?_⟩
    refine ae.call 149 #[.agg #[.bool s2,l2]] (by go_simp) ((mb.out wi (Kept.comp _ _ _ hk hki)).mono ?_)
    rintro e w3 ⟨rfl,hk3⟩
    exact⟨_,rfl,rfl,hk3⟩
   ·cases so ho
    have d1:=hdep ⟨1,.data⟩ (by simp) rfl
    simp only[af,K9,K8] at d1
    refine Or.inl ⟨rfl,?_⟩
    refine ae.value (.bool true) ?_ (aa rfl)
    go_simp
   ·cases so ho
    have d2:=hdep ⟨2,.data⟩ (by simp) rfl
    simp only[af,K9,K8] at d2
    refine Or.inl ⟨rfl,?_⟩
    refine ae.value (.bool true) ?_ (aa rfl)
    go_simp
   ·cases so ho
    have dg:=hdep ⟨3,.guard⟩ (by simp) rfl
    simp only[af,K9,K8] at dg
    refine Or.inl ⟨by simp[Region.wanted,yielded,dg],?_⟩
    refine ae.value (.agg #[.bool t2,.slice a4 m2 k4]) ?_ (aa rfl)
    go_simp
   ·cases so ho
    have d4:=hdep ⟨4,.data⟩ (by simp) rfl
    simp only[af,K9,K8] at d4
    have dg:=hdep ⟨3,.guard⟩ (by simp) rfl
    simp only[af,K9,K8] at dg
    refine Or.inl ⟨by simp[Region.wanted,yielded,dg],?_⟩
    refine ae.call 149 #[.agg #[.bool t2,.slice a4 m2 k4]] (by go_simp) ((mr.out wi _ (hv2.kept hki)).mono ?_)
    rintro e w3 ⟨rfl,hk3⟩
    exact⟨_,rfl,rfl,hk3⟩
   ·cases so ho
    have dg:=hdep ⟨3,.guard⟩ (by simp) rfl
    simp only[af,K9,K8] at dg
    refine Or.inl ⟨by simp[Region.wanted,yielded,dg],?_⟩
    refine ae.value (.agg #[.bool s2,l2]) ?_ (aa rfl)
    go_simp
   ·cases so ho
    have d6:=hdep ⟨6,.data⟩ (by simp) rfl
    simp only[af,K9,K8] at d6
    have dg:=hdep ⟨3,.guard⟩ (by simp) rfl
    simp only[af,K9,K8] at dg
    refine Or.inl ⟨by simp[Region.wanted,yielded,dg],?_⟩
    refine ae.call 149 #[.agg #[.bool s2,l2]] (by go_simp) ((mb.out wi (Kept.comp _ _ _ hk hki)).mono ?_)
    rintro e w3 ⟨rfl,hk3⟩
    exact⟨_,rfl,rfl,hk3⟩
   ·cases so ho
    have d5:=hdep ⟨5,.data⟩ (by simp) rfl
    have d7:=hdep ⟨7,.data⟩ (by simp) rfl
    simp only[af,K9,K8] at d5 d7
    have dg:=hdep ⟨3,.guard⟩ (by simp) rfl
    simp only[af,K9,K8] at dg
    refine Or.inl ⟨by simp[Region.wanted,yielded,dg],?_⟩
    refine ae.value (.int .i64 p) ?_ (aa rfl)
    go_simp
   ·cases so ho
    have d8:=hdep ⟨8,.data⟩ (by simp) rfl
    simp only[af,K9,K8] at d8
    have dg:=hdep ⟨3,.guard⟩ (by simp) rfl
    simp only[af,K9,K8] at dg
    refine Or.inl ⟨by simp[Region.wanted,yielded,dg],?_⟩
    refine ae.value (.bool (decide (p<0))) ?_ (aa rfl)
    go_simp
   ·cases so ho
    have d3:=hdep ⟨3,.data⟩ (by simp) rfl
    have d9:=hdep ⟨9,.data⟩ (by simp) rfl
    simp only[af,K9,K8] at d3 d9
    refine Or.inl ⟨rfl,?_⟩
    refine ae.value (.bool (decide (p<0))) ?_ (aa rfl)
    go_simp
   ·omega
  ·intro f wi hki hall
   have h10:=hall 10 (by decide)
   simp only[af,K9,K8] at h10
   clear hall
   rw[h10]
   clear h10
   simp only[List.drop_succ_cons,List.drop_nil]
   replace hB3:=hB3.kept hki
   replace b1:=b1.kept hki
   replace hv1:=hv1.kept hki
   replace hk:=Kept.comp _ _ _ hk hki
   have c1:=b1.cell 0 rfl
   have c2:=b1.cell 1 rfl
   clear hki hB2 b2 hv2 mb mr hwr hnz
   by_cases hlt2:p<0
   ·obtain rfl:=G1.out hlt2
    rw[decide_eq_true hlt2]
    have mo:=K7 fun w'=>jg 1 w' (by omega) (by omega)
    clear hlt2 G1 G2
    go_wp2_with fail
    refine aj 3 [.is (.agg #[.bool t1,.slice a3 m1 k3]),.int 1,.int (x.tdiv y-1)] [0,1,2] (by kernel_rfl) (by kernel_rfl) (by kernel_rfl) (by kernel_rfl) (by kernel_rfl) (by kernel_rfl) (by intro f;simp only[laid,List.foldl_cons,List.foldl_nil,List.getElem?_toArray,K9,K8,Option.bind_some,Act.put,List.setIfInBounds_toArray,List.set_cons_zero,List.set_cons_succ];rfl) ?_ ?_
    ·intro i o him ho f wi hki hdep
     have c1:=(b1.kept hki).cell 0 rfl
     have c2:=(b1.kept hki).cell 1 rfl
     rcases i with _|_|_|i
     ·cases so ho
      refine ae.value (.agg #[.bool t1,.slice a3 m1 k3]) ?_ (aa rfl)
      go_simp
     ·cases so ho
      refine ae.call 150 #[.int .i64 1] (by go_simp) ((mo.out wi).mono ?_)
      rintro e w3 ⟨u,rfl,hu,hk3⟩
      exact⟨u,rfl,hu,hk3⟩
     ·cases so ho
      have d0:=hdep ⟨0,.data⟩ (by simp) rfl
      have d1:=hdep ⟨1,.data⟩ (by simp) rfl
      simp only[af,K9,K8] at d0 d1
      refine ae.call 161 #[.agg #[.bool t1,.slice a3 m1 k3],f 1] (by go_simp) ((ms.out wi _ _ (hv1.kept hki) d1).mono ?_)
      rintro e w3 ⟨u,rfl,hu,hk3⟩
      exact⟨u,rfl,hu,hk3⟩
     ·omega
    ·intro f wi hki hall
     have hv:=hall 2 (by decide)
     simp only[af,K9,K8] at hv
     clear hall
     obtain⟨_,he,a',c',rfl,_⟩:=id hv
     rw[he] at hv
     simp only[List.drop_succ_cons,List.drop_zero]
     rw[he]
     generalize size (x.tdiv y-1).natAbs=n' at *
     generalize decide (x.tdiv y-1<0)=s' at *
     have hB:=hB3.kept hki
     have r0:=hB.cell 0 rfl
     have r1:=hB.cell 1 rfl
     have f0:=hB.free 0
     have f1:=hB.free 1
     go_wp2
     obtain⟨p0,p1,p2,p3⟩:=aP hB (by omega) (Kept.comp _ _ _ hk hki) hv
     exact bodyPost_ret (v:=.agg #[.bool s',.slice a' n' c']) (by simp[results,Tryz.results82,go_sem,p0,p1]) rfl ⟨_,rfl,p2,p3⟩
   ·obtain rfl:=G2.out (by omega)
    rw[decide_eq_false hlt2]
    clear hlt2 G1 G2
    have r0:=hB3.cell 0 rfl
    have r1:=hB3.cell 1 rfl
    have f0:=hB3.free 0
    have f1:=hB3.free 1
    go_wp2
    obtain⟨p0,p1,p2,p3⟩:=aP hB3 (by omega) hk hv1
    exact bodyPost_ret (v:=.agg #[.bool t1,.slice a3 m1 k3]) (by simp[results,Tryz.results82,go_sem,p0,p1]) rfl ⟨_,rfl,p2,p3⟩
end Go.Proofs.YtjbcmmaniphkkaaGreatDoor
