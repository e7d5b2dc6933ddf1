import Derived.Test.YtjbcmmaniphkkaaGreatDoorL8
set_option linter.unusedSectionVars false
set_option linter.unusedVariables false
set_option linter.unusedSimpArgs false
set_option maxRecDepth 100000
set_option maxHeartbeats 1000000
namespace Go.Proofs.YtjbcmmaniphkkaaGreatDoor
open Go.RowKit LimbNum
theorem yk (va vb:Value) (x y:Int) (w:World) (ha:Whole w va x) (hb:Whole w vb y) (hx:size x.natAbs≤1073741824) (hy:size y.natAbs≤1073741824) :
  Calls Tryz.prog 161 #[va,vb] w fun e w'=>∃ v,e=.returned v∧Whole w' v (x-y)∧Kept w w':=by
 have mn:=K7 fun w' (hk:Kept w w')=>iz vb y w' (hb.kept hk) (by omega)
 have ma:=K7 fun w' v (hk:Kept w w') (hv:Whole w' v (-y))=>jG va v x (-y) w' (ha.kept hk) hv hx (by rw[Int.natAbs_neg];exact hy)
 obtain⟨l1,rfl,_⟩:=ha
 obtain⟨l2,rfl,_⟩:=hb
 rw[show x-y=x + -y by omega]
 generalize decide (x<0)=s1 at *
 generalize decide (y<0)=s2 at *
 go_enter Tryz.func161,Tryz.ntmps161
 go_wp2_with fail
 obtain⟨hk,hB1,hB2,hB3⟩:=cO w [.bool s1,l1] [.bool s2,l2] 95 95 95 [.bool false,.slice none 0 0]
 generalize ((w.alloc (.cells [.bool s1,l1].toArray _)).alloc (.cells [.bool s2,l2].toArray _)).alloc (.cells [.bool false,.slice none 0 0].toArray _)=w2 at *
 refine aj 4 [.is (.agg #[.bool s1,l1]),.is (.agg #[.bool s2,l2]),.int (-y),.int (x + -y)] [0,1,2,3] (by kernel_rfl) (by kernel_rfl) (by kernel_rfl) (by kernel_rfl) (by kernel_rfl) (by kernel_rfl) (by intro f;simp only[laid,List.foldl_cons,List.foldl_nil,List.getElem?_toArray,K9,K8,Option.bind_some,Act.put,List.setIfInBounds_toArray,List.set_cons_zero,List.set_cons_succ];rfl) ?_ ?_
 ·intro i o him ho f wi hki hdep
  have c1:=(hB1.kept hki).cell 0 rfl
  have c2:=(hB1.kept hki).cell 1 rfl
  have c3:=(hB2.kept hki).cell 0 rfl
  have c4:=(hB2.kept hki).cell 1 rfl
  rcases i with _|_|_|_|i
  ·cases so ho
   refine ae.value (.agg #[.bool s1,l1]) ?_ (aa rfl)
   go_simp
  ·cases so ho
   refine ae.value (.agg #[.bool s2,l2]) ?_ (aa rfl)
   go_simp
  ·cases so ho
   have d1:=hdep ⟨1,.data⟩ (by simp) rfl
   simp only[af,K9,K8] at d1
   refine ae.call 156 #[.agg #[.bool s2,l2]] (by go_simp) ((mn.out wi (Kept.comp _ _ _ hk hki)).mono ?_)
   rintro e w3 ⟨u,rfl,hu,hk3⟩
   exact⟨u,rfl,hu,hk3⟩
  ·cases so ho
   have d0:=hdep ⟨0,.data⟩ (by simp) rfl
   have d2:=hdep ⟨2,.data⟩ (by simp) rfl
   simp only[af,K9,K8] at d0 d2
   refine ae.call 153 #[.agg #[.bool s1,l1],f 2] (by go_simp) ((ma.out wi (f 2) (Kept.comp _ _ _ hk hki) d2).mono ?_)
   rintro e w3 ⟨u,rfl,hu,hk3⟩
   exact⟨u,rfl,hu,hk3⟩
  ·omega
 ·intro f wi hki hall
  have hv:=hall 3 (by decide)
  simp only[af,K9,K8] at hv
  clear hall
  obtain⟨_,he,a',c',rfl,_⟩:=id hv
  rw[he] at hv
  simp only[List.drop_succ_cons,List.drop_zero]
  rw[he]
  generalize size (x + -y).natAbs=n' at *
  generalize decide (x + -y<0)=s' at *
  have hB:=hB3.kept hki
  have r0:=hB.cell 0 rfl
  have r1:=hB.cell 1 rfl
  have f0:=hB.free 0
  have f1:=hB.free 1
  go_wp2
  obtain⟨p0,p1,p2,p3⟩:=aP hB (by omega) (Kept.comp _ _ _ hk hki) hv
  exact bodyPost_ret (v:=.agg #[.bool s',.slice a' n' c']) (by simp[results,Tryz.results161,go_sem,p0,p1]) rfl ⟨_,rfl,p2,p3⟩
theorem oF (v:Value) (n:Int) (w:World) (h:Whole w v n) (hm:size n.natAbs≤1099511627776) :
  Calls Tryz.prog 252 #[v] w fun e w'=>∃ v,e=.returned v∧Whole w' v (n.natAbs:Int)∧Kept w w':=by
 obtain⟨l,rfl,hl⟩:=h
 have hs:=K7 fun w' (hk:Kept w w')=>bm false l n.natAbs w' (hl.kept hk) hm
 have hn:az false n.natAbs=(n.natAbs:Int):=by
  rfl
 rw[hn] at hs
 clear hl hm
 generalize decide (n<0)=s at *
 go_enter Tryz.func252,Tryz.ntmps252
 go_wp2_with fail
 have hk1:=ak w (Obj.cells #[Value.bool s,l] 95)
 have hk2:=ak (w.alloc (Obj.cells #[Value.bool s,l] 95)) (Obj.cells #[Value.bool false,Value.slice none 0 0] 95)
 have hB:=aJ (w.alloc (Obj.cells #[Value.bool s,l] 95)) 95 [Value.bool false,Value.slice none 0 0]
 have hk:=Kept.comp _ _ _ hk1 hk2
 have hz:(w.alloc (Obj.cells #[Value.bool s,l] 95)).heap.size=w.heap.size+1:=by simp
 rw[hz] at hB
 generalize (w.alloc (Obj.cells #[Value.bool s,l] 95)).alloc (Obj.cells #[Value.bool false,Value.slice none 0 0] 95)=w2 at *
 refine (hs.out _ hk).mono ?_
 rintro e w3 ⟨v,rfl,hv,hk3⟩
 obtain⟨_,rfl,a',c',rfl,_⟩:=id hv
 generalize size (n.natAbs:Int).natAbs=n' at *
 generalize decide ((n.natAbs:Int)<0)=s' at *
 have hB3:=hB.kept hk3
 have c0:=hB3.cell 0 rfl
 have c1:=hB3.cell 1 rfl
 have f0:=hB3.free 0
 have f1:=hB3.free 1
 clear hs hn
 go_wp2
 obtain⟨p0,p1,p2,p3⟩:=aP hB3 (Nat.le_succ _) (Kept.comp _ _ _ hk hk3) hv
 exact bodyPost_ret (v:=.agg #[.bool s',.slice a' n' c']) (by simp[results,Tryz.results252,go_sem,p0,p1]) rfl ⟨_,rfl,p2,p3⟩
theorem bZ (v:Value) (n:Int) (w:World) (h:Whole w v n) (hm:size n.natAbs≤1099511627776) :
  Calls Tryz.prog 149 #[v] w fun e w'=>e=.returned (.int .i64 n.sign)∧Kept w w':=by
 obtain⟨_,rfl,a,c,rfl,hc,_⟩:=h
 have hp:=@LimbNum.size_pos n.natAbs
 generalize size n.natAbs=z at *
 rcases Int.lt_trichotomy n 0 with h|h|h
 ·have hs:decide (n<0)=true:=by simpa using h
  have hz:((z:Int)==0)=false:=by rw[beq_eq_false_iff_ne];have:=hp.2 (by omega);omega
  rw[hs,Int.sign_eq_neg_one_of_neg h]
  clear hp h hs
  go_enter Tryz.func149,Tryz.ntmps149
  go_wp2
  go_ret
  exact⟨rfl,ak _ _⟩
 ·subst h
  have hz:z=0:=by
   rcases Nat.eq_zero_or_pos z with h|h
   ·exact h
   ·exact absurd rfl (hp.1 h)
  subst hz
  clear hp
  go_enter Tryz.func149,Tryz.ntmps149
  go_wp2
  go_ret
  exact⟨rfl,ak _ _⟩
 ·have hs:decide (n<0)=false:=by simp;omega
  have hz:((z:Int)==0)=false:=by rw[beq_eq_false_iff_ne];have:=hp.2 (by omega);omega
  rw[hs,Int.sign_eq_one_of_pos h]
  clear hp h hs
  go_enter Tryz.func149,Tryz.ntmps149
  go_wp2
  go_ret
  exact⟨rfl,ak _ _⟩
def jm (x y:Int):Int:=if x<y then -1 else if y<x then 1 else 0
theorem bp (w:World) (c1 c2:List Value) (t1 t2:TypeId) :
  Kept w ((w.alloc (.cells c1.toArray t1)).alloc (.cells c2.toArray t2)) ∧
  Blk ((w.alloc (.cells c1.toArray t1)).alloc (.cells c2.toArray t2)) w.heap.size t1 c1 ∧
  Blk ((w.alloc (.cells c1.toArray t1)).alloc (.cells c2.toArray t2)) (w.heap.size+1) t2 c2:=by
 have k1:=ak w (.cells c1.toArray t1)
 have b1:=aJ w t1 c1
 have e1:(w.alloc (.cells c1.toArray t1)).heap.size=w.heap.size+1:=by simp
 generalize w.alloc (.cells c1.toArray t1)=w1 at *
 have k2:=ak w1 (.cells c2.toArray t2)
 have b2:=aJ w1 t2 c2
 rw[e1] at b2
 exact⟨Kept.comp _ _ _ k1 k2,b1.kept k2,b2⟩
theorem Ad {x y:Int} (h:x.sign≠y.sign):jm x y=if x.sign<y.sign then -1 else 1:=by
 unfold jm
 rcases Int.lt_trichotomy x 0 with hx|rfl|hx<;>rcases Int.lt_trichotomy y 0 with hy|rfl|hy
 all_goals
  first
  |(rw[Int.sign_eq_neg_one_of_neg hx,Int.sign_eq_neg_one_of_neg hy] at h;exact absurd rfl h)
  |(rw[Int.sign_eq_one_of_pos hx,Int.sign_eq_one_of_pos hy] at h;exact absurd rfl h)
  |(exact absurd rfl h)
  |(simp only[Int.sign_eq_neg_one_of_neg hx,Int.sign_eq_one_of_pos hy];rw[if_pos (by omega)];rfl)
  |(simp only[Int.sign_eq_neg_one_of_neg hx,Int.sign_zero];rw[if_pos (by omega)];rfl)
  |(simp only[Int.sign_eq_neg_one_of_neg hy,Int.sign_zero];rw[if_neg (by omega),if_pos (by omega)];rfl)
  |(simp only[Int.sign_eq_one_of_pos hy,Int.sign_zero];rw[if_pos (by omega)];rfl)
  |(simp only[Int.sign_eq_one_of_pos hx,Int.sign_zero];rw[if_neg (by omega),if_pos (by omega)];rfl)
  |(simp only[Int.sign_eq_one_of_pos hx,Int.sign_eq_neg_one_of_neg hy];rw[if_neg (by omega),if_pos (by omega)];rfl)
theorem FJ {x y:Int} (h:x.sign=y.sign) (hx:x<0):jm x y = -ord x.natAbs y.natAbs:=by
 rw[Int.sign_eq_neg_one_of_neg hx] at h
 have hy:y<0:=Int.sign_eq_neg_one_iff_neg.1 h.symm
 unfold jm ord
 repeat' split<;>omega
theorem FK {x y:Int} (h:x.sign=y.sign) (hx:¬x<0):jm x y=ord x.natAbs y.natAbs:=by
 have hy:¬y<0:=fun hy=>by
  rw[Int.sign_eq_neg_one_of_neg hy] at h
  exact hx (Int.sign_eq_neg_one_iff_neg.1 h)
 unfold jm ord
 repeat' split<;>omega
theorem jd (va vb:Value) (x y:Int) (w:World) (ha:Whole w va x) (hb:Whole w vb y) (hx:size x.natAbs≤1073741824) (hy:size y.natAbs≤1073741824) :
  Calls Tryz.prog 155 #[va,vb] w fun e w'=>e=.returned (.int .i64 (jm x y))∧Kept w w':=by
 have m1:=K7 fun w' (hk:Kept w w')=>bZ va x w' (ha.kept hk) (by omega)
 have m2:=K7 fun w' (hk:Kept w w')=>bZ vb y w' (hb.kept hk) (by omega)
 obtain⟨l1,rfl,h1⟩:=ha
 obtain⟨l2,rfl,h2⟩:=hb
 have mc:=K7 fun w' (hk:Kept w w')=>aV l1 l2 x.natAbs y.natAbs w' (h1.kept hk) (h2.kept hk) hx
 have q1:=K7 (@Ad x y)
 have q2:=K7 (@FJ x y)
 have q3:=K7 (@FK x y)
 clear h1 h2 hx hy
 have hdx:=K7 (show decide (x<0)=true↔x<0 from decide_eq_true_iff)
 generalize decide (x<0)=s1 at *
 generalize decide (y<0)=s2 at *
 by_cases hs:x.sign=y.sign
 ·rw[←hs] at m2
  have hq:jm x y=if s1 then -ord x.natAbs y.natAbs else ord x.natAbs y.natAbs:=by
   by_cases hx:x<0
   ·rw[if_pos (hdx.out.2 hx)];exact q2.out hs hx
   ·rw[if_neg (fun h=>hx (hdx.out.1 h))];exact q3.out hs hx
  rw[hq]
  have ho:ord x.natAbs y.natAbs = -1∨ord x.natAbs y.natAbs=0∨ord x.natAbs y.natAbs=1:=by
   unfold ord
   split
   ·exact .inl rfl
   ·split
    ·exact .inr (.inr rfl)
    ·exact .inr (.inl rfl)
  generalize ord x.natAbs y.natAbs=o at *
  generalize x.sign=sx at *
  have hb:(sx != sx)=false:=by simp
  clear q1 q2 q3 hdx hq hs
  go_enter Tryz.func155,Tryz.ntmps155
  go_wp2_with fail
  obtain⟨hk,hB1,hB2⟩:=bp w [.bool s1,l1] [.bool s2,l2] 95 95
  generalize (w.alloc (.cells [.bool s1,l1].toArray _)).alloc (.cells [.bool s2,l2].toArray _)=w2 at *
  refine aj 5 [.is (.agg #[.bool s1,l1]),.is (.int .i64 sx),.is (.agg #[.bool s2,l2]),.is (.int .i64 sx),.is (.bool false)] [0,1,2,3,4] (by kernel_rfl) (by kernel_rfl) (by kernel_rfl) (by kernel_rfl) (by kernel_rfl) (by kernel_rfl) (by intro f;simp only[laid,List.foldl_cons,List.foldl_nil,List.getElem?_toArray,K9,K8,Option.bind_some,Act.put,List.setIfInBounds_toArray,List.set_cons_zero,List.set_cons_succ];rfl) ?_ ?_
  ·intro i o him ho f wi hki hdep
   have c1:=(hB1.kept hki).cell 0 rfl
   have c2:=(hB1.kept hki).cell 1 rfl
   have c3:=(hB2.kept hki).cell 0 rfl
   have c4:=(hB2.kept hki).cell 1 rfl
   rcases i with _|_|_|_|_|i
   ·cases so ho
    refine ae.value (.agg #[.bool s1,l1]) ?_ (aa rfl)
    go_simp
   ·cases so ho
    have d0:=hdep ⟨0,.data⟩ (by simp) rfl
    simp only[af,K9] at d0
    refine ae.call 149 #[.agg #[.bool s1,l1]] (by go_simp) ((m1.out wi (Kept.comp _ _ _ hk hki)).mono ?_)
    rintro e w3 ⟨rfl,hk3⟩
    exact⟨_,rfl,rfl,hk3⟩
   ·cases so ho
    refine ae.value (.agg #[.bool s2,l2]) ?_ (aa rfl)
    go_simp
   ·cases so ho
    have d2:=hdep ⟨2,.data⟩ (by simp) rfl
    simp only[af,K9,K8] at d2
    refine ae.call 149 #[.agg #[.bool s2,l2]] (by go_simp) ((m2.out wi (Kept.comp _ _ _ hk hki)).mono ?_)
    rintro e w3 ⟨rfl,hk3⟩
    exact⟨_,rfl,rfl,hk3⟩
   ·cases so ho
    have d1:=hdep ⟨1,.data⟩ (by simp) rfl
    have d3:=hdep ⟨3,.data⟩ (by simp) rfl
    simp only[af,K9,K8] at d1 d3
    refine ae.value (.bool false) ?_ (aa rfl)
    go_simp
   ·omega
  ·intro f wi hki hall
   have h4:=hall 4 (by decide)
   simp only[af,K9,K8] at h4
   clear hall
   rw[h4]
   simp only[List.drop_succ_cons,List.drop_nil]
   replace hk:=Kept.comp _ _ _ hk hki
   have c1:=(hB1.kept hki).cell 0 rfl
   have c2:=(hB1.kept hki).cell 1 rfl
   have c3:=(hB2.kept hki).cell 0 rfl
   have c4:=(hB2.kept hki).cell 1 rfl
   go_wp2_with fail
   refine (mc.out _ hk).mono ?_
   rintro e w5 ⟨rfl,q,rfl⟩
   have hkq:Kept wi (wi.drewN q):=al (Below.refl _ _) q
   have d1:=((hB1.kept hki).kept hkq).cell 0 rfl
   replace hk:=Kept.comp _ _ _ hk hkq
   generalize wi.drewN q=w6 at *
   cases s1
   ·go_wp2
    go_ret
    exact⟨rfl,hk⟩
   ·rcases ho with rfl|rfl|rfl
    ·go_wp2
     go_ret
     exact⟨rfl,hk⟩
    ·go_wp2
     go_ret
     exact⟨rfl,hk⟩
    ·go_wp2
     go_ret
     exact⟨rfl,hk⟩
 ·rw[q1.out hs]
  generalize x.sign=sx at *
  generalize y.sign=sy at *
  have hb:(sx != sy)=true:=by simpa using hs
  obtain⟨r,hr,r1,r2⟩:∃ r:Int,(if sx<sy then -1 else 1)=r∧(sx<sy→r = -1)∧(¬sx<sy→r=1):=⟨_,rfl,fun h=>if_pos h,fun h=>if_neg h⟩
  rw[hr]
  have R1:=K7 r1
  have R2:=K7 r2
  clear hr r1 r2
  clear q1 q2 q3 hdx hs mc
  go_enter Tryz.func155,Tryz.ntmps155
  go_wp2_with fail
  obtain⟨hk,hB1,hB2⟩:=bp w [.bool s1,l1] [.bool s2,l2] 95 95
  generalize (w.alloc (.cells [.bool s1,l1].toArray _)).alloc (.cells [.bool s2,l2].toArray _)=w2 at *
  refine aj 5 [.is (.agg #[.bool s1,l1]),.is (.int .i64 sx),.is (.agg #[.bool s2,l2]),.is (.int .i64 sy),.is (.bool true)] [0,1,2,3,4] (by kernel_rfl) (by kernel_rfl) (by kernel_rfl) (by kernel_rfl) (by kernel_rfl) (by kernel_rfl) (by intro f;simp only[laid,List.foldl_cons,List.foldl_nil,List.getElem?_toArray,K9,K8,Option.bind_some,Act.put,List.setIfInBounds_toArray,List.set_cons_zero,List.set_cons_succ];rfl) ?_ ?_
  ·intro i o him ho f wi hki hdep
   have c1:=(hB1.kept hki).cell 0 rfl
   have c2:=(hB1.kept hki).cell 1 rfl
   have c3:=(hB2.kept hki).cell 0 rfl
   have c4:=(hB2.kept hki).cell 1 rfl
   rcases i with _|_|_|_|_|i
   ·cases so ho
    refine ae.value (.agg #[.bool s1,l1]) ?_ (aa rfl)
    go_simp
   ·cases so ho
    have d0:=hdep ⟨0,.data⟩ (by simp) rfl
    simp only[af,K9] at d0
    refine ae.call 149 #[.agg #[.bool s1,l1]] (by go_simp) ((m1.out wi (Kept.comp _ _ _ hk hki)).mono ?_)
    rintro e w3 ⟨rfl,hk3⟩
    exact⟨_,rfl,rfl,hk3⟩
   ·cases so ho
    refine ae.value (.agg #[.bool s2,l2]) ?_ (aa rfl)
    go_simp
   ·cases so ho
    have d2:=hdep ⟨2,.data⟩ (by simp) rfl
    simp only[af,K9,K8] at d2
    refine ae.call 149 #[.agg #[.bool s2,l2]] (by go_simp) ((m2.out wi (Kept.comp _ _ _ hk hki)).mono ?_)
    rintro e w3 ⟨rfl,hk3⟩
    exact⟨_,rfl,rfl,hk3⟩
   ·cases so ho
    have d1:=hdep ⟨1,.data⟩ (by simp) rfl
    have d3:=hdep ⟨3,.data⟩ (by simp) rfl
    simp only[af,K9,K8] at d1 d3
    refine ae.value (.bool true) ?_ (aa rfl)
    go_simp
   ·omega
  ·intro f wi hki hall
   have h4:=hall 4 (by decide)
   simp only[af,K9,K8] at h4
   clear hall
   rw[h4]
   simp only[List.drop_succ_cons,List.drop_nil]
   replace hk:=Kept.comp _ _ _ hk hki
   replace hB1:=hB1.kept hki
   replace hB2:=hB2.kept hki
   clear hki h4
   go_wp2_with fail
   refine aj 5 [.is (.agg #[.bool s1,l1]),.is (.int .i64 sx),.is (.agg #[.bool s2,l2]),.is (.int .i64 sy),.is (.bool (decide (sx<sy)))] [0,1,2,3,4] (by kernel_rfl) (by kernel_rfl) (by kernel_rfl) (by kernel_rfl) (by kernel_rfl) (by kernel_rfl) (by intro f;simp only[laid,List.foldl_cons,List.foldl_nil,List.getElem?_toArray,K9,K8,Option.bind_some,Act.put,List.setIfInBounds_toArray,List.set_cons_zero,List.set_cons_succ];rfl) ?_ ?_
   ·intro i o him ho f wi hki hdep
    have c1:=(hB1.kept hki).cell 0 rfl
    have c2:=(hB1.kept hki).cell 1 rfl
    have c3:=(hB2.kept hki).cell 0 rfl
    have c4:=(hB2.kept hki).cell 1 rfl
    rcases i with _|_|_|_|_|i
    ·cases so ho
     refine ae.value (.agg #[.bool s1,l1]) ?_ (aa rfl)
     go_simp
    ·cases so ho
     have d0:=hdep ⟨0,.data⟩ (by simp) rfl
     simp only[af,K9] at d0
     refine ae.call 149 #[.agg #[.bool s1,l1]] (by go_simp) ((m1.out wi (Kept.comp _ _ _ hk hki)).mono ?_)
     rintro e w3 ⟨rfl,hk3⟩
     exact⟨_,rfl,rfl,hk3⟩
    ·cases so ho
     refine ae.value (.agg #[.bool s2,l2]) ?_ (aa rfl)
     go_simp
    ·cases so ho
     have d2:=hdep ⟨2,.data⟩ (by simp) rfl
     simp only[af,K9,K8] at d2
     refine ae.call 149 #[.agg #[.bool s2,l2]] (by go_simp) ((m2.out wi (Kept.comp _ _ _ hk hki)).mono ?_)
     rintro e w3 ⟨rfl,hk3⟩
     exact⟨_,rfl,rfl,hk3⟩
    ·cases so ho
     have d1:=hdep ⟨1,.data⟩ (by simp) rfl
     have d3:=hdep ⟨3,.data⟩ (by simp) rfl
     simp only[af,K9,K8] at d1 d3
     refine ae.value (.bool (decide (sx<sy))) ?_ (aa rfl)
     go_simp
    ·omega
   ·intro f wi hki hall
    have h4:=hall 4 (by decide)
    simp only[af,K9,K8] at h4
    clear hall
    rw[h4]
    simp only[List.drop_succ_cons,List.drop_nil]
    replace hk:=Kept.comp _ _ _ hk hki
    by_cases hlt:sx<sy
    ·rw[decide_eq_true hlt]
     obtain rfl:=R1.out hlt
     clear hlt
     go_wp2
     go_ret
     exact⟨rfl,hk⟩
    ·rw[decide_eq_false hlt]
     obtain rfl:=R2.out (by omega)
     clear hlt
     go_wp2
     go_ret
     exact⟨rfl,hk⟩
theorem oL {w:World} {b:Nat} {m:Nat} {t:TypeId} (hm:0<m) (hB:m<LimbNum.B) (h:Blk w b t [.int .u64 (m:Int)]):Lim w (.slice (some ⟨b,0,none⟩) 1 1) m:=by
 have e:ai m=[m]:=by
  rw[br (by omega),Nat.mod_eq_of_lt hB,Nat.div_eq_of_lt hB,bc]
 have es:size m=1:=by
  have:size m=(ai m).length:=rfl
  rw[this,e];rfl
 refine ⟨some ⟨b,0,none⟩,1,by rw[es],by rw[es];exact K6 _,.inr ⟨b,0,rfl,h.lt,fun i hi=>?_⟩⟩
 rw[e] at hi ⊢
 obtain rfl:i=0:=by simp at hi;omega
 exact h.cell 0 rfl
theorem jg (n:Int) (w:World) (h1 : -9223372036854775808≤n) (h2:n≤9223372036854775807) :
  Calls Tryz.prog 150 #[.int .i64 n] w fun e w'=>∃ v,e=.returned v∧Whole w' v n∧Kept w w':=by
 rcases Int.lt_trichotomy n 0 with h|h|h
 ·have hlt:decide (n<0)=true:=by simpa using h
  have hne:(n==0)=false:=by rw[beq_eq_false_iff_ne];omega
  have hw:IntKind.u64.wrap n=n+18446744073709551616:=by rw[IntKind.wrap_u64];omega
  have hw2:IntKind.u64.wrap (-(n+18446744073709551616)) = -n:=by rw[IntKind.wrap_u64];omega
  have hm : -n=((n.natAbs:Nat):Int):=by omega
  have hlb:n.natAbs<LimbNum.B:=by unfold LimbNum.B;omega
  have hl0:0<n.natAbs:=by omega
  have H:=K7 hm
  have HB:=K7 hlb
  clear hm hlb
  go_enter Tryz.func150,Tryz.ntmps150
  go_wp2
  obtain⟨hk,hB1,hB2⟩:=bp w [.bool true,.slice (some ⟨w.heap.size+1,0,none⟩) 1 1] [.int .u64 (-n)] 95 232
  have hB2':Blk ((w.alloc (.cells [.bool true,.slice (some ⟨w.heap.size+1,0,none⟩) 1 1].toArray 95)).alloc (.cells [.int .u64 (-n)].toArray 232)) (w.heap.size+1) 232 [.int .u64 ((n.natAbs:Nat):Int)]:=by rw[←H.out];exact hB2
  have hL:=oL hl0 HB.out hB2'
  exact bodyPost_ret (v:=.agg #[.bool true,.slice (some ⟨w.heap.size+1,0,none⟩) 1 1]) (by simp[results,Tryz.results150,go_sem]) rfl ⟨_,rfl,⟨_,by rw[hlt],hL⟩,hk⟩
 ·subst h
  go_enter Tryz.func150,Tryz.ntmps150
  go_wp2
  exact bodyPost_ret (v:=.agg #[.bool false,.slice none 0 0]) (by simp[results,Tryz.results150,go_sem]) rfl ⟨_,rfl,⟨_,rfl,Lim.fe _⟩,ak _ _⟩
 ·have hlt:decide (n<0)=false:=by simp;omega
  have hne:(n==0)=false:=by rw[beq_eq_false_iff_ne];omega
  have hw:IntKind.u64.wrap n=n:=by rw[IntKind.wrap_u64];omega
  have hm:n=((n.natAbs:Nat):Int):=by omega
  have hlb:n.natAbs<LimbNum.B:=by unfold LimbNum.B;omega
  have hl0:0<n.natAbs:=by omega
  have H:=K7 hm
  have HB:=K7 hlb
  clear hm hlb
  go_enter Tryz.func150,Tryz.ntmps150
  go_wp2
  obtain⟨hk,hB1,hB2⟩:=bp w [.bool false,.slice (some ⟨w.heap.size+1,0,none⟩) 1 1] [.int .u64 n] 95 232
  have hB2':Blk ((w.alloc (.cells [.bool false,.slice (some ⟨w.heap.size+1,0,none⟩) 1 1].toArray 95)).alloc (.cells [.int .u64 n].toArray 232)) (w.heap.size+1) 232 [.int .u64 ((n.natAbs:Nat):Int)]:=by rw[←H.out];exact hB2
  have hL:=oL hl0 HB.out hB2'
  exact bodyPost_ret (v:=.agg #[.bool false,.slice (some ⟨w.heap.size+1,0,none⟩) 1 1]) (by simp[results,Tryz.results150,go_sem]) rfl ⟨_,rfl,⟨_,by rw[hlt],hL⟩,hk⟩
end Go.Proofs.YtjbcmmaniphkkaaGreatDoor
