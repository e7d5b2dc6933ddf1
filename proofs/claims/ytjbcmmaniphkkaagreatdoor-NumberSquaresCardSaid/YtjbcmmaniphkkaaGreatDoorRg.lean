import Derived.Test.YtjbcmmaniphkkaaGreatDoorRb
set_option linter.unusedSectionVars false
set_option linter.unusedVariables false
set_option linter.unusedSimpArgs false
set_option maxRecDepth 100000
set_option maxHeartbeats 1000000
namespace Go.Proofs.YtjbcmmaniphkkaaGreatDoor.D
open Go.RowKit DigNum
theorem iz (v:Value) (n:Int) (w:World) (h:Big w v n) (hm:size n.natAbs≤1099511627776) :
  Calls Tryz.prog 184 #[v] w fun e w'=>∃ v,e=.returned v∧Big w' v (-n)∧Kept w w':=by
 obtain⟨l,rfl,hl⟩:=h
 have hs:=K7 fun w' (hk:Kept w w')=>bm (!decide (n<0)) l n.natAbs w' ((hl.kept hk).num hm) hm
 have hn:az (!decide (n<0)) n.natAbs = -n:=by
  unfold az
  by_cases h:n<0
  ·simp[h];omega
  ·simp[h];omega
 rw[hn] at hs
 clear hl hm
 generalize decide (n<0)=s at *
 go_enter Tryz.func184,Tryz.ntmps184
 go_wp2_with fail
 have hk1:=ak w (Obj.cells #[Value.bool s,l] 117)
 have hk2:=ak (w.alloc (Obj.cells #[Value.bool s,l] 117)) (Obj.cells #[Value.bool false,Value.slice none 0 0] 117)
 have hB:=aJ (w.alloc (Obj.cells #[Value.bool s,l] 117)) 117 [Value.bool false,Value.slice none 0 0]
 have hk:=Kept.comp _ _ _ hk1 hk2
 have hz:(w.alloc (Obj.cells #[Value.bool s,l] 117)).heap.size=w.heap.size+1:=by simp
 rw[hz] at hB
 generalize (w.alloc (Obj.cells #[Value.bool s,l] 117)).alloc (Obj.cells #[Value.bool false,Value.slice none 0 0] 117)=w2 at *
 refine (hs.out _ hk).mono ?_
 rintro e w3 ⟨v,rfl,hv,hk3⟩
 obtain⟨_,rfl,a',c',rfl,_⟩:=id hv
 generalize size (-n).natAbs=n' at *
 generalize decide (-n<0)=s' at *
 have hB3:=hB.kept hk3
 have c0:=hB3.cell 0 rfl
 have c1:=hB3.cell 1 rfl
 have f0:=hB3.free 0
 have f1:=hB3.free 1
 clear hs hn
 go_wp2
 obtain⟨p0,p1,p2,p3⟩:=aP hB3 (Nat.le_succ _) (Kept.comp _ _ _ hk hk3) hv
 exact bodyPost_ret (v:=.agg #[.bool s',.slice a' n' c']) (by simp[results,Tryz.results184,go_sem,p0,p1]) rfl ⟨_,rfl,p2,p3⟩
theorem jG (va vb:Value) (x y:Int) (w:World) (ha:Big w va x) (hb:Big w vb y) (hx:size x.natAbs≤1073741824) (hy:size y.natAbs≤1073741824) :
  Calls Tryz.prog 171 #[va,vb] w fun e w'=>∃ v,e=.returned v∧Big w' v (x+y)∧Kept w w':=by
 obtain⟨l1,rfl,h1⟩:=ha
 obtain⟨l2,rfl,h2⟩:=hb
 have e1:=@add_same x y
 have e2:=@uf x y
 have e3:=@rL x y
 have z1:=mh x.natAbs y.natAbs
 have z2:=aK (Nat.sub_le x.natAbs y.natAbs)
 have z3:=aK (Nat.sub_le y.natAbs x.natAbs)
 have ma:=K7 fun w' (hk:Kept w w')=>iB l1 l2 x.natAbs y.natAbs w' (h1.kept hk) (h2.kept hk) hx hy
 have mc:=K7 fun w' (hk:Kept w w')=>aV l1 l2 x.natAbs y.natAbs w' (h1.kept hk) (h2.kept hk) hx
 have ms1:=K7 fun w' (hk:Kept w w')=>bM l1 l2 x.natAbs y.natAbs w' (h1.kept hk) (h2.kept hk) hx
 have ms2:=K7 fun w' (hk:Kept w w')=>bM l2 l1 y.natAbs x.natAbs w' (h2.kept hk) (h1.kept hk) hy
 have he1:=K7 e1
 have he2:=K7 e2
 have he3:=K7 e3
 have hz:=K7 (show size (x.natAbs+y.natAbs)≤1099511627776∧size (x.natAbs-y.natAbs)≤1099511627776∧size (y.natAbs-x.natAbs)≤1099511627776 from ⟨by omega,by omega,by omega⟩)
 clear h1 h2 e1 e2 e3 z1 z2 z3 hx hy
 generalize hs1:decide (x<0)=s1 at *
 generalize hs2:decide (y<0)=s2 at *
 clear hs1 hs2
 by_cases hs:s1=s2
 ·have hn:=he1.out hs
  have hbe:(s1==s2)=true:=by simp[hs]
  have hz:=hz.out.1
  clear he1 he2 he3 hs ms1 ms2 mc
  go_enter Tryz.func171,Tryz.ntmps171
  go_wp2_with fail
  obtain⟨hk,hB1,hB2,hB3⟩:=cO w [.bool s1,l1] [.bool s2,l2] 117 117 117 [.bool false,.slice none 0 0]
  generalize ((w.alloc (.cells [.bool s1,l1].toArray _)).alloc (.cells [.bool s2,l2].toArray _)).alloc (.cells [.bool false,.slice none 0 0].toArray _)=w2 at *
  refine aj 8 [.is (.pointer (some ⟨w.heap.size,0,none⟩)),.is (.bool s1),.is (.pointer (some ⟨w.heap.size,1,none⟩)),.is l1,.is (.pointer (some ⟨w.heap.size+1,1,none⟩)),.is l2,.lim (x.natAbs+y.natAbs),.int (x+y)] [0,1,2,3,4,5,6,7] (by kernel_rfl) (by kernel_rfl) (by kernel_rfl) (by kernel_rfl) (by kernel_rfl) (by kernel_rfl) (by intro f;simp only[laid,List.foldl_cons,List.foldl_nil,List.getElem?_toArray,K9,K8,Option.bind_some,Act.put,List.setIfInBounds_toArray,List.set_cons_zero,List.set_cons_succ];rfl) ?_ ?_
  ·intro i o him ho f wi hki hdep
   have c1:=(hB1.kept hki).cell 0 rfl
   have c2:=(hB1.kept hki).cell 1 rfl
   have c3:=(hB2.kept hki).cell 0 rfl
   have c4:=(hB2.kept hki).cell 1 rfl
   rcases i with _|_|_|_|_|_|_|_|i
   ·cases so ho
    refine ae.value (.pointer (some ⟨w.heap.size,0,none⟩)) ?_ (aa rfl)
    go_simp
   ·cases so ho
    have d0:=hdep ⟨0,.data⟩ (by simp) rfl
    simp only[af,K9] at d0
    refine ae.value (.bool s1) ?_ (aa rfl)
    go_simp
   ·cases so ho
    refine ae.value (.pointer (some ⟨w.heap.size,1,none⟩)) ?_ (aa rfl)
    go_simp
   ·cases so ho
    have d2:=hdep ⟨2,.data⟩ (by simp) rfl
    simp only[af,K9,K8] at d2
    refine ae.value l1 ?_ (aa rfl)
    go_simp
   ·cases so ho
    refine ae.value (.pointer (some ⟨w.heap.size+1,1,none⟩)) ?_ (aa rfl)
    go_simp
   ·cases so ho
    have d4:=hdep ⟨4,.data⟩ (by simp) rfl
    simp only[af,K9,K8] at d4
    refine ae.value l2 ?_ (aa rfl)
    go_simp
   ·cases so ho
    have d3:=hdep ⟨3,.data⟩ (by simp) rfl
    have d5:=hdep ⟨5,.data⟩ (by simp) rfl
    simp only[af,K9,K8] at d3 d5
    refine ae.call 225 #[l1,l2] (by go_simp) ((ma.out wi (Kept.comp _ _ _ hk hki)).mono ?_)
    rintro e w3 ⟨u,rfl,hu,hk3⟩
    exact⟨u,rfl,hu,hk3⟩
   ·cases so ho
    have d1:=hdep ⟨1,.data⟩ (by simp) rfl
    have d6:=hdep ⟨6,.data⟩ (by simp) rfl
    simp only[af,K9,K8] at d1 d6
    refine ae.call 185 #[.bool s1,f 6] (by go_simp) ((bm s1 (f 6) _ wi d6 hz).mono ?_)
    rintro e w3 ⟨u,rfl,hu,hk3⟩
    rw[hn] at hu
    exact⟨u,rfl,hu,hk3⟩
   ·omega
  ·intro f wi hki hall
   have hv:=hall 7 (by decide)
   simp only[af,K9,K8] at hv
   clear hall
   obtain⟨_,he,a',c',rfl,_⟩:=id hv
   rw[he] at hv
   simp only[List.drop_succ_cons,List.drop_zero]
   rw[he]
   generalize size (x+y).natAbs=n' at *
   generalize decide (x+y<0)=s' at *
   have hB:=hB3.kept hki
   have r0:=hB.cell 0 rfl
   have r1:=hB.cell 1 rfl
   have f0:=hB.free 0
   have f1:=hB.free 1
   go_wp2
   obtain⟨p0,p1,p2,p3⟩:=aP hB (by omega) (Kept.comp _ _ _ hk hki) hv
   exact bodyPost_ret (v:=.agg #[.bool s',.slice a' n' c']) (by simp[results,Tryz.results171,go_sem,p0,p1]) rfl ⟨_,rfl,p2,p3⟩
 ·have hbe:(s1==s2)=false:=by simpa using hs
  by_cases hlt:x.natAbs<y.natAbs
  ·have hn:=he3.out hs (by omega)
   rw[show ord x.natAbs y.natAbs = -1 by simp[ord,hlt]] at mc
   have hz:=hz.out.2.2
   have hsub:=K7 fun w' (hk:Kept w w')=>ms2.out w' hk (by omega)
   clear he1 he2 he3 hs ms1 ms2 ma hlt
   go_enter Tryz.func171,Tryz.ntmps171
   go_wp2_with fail
   obtain⟨hk,hB1,hB2,hB3⟩:=cO w [.bool s1,l1] [.bool s2,l2] 117 117 117 [.bool false,.slice none 0 0]
   generalize ((w.alloc (.cells [.bool s1,l1].toArray _)).alloc (.cells [.bool s2,l2].toArray _)).alloc (.cells [.bool false,.slice none 0 0].toArray _)=w2 at *
   refine (mc.out _ hk).mono ?_
   rintro e w2' ⟨rfl,q,rfl⟩
   have hkq:Kept w2 (w2.drewN q):=al (Below.refl _ _) q
   go_wp2_with fail
   replace hB1:=hB1.kept hkq
   replace hB2:=hB2.kept hkq
   replace hB3:=hB3.kept hkq
   replace hk:=Kept.comp _ _ _ hk hkq
   generalize w2.drewN q=w4 at *
   clear hkq
   refine aj 8 [.is (.pointer (some ⟨w.heap.size+1,0,none⟩)),.is (.bool s2),.is (.pointer (some ⟨w.heap.size+1,1,none⟩)),.is l2,.is (.pointer (some ⟨w.heap.size,1,none⟩)),.is l1,.lim (y.natAbs-x.natAbs),.int (x+y)] [0,1,2,3,4,5,6,7] (by kernel_rfl) (by kernel_rfl) (by kernel_rfl) (by kernel_rfl) (by kernel_rfl) (by kernel_rfl) (by intro f;simp only[laid,List.foldl_cons,List.foldl_nil,List.getElem?_toArray,K9,K8,Option.bind_some,Act.put,List.setIfInBounds_toArray,List.set_cons_zero,List.set_cons_succ];rfl) ?_ ?_
   ·intro i o him ho f wi hki hdep
    have c1:=(hB1.kept hki).cell 0 rfl
    have c2:=(hB1.kept hki).cell 1 rfl
    have c3:=(hB2.kept hki).cell 0 rfl
    have c4:=(hB2.kept hki).cell 1 rfl
    rcases i with _|_|_|_|_|_|_|_|i
    ·cases so ho
     refine ae.value (.pointer (some ⟨w.heap.size+1,0,none⟩)) ?_ (aa rfl)
     go_simp
    ·cases so ho
     have d0:=hdep ⟨0,.data⟩ (by simp) rfl
     simp only[af,K9] at d0
     refine ae.value (.bool s2) ?_ (aa rfl)
     go_simp
    ·cases so ho
     refine ae.value (.pointer (some ⟨w.heap.size+1,1,none⟩)) ?_ (aa rfl)
     go_simp
    ·cases so ho
     have d2:=hdep ⟨2,.data⟩ (by simp) rfl
     simp only[af,K9,K8] at d2
     refine ae.value l2 ?_ (aa rfl)
     go_simp
    ·cases so ho
     refine ae.value (.pointer (some ⟨w.heap.size,1,none⟩)) ?_ (aa rfl)
     go_simp
    ·cases so ho
     have d4:=hdep ⟨4,.data⟩ (by simp) rfl
     simp only[af,K9,K8] at d4
     refine ae.value l1 ?_ (aa rfl)
     go_simp
    ·cases so ho
     have d3:=hdep ⟨3,.data⟩ (by simp) rfl
     have d5:=hdep ⟨5,.data⟩ (by simp) rfl
     simp only[af,K9,K8] at d3 d5
     refine ae.call 226 #[l2,l1] (by go_simp) ((hsub.out wi (Kept.comp _ _ _ hk hki)).mono ?_)
     rintro e w3 ⟨u,rfl,hu,hk3⟩
     exact⟨u,rfl,hu,hk3⟩
    ·cases so ho
     have d1:=hdep ⟨1,.data⟩ (by simp) rfl
     have d6:=hdep ⟨6,.data⟩ (by simp) rfl
     simp only[af,K9,K8] at d1 d6
     refine ae.call 185 #[.bool s2,f 6] (by go_simp) ((bm s2 (f 6) _ wi d6 hz).mono ?_)
     rintro e w3 ⟨u,rfl,hu,hk3⟩
     rw[hn] at hu
     exact⟨u,rfl,hu,hk3⟩
    ·omega
   ·intro f wi hki hall
    have hv:=hall 7 (by decide)
    simp only[af,K9,K8] at hv
    clear hall
    obtain⟨_,he,a',c',rfl,_⟩:=id hv
    rw[he] at hv
    simp only[List.drop_succ_cons,List.drop_zero]
    rw[he]
    generalize size (x+y).natAbs=n' at *
    generalize decide (x+y<0)=s' at *
    have hB:=hB3.kept hki
    have r0:=hB.cell 0 rfl
    have r1:=hB.cell 1 rfl
    have f0:=hB.free 0
    have f1:=hB.free 1
    go_wp2
    obtain⟨p0,p1,p2,p3⟩:=aP hB (by omega) (Kept.comp _ _ _ hk hki) hv
    exact bodyPost_ret (v:=.agg #[.bool s',.slice a' n' c']) (by simp[results,Tryz.results171,go_sem,p0,p1]) rfl ⟨_,rfl,p2,p3⟩
  ·have hn:=he2.out hs (by omega)
   have hor:decide (ord x.natAbs y.natAbs ≥ 0)=true:=by unfold ord;rw[if_neg hlt];split<;>simp
   have hz:=hz.out.2.1
   have hsub:=K7 fun w' (hk:Kept w w')=>ms1.out w' hk (by omega)
   generalize ord x.natAbs y.natAbs=o at *
   clear he1 he2 he3 hs ms1 ms2 ma hlt
   go_enter Tryz.func171,Tryz.ntmps171
   go_wp2_with fail
   obtain⟨hk,hB1,hB2,hB3⟩:=cO w [.bool s1,l1] [.bool s2,l2] 117 117 117 [.bool false,.slice none 0 0]
   generalize ((w.alloc (.cells [.bool s1,l1].toArray _)).alloc (.cells [.bool s2,l2].toArray _)).alloc (.cells [.bool false,.slice none 0 0].toArray _)=w2 at *
   refine (mc.out _ hk).mono ?_
   rintro e w2' ⟨rfl,q,rfl⟩
   have hkq:Kept w2 (w2.drewN q):=al (Below.refl _ _) q
   go_wp2_with fail
   replace hB1:=hB1.kept hkq
   replace hB2:=hB2.kept hkq
   replace hB3:=hB3.kept hkq
   replace hk:=Kept.comp _ _ _ hk hkq
   generalize w2.drewN q=w4 at *
   clear hkq
   refine aj 8 [.is (.pointer (some ⟨w.heap.size,0,none⟩)),.is (.bool s1),.is (.pointer (some ⟨w.heap.size,1,none⟩)),.is l1,.is (.pointer (some ⟨w.heap.size+1,1,none⟩)),.is l2,.lim (x.natAbs-y.natAbs),.int (x+y)] [0,1,2,3,4,5,6,7] (by kernel_rfl) (by kernel_rfl) (by kernel_rfl) (by kernel_rfl) (by kernel_rfl) (by kernel_rfl) (by intro f;simp only[laid,List.foldl_cons,List.foldl_nil,List.getElem?_toArray,K9,K8,Option.bind_some,Act.put,List.setIfInBounds_toArray,List.set_cons_zero,List.set_cons_succ];rfl) ?_ ?_
   ·intro i o him ho f wi hki hdep
    have c1:=(hB1.kept hki).cell 0 rfl
    have c2:=(hB1.kept hki).cell 1 rfl
    have c3:=(hB2.kept hki).cell 0 rfl
    have c4:=(hB2.kept hki).cell 1 rfl
    rcases i with _|_|_|_|_|_|_|_|i
    ·cases so ho
     refine ae.value (.pointer (some ⟨w.heap.size,0,none⟩)) ?_ (aa rfl)
     go_simp
    ·cases so ho
     have d0:=hdep ⟨0,.data⟩ (by simp) rfl
     simp only[af,K9] at d0
     refine ae.value (.bool s1) ?_ (aa rfl)
     go_simp
    ·cases so ho
     refine ae.value (.pointer (some ⟨w.heap.size,1,none⟩)) ?_ (aa rfl)
     go_simp
    ·cases so ho
     have d2:=hdep ⟨2,.data⟩ (by simp) rfl
     simp only[af,K9,K8] at d2
     refine ae.value l1 ?_ (aa rfl)
     go_simp
    ·cases so ho
     refine ae.value (.pointer (some ⟨w.heap.size+1,1,none⟩)) ?_ (aa rfl)
     go_simp
    ·cases so ho
     have d4:=hdep ⟨4,.data⟩ (by simp) rfl
     simp only[af,K9,K8] at d4
     refine ae.value l2 ?_ (aa rfl)
     go_simp
    ·cases so ho
     have d3:=hdep ⟨3,.data⟩ (by simp) rfl
     have d5:=hdep ⟨5,.data⟩ (by simp) rfl
     simp only[af,K9,K8] at d3 d5
     refine ae.call 226 #[l1,l2] (by go_simp) ((hsub.out wi (Kept.comp _ _ _ hk hki)).mono ?_)
     rintro e w3 ⟨u,rfl,hu,hk3⟩
     exact⟨u,rfl,hu,hk3⟩
    ·cases so ho
     have d1:=hdep ⟨1,.data⟩ (by simp) rfl
     have d6:=hdep ⟨6,.data⟩ (by simp) rfl
     simp only[af,K9,K8] at d1 d6
     refine ae.call 185 #[.bool s1,f 6] (by go_simp) ((bm s1 (f 6) _ wi d6 hz).mono ?_)
     rintro e w3 ⟨u,rfl,hu,hk3⟩
     rw[hn] at hu
     exact⟨u,rfl,hu,hk3⟩
    ·omega
   ·intro f wi hki hall
    have hv:=hall 7 (by decide)
    simp only[af,K9,K8] at hv
    clear hall
    obtain⟨_,he,a',c',rfl,_⟩:=id hv
    rw[he] at hv
    simp only[List.drop_succ_cons,List.drop_zero]
    rw[he]
    generalize size (x+y).natAbs=n' at *
    generalize decide (x+y<0)=s' at *
    have hB:=hB3.kept hki
    have r0:=hB.cell 0 rfl
    have r1:=hB.cell 1 rfl
    have f0:=hB.free 0
    have f1:=hB.free 1
    go_wp2
    obtain⟨p0,p1,p2,p3⟩:=aP hB (by omega) (Kept.comp _ _ _ hk hki) hv
    exact bodyPost_ret (v:=.agg #[.bool s',.slice a' n' c']) (by simp[results,Tryz.results171,go_sem,p0,p1]) rfl ⟨_,rfl,p2,p3⟩
theorem dJ (va vb:Value) (x y:Int) (w:World) (ha:Big w va x) (hb:Big w vb y) (hx:size x.natAbs≤1073741824) (hy:size y.natAbs≤1073741824) (hxy:size (x*y).natAbs≤1099511627776) :
  Calls Tryz.prog 117 #[va,vb] w fun e w'=>∃ v,e=.returned v∧Big w' v (x*y)∧Kept w w':=by
 obtain⟨l1,rfl,h1⟩:=ha
 obtain⟨l2,rfl,h2⟩:=hb
 have hn:=iO x y
 have hm:=K7 fun w' (hk:Kept w w')=>ec l1 l2 x.natAbs y.natAbs w' (h1.kept hk) (h2.kept hk) hx hy
 rw[Int.natAbs_mul] at hxy
 generalize decide (x<0)=s1 at *
 generalize decide (y<0)=s2 at *
 clear h1 h2
 go_enter Tryz.func117,Tryz.ntmps117
 go_wp2_with fail
 obtain⟨hk,hB1,hB2,hB3⟩:=cO w [.bool s1,l1] [.bool s2,l2] 117 117 117 [.bool false,.slice none 0 0]
 generalize ((w.alloc (.cells [.bool s1,l1].toArray _)).alloc (.cells [.bool s2,l2].toArray _)).alloc (.cells [.bool false,.slice none 0 0].toArray _)=w2 at *
 refine aj 11 [.is (.pointer (some ⟨w.heap.size,0,none⟩)),.is (.bool s1),.is (.pointer (some ⟨w.heap.size+1,0,none⟩)),.is (.bool s2),.is (.bool (s1 != s2)),.is (.pointer (some ⟨w.heap.size,1,none⟩)),.is l1,.is (.pointer (some ⟨w.heap.size+1,1,none⟩)),.is l2,.lim (x.natAbs*y.natAbs),.int (x*y)] [0,1,2,3,4,5,6,7,8,9,10] (by kernel_rfl) (by kernel_rfl) (by kernel_rfl) (by kernel_rfl) (by kernel_rfl) (by kernel_rfl) (by intro f;simp only[laid,List.foldl_cons,List.foldl_nil,List.getElem?_toArray,K9,K8,Option.bind_some,Act.put,List.setIfInBounds_toArray,List.set_cons_zero,List.set_cons_succ];rfl) ?_ ?_
 ·intro i o him ho f wi hki hdep
  have c1:=(hB1.kept hki).cell 0 rfl
  have c2:=(hB1.kept hki).cell 1 rfl
  have c3:=(hB2.kept hki).cell 0 rfl
  have c4:=(hB2.kept hki).cell 1 rfl
  rcases i with _|_|_|_|_|_|_|_|_|_|_|i
  ·cases so ho
   refine ae.value (.pointer (some ⟨w.heap.size,0,none⟩)) ?_ (aa rfl)
   go_simp
  ·cases so ho
   have d0:=hdep ⟨0,.data⟩ (by simp) rfl
   simp only[af,K9] at d0
   refine ae.value (.bool s1) ?_ (aa rfl)
   go_simp
  ·cases so ho
   refine ae.value (.pointer (some ⟨w.heap.size+1,0,none⟩)) ?_ (aa rfl)
   go_simp
  ·cases so ho
   have d2:=hdep ⟨2,.data⟩ (by simp) rfl
   simp only[af,K9,K8] at d2
   refine ae.value (.bool s2) ?_ (aa rfl)
   go_simp
  ·cases so ho
   have d1:=hdep ⟨1,.data⟩ (by simp) rfl
   have d3:=hdep ⟨3,.data⟩ (by simp) rfl
   simp only[af,K9,K8] at d1 d3
   refine ae.value (.bool (s1 != s2)) ?_ (aa rfl)
   go_simp
   cases s1<;>cases s2<;>rfl
  ·cases so ho
   refine ae.value (.pointer (some ⟨w.heap.size,1,none⟩)) ?_ (aa rfl)
   go_simp
  ·cases so ho
   have d5:=hdep ⟨5,.data⟩ (by simp) rfl
   simp only[af,K9,K8] at d5
   refine ae.value l1 ?_ (aa rfl)
   go_simp
  ·cases so ho
   refine ae.value (.pointer (some ⟨w.heap.size+1,1,none⟩)) ?_ (aa rfl)
   go_simp
  ·cases so ho
   have d7:=hdep ⟨7,.data⟩ (by simp) rfl
   simp only[af,K9,K8] at d7
   refine ae.value l2 ?_ (aa rfl)
   go_simp
  ·cases so ho
   have d6:=hdep ⟨6,.data⟩ (by simp) rfl
   have d8:=hdep ⟨8,.data⟩ (by simp) rfl
   simp only[af,K9,K8] at d6 d8
   refine ae.call 186 #[l1,l2] (by go_simp) ((hm.out wi (Kept.comp _ _ _ hk hki)).mono ?_)
   rintro e w3 ⟨u,rfl,hu,hk3⟩
   exact⟨u,rfl,hu,hk3⟩
  ·cases so ho
   have d4:=hdep ⟨4,.data⟩ (by simp) rfl
   have d9:=hdep ⟨9,.data⟩ (by simp) rfl
   simp only[af,K9,K8] at d4 d9
   refine ae.call 185 #[.bool (s1 != s2),f 9] (by go_simp) ((bm (s1 != s2) (f 9) _ wi d9 hxy).mono ?_)
   rintro e w3 ⟨u,rfl,hu,hk3⟩
   rw[hn] at hu
   exact⟨u,rfl,hu,hk3⟩
  ·omega
 ·intro f wi hki hall
  have hv:=hall 10 (by decide)
  simp only[af,K9,K8] at hv
  clear hall
  obtain⟨_,he,a',c',rfl,_⟩:=id hv
  rw[he] at hv
  simp only[List.drop_succ_cons,List.drop_zero]
  rw[he]
  generalize size (x*y).natAbs=n' at *
  generalize decide (x*y<0)=s' at *
  have hB:=hB3.kept hki
  have r0:=hB.cell 0 rfl
  have r1:=hB.cell 1 rfl
  have f0:=hB.free 0
  have f1:=hB.free 1
  go_wp2
  obtain⟨p0,p1,p2,p3⟩:=aP hB (by omega) (Kept.comp _ _ _ hk hki) hv
  exact bodyPost_ret (v:=.agg #[.bool s',.slice a' n' c']) (by simp[results,Tryz.results117,go_sem,p0,p1]) rfl ⟨_,rfl,p2,p3⟩
end Go.Proofs.YtjbcmmaniphkkaaGreatDoor.D
