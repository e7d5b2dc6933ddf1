import Derived.Test.YtjbcmmaniphkkaaGreatDoorLa
set_option linter.unusedSectionVars false
set_option linter.unusedVariables false
set_option linter.unusedSimpArgs false
set_option maxRecDepth 100000
set_option maxHeartbeats 4000000
namespace Go.Proofs.YtjbcmmaniphkkaaGreatDoor
open Go.RowKit LimbNum
theorem rE (x y:Int):az (decide (x<0) != decide (y<0)) (x.natAbs/y.natAbs)=x.tdiv y:=by
 have h:∀ a b:Nat,((a:Int)).tdiv b=((a/b:Nat):Int):=fun a b=>(Int.ofNat_tdiv a b).symm
 unfold az
 by_cases hx:x<0<;>by_cases hy:y<0
 ·obtain⟨a,rfl⟩:∃ a:Nat,x = -(a:Int):=⟨x.natAbs,by omega⟩
  obtain⟨b,rfl⟩:∃ b:Nat,y = -(b:Int):=⟨y.natAbs,by omega⟩
  simp only[hx,hy,Int.natAbs_neg,Int.natAbs_natCast,Int.neg_tdiv,Int.tdiv_neg,h];simp
 ·obtain⟨a,rfl⟩:∃ a:Nat,x = -(a:Int):=⟨x.natAbs,by omega⟩
  obtain⟨b,rfl⟩:∃ b:Nat,y=(b:Int):=⟨y.natAbs,by omega⟩
  simp only[hx,hy,Int.natAbs_neg,Int.natAbs_natCast,Int.neg_tdiv,h];simp
 ·obtain⟨a,rfl⟩:∃ a:Nat,x=(a:Int):=⟨x.natAbs,by omega⟩
  obtain⟨b,rfl⟩:∃ b:Nat,y = -(b:Int):=⟨y.natAbs,by omega⟩
  simp only[hx,hy,Int.natAbs_neg,Int.natAbs_natCast,Int.tdiv_neg,h];simp
 ·obtain⟨a,rfl⟩:∃ a:Nat,x=(a:Int):=⟨x.natAbs,by omega⟩
  obtain⟨b,rfl⟩:∃ b:Nat,y=(b:Int):=⟨y.natAbs,by omega⟩
  simp only[hx,hy,Int.natAbs_natCast,h];simp
theorem rG (x y:Int):az (decide (x<0)) (x.natAbs%y.natAbs)=x.tmod y:=by
 have h:∀ a b:Nat,((a:Int)).tmod b=((a%b:Nat):Int):=fun a b=>(Int.ofNat_tmod a b).symm
 unfold az
 by_cases hx:x<0<;>by_cases hy:y<0
 ·obtain⟨a,rfl⟩:∃ a:Nat,x = -(a:Int):=⟨x.natAbs,by omega⟩
  obtain⟨b,rfl⟩:∃ b:Nat,y = -(b:Int):=⟨y.natAbs,by omega⟩
  simp only[hx,Int.natAbs_neg,Int.natAbs_natCast,Int.neg_tmod,Int.tmod_neg,h];simp
 ·obtain⟨a,rfl⟩:∃ a:Nat,x = -(a:Int):=⟨x.natAbs,by omega⟩
  obtain⟨b,rfl⟩:∃ b:Nat,y=(b:Int):=⟨y.natAbs,by omega⟩
  simp only[hx,Int.natAbs_neg,Int.natAbs_natCast,Int.neg_tmod,h];simp
 ·obtain⟨a,rfl⟩:∃ a:Nat,x=(a:Int):=⟨x.natAbs,by omega⟩
  obtain⟨b,rfl⟩:∃ b:Nat,y = -(b:Int):=⟨y.natAbs,by omega⟩
  simp only[hx,Int.natAbs_neg,Int.natAbs_natCast,Int.tmod_neg,h];simp
 ·obtain⟨a,rfl⟩:∃ a:Nat,x=(a:Int):=⟨x.natAbs,by omega⟩
  obtain⟨b,rfl⟩:∃ b:Nat,y=(b:Int):=⟨y.natAbs,by omega⟩
  simp only[hx,Int.natAbs_natCast,h];simp
theorem Blk.ef {w:World} {b b':Nat} {t:TypeId} {cs:List Value} (h:Blk w b' t cs) (hne:b'≠b) (u v:Value):Blk ((w.setCell ⟨b,0,none⟩ u).setCell ⟨b,1,none⟩ v) b' t cs:=by
 unfold Blk at *
 rw[heap_setCell_other _ ⟨b,1,none⟩ b' v (by simpa using hne),heap_setCell_other _ ⟨b,0,none⟩ b' u (by simpa using hne)]
 exact h
theorem Whole.store {w:World} {b:Nat} {v u1 u2:Value} {n:Int} (hv:Whole w v n) (hB:Blk w b 95 [.bool false,.slice none 0 0]) :
  Whole ((w.setCell ⟨b,0,none⟩ u1).setCell ⟨b,1,none⟩ u2) v n:=by
 obtain⟨l,rfl,hl⟩:=hv
 refine ⟨l,rfl,hl.beside hB (by simp[World.setCell]) fun k hk=>?_⟩
 rw[heap_setCell_other _ ⟨b,1,none⟩ k u2 (by simpa using hk),heap_setCell_other _ ⟨b,0,none⟩ k u1 (by simpa using hk)]
theorem fT {w w3:World} {b1 b2:Nat} {s1 s2:Bool} {l1 l2:Value} {n1 n2:Int} (hB1:Blk w3 b1 95 [.bool false,.slice none 0 0]) (hB2:Blk w3 b2 95 [.bool false,.slice none 0 0]) (hne:b2≠b1)
  (h1:w.heap.size≤b1) (h2:w.heap.size≤b2) (hk:Kept w w3) (hv1:Whole w3 (.agg #[.bool s1,l1]) n1) (hv2:Whole w3 (.agg #[.bool s2,l2]) n2) :
  let w5:=(((w3.setCell ⟨b1,0,none⟩ (.bool s1)).setCell ⟨b1,1,none⟩ l1).setCell ⟨b2,0,none⟩ (.bool s2)).setCell ⟨b2,1,none⟩ l2
  w5.cell? ⟨b1,0,none⟩=some (.bool s1)∧w5.cell? ⟨b1,1,none⟩=some l1∧w5.cell? ⟨b2,0,none⟩=some (.bool s2)∧w5.cell? ⟨b2,1,none⟩=some l2 ∧
  Whole w5 (.agg #[.bool s1,l1]) n1∧Whole w5 (.agg #[.bool s2,l2]) n2∧Kept w w5:=by
 intro w5
 have a1:=hv1.store (u1:=.bool s1) (u2:=l1) hB1
 have a2:=hv2.store (u1:=.bool s1) (u2:=l1) hB1
 have c1:=hB1.nA (.bool s1) l1
 have c2:=hB2.ef hne (.bool s1) l1
 have k1:Kept w ((w3.setCell ⟨b1,0,none⟩ (.bool s1)).setCell ⟨b1,1,none⟩ l1):=(Below.setCell hk h1 _).setCell h1 _
 have d1:=c1.ef (b:=b2) (Ne.symm hne) (.bool s2) l2
 have d2:=c2.nA (.bool s2) l2
 exact⟨d1.cell 0 rfl,d1.cell 1 rfl,d2.cell 0 rfl,d2.cell 1 rfl,a1.store c2,a2.store c2,(Below.setCell k1 h2 _).setCell h2 _⟩
theorem EI (w:World) (c1 c2 c3 c4:List Value) (t1 t2 t3 t4:TypeId) :
  Kept w ((((w.alloc (.cells c1.toArray t1)).alloc (.cells c2.toArray t2)).alloc (.cells c3.toArray t3)).alloc (.cells c4.toArray t4)) ∧
  Blk ((((w.alloc (.cells c1.toArray t1)).alloc (.cells c2.toArray t2)).alloc (.cells c3.toArray t3)).alloc (.cells c4.toArray t4)) w.heap.size t1 c1 ∧
  Blk ((((w.alloc (.cells c1.toArray t1)).alloc (.cells c2.toArray t2)).alloc (.cells c3.toArray t3)).alloc (.cells c4.toArray t4)) (w.heap.size+1) t2 c2 ∧
  Blk ((((w.alloc (.cells c1.toArray t1)).alloc (.cells c2.toArray t2)).alloc (.cells c3.toArray t3)).alloc (.cells c4.toArray t4)) (w.heap.size+1+1) t3 c3 ∧
  Blk ((((w.alloc (.cells c1.toArray t1)).alloc (.cells c2.toArray t2)).alloc (.cells c3.toArray t3)).alloc (.cells c4.toArray t4)) (w.heap.size+1+1+1) t4 c4:=by
 obtain⟨k,b1,b2,b3⟩:=cO w c1 c2 t1 t2 t3 c3
 have e3:(((w.alloc (.cells c1.toArray t1)).alloc (.cells c2.toArray t2)).alloc (.cells c3.toArray t3)).heap.size=w.heap.size+1+1+1:=by simp
 generalize ((w.alloc (.cells c1.toArray t1)).alloc (.cells c2.toArray t2)).alloc (.cells c3.toArray t3)=w3 at *
 have k4:=ak w3 (.cells c4.toArray t4)
 have b4:=aJ w3 t4 c4
 rw[e3] at b4
 exact⟨Kept.comp _ _ _ k k4,b1.kept k4,b2.kept k4,b3.kept k4,b4⟩
theorem ky (va vb:Value) (x y:Int) (w:World) (ha:Whole w va x) (hb:Whole w vb y) (hx:size x.natAbs≤536870912) (hy:size y.natAbs≤1099511627776) :
  Calls Tryz.prog 160 #[va,vb] w fun e w'=>∃ v1 v2,e=.returned (.tuple #[v1,v2])∧Whole w' v1 (x.tdiv y)∧Whole w' v2 (x.tmod y)∧Kept w w':=by
 by_cases h0:y=0
 ·subst h0
  rw[Int.tdiv_zero,Int.tmod_zero]
  obtain⟨l1,rfl,a1,k1,rfl,hk1,hr1⟩:=id ha
  obtain⟨_,rfl,a2,k2,rfl,hk2,hr2⟩:=hb
  have hz:size (Int.natAbs 0)=0:=rfl
  rw[hz]
  rw[show decide ((0:Int)<0)=false from rfl]
  have HA:=K7 ha
  clear ha hr1 hr2 hk1 hk2 hz hx hy
  generalize size x.natAbs=n1 at *
  generalize decide (x<0)=s1 at *
  go_enter Tryz.func160,Tryz.ntmps160
  go_wp2_with fail
  obtain⟨hk,hB1,hB2,hB3,hB4⟩:=EI w [.bool s1,.slice a1 n1 k1] [.bool false,.slice a2 0 k2] [.bool false,.slice none 0 0] [.bool false,.slice none 0 0] 95 95 95 95
  generalize (((w.alloc (.cells [.bool s1,.slice a1 n1 k1].toArray _)).alloc (.cells [.bool false,.slice a2 0 k2].toArray _)).alloc (.cells [.bool false,.slice none 0 0].toArray _)).alloc (.cells [.bool false,.slice none 0 0].toArray _)=w2 at *
  have c1:=hB1.cell 0 rfl
  have c2:=hB1.cell 1 rfl
  have r0:=hB3.cell 0 rfl
  have r1:=hB3.cell 1 rfl
  have f0:=hB3.free 0
  have f1:=hB3.free 1
  have q0:=hB4.cell 0 rfl
  have q1:=hB4.cell 1 rfl
  have g0:=hB4.free 0
  have g1:=hB4.free 1
  go_region
  all_goals
   go_wp2
   have hv1:Whole w2 (.agg #[.bool false,.slice none 0 0]) 0:=⟨_,rfl,Lim.fe _⟩
   obtain⟨p0,p1,p2,p3,p4,p5,p6⟩:=fT hB3 hB4 (by omega) (by omega) (by omega) hk hv1 (HA.out.kept hk)
   have hkd:Kept w (((((w2.setCell ⟨w.heap.size+1+1,0,none⟩ (.bool false)).setCell ⟨w.heap.size+1+1,1,none⟩ (.slice none 0 0)).setCell ⟨w.heap.size+1+1+1,0,none⟩ (.bool s1)).setCell ⟨w.heap.size+1+1+1,1,none⟩ (.slice a1 n1 k1)).drew):=Below.drew p6
   exact bodyPost_ret (v:=.tuple #[.agg #[.bool false,.slice none 0 0],.agg #[.bool s1,.slice a1 n1 k1]]) (by simp[results,Tryz.results160,go_sem,p0,p1,p2,p3]) rfl ⟨_,_,rfl,p4.kept (Below.drew (Below.refl _ _)),p5.kept (Below.drew (Below.refl _ _)),hkd⟩
 ·have hy0:y.natAbs≠0:=by omega
  have md:=K7 fun w' (hk:Kept w w') (l1 l2:Value) (h1:Lim w' l1 x.natAbs) (h2:Lim w' l2 y.natAbs)=>iV l1 l2 x.natAbs y.natAbs w' h1 h2 hx hy0
  have z1:=K7 (show size (x.natAbs/y.natAbs)≤1099511627776 from Nat.le_trans (aK (Nat.div_le_self _ _)) (by omega))
  have z2:=K7 (show size (x.natAbs%y.natAbs)≤1099511627776 from Nat.le_trans (aK (Nat.mod_le _ _)) (by omega))
  have n1:=rE x y
  have n2:=rG x y
  obtain⟨l1,rfl,h1⟩:=ha
  obtain⟨l2,rfl,h2⟩:=hb
  have mq:=K7 fun w' (hk:Kept w w')=>md.out w' hk l1 l2 (h1.kept hk) (h2.kept hk)
  obtain⟨a2,k2,rfl,hk2,hr2⟩:=h2
  have hl2:((size y.natAbs:Int)==0)=false:=by rw[beq_eq_false_iff_ne];have:=LimbNum.size_pos.2 hy0;omega
  clear h1 hr2 hk2 hx hy md h0
  generalize size y.natAbs=n2' at *
  generalize decide (x<0)=s1 at *
  generalize decide (y<0)=s2 at *
  go_enter Tryz.func160,Tryz.ntmps160
  go_wp2_with fail
  obtain⟨hk,hB1,hB2,hB3,hB4⟩:=EI w [.bool s1,l1] [.bool s2,.slice a2 n2' k2] [.bool false,.slice none 0 0] [.bool false,.slice none 0 0] 95 95 95 95
  generalize (((w.alloc (.cells [.bool s1,l1].toArray _)).alloc (.cells [.bool s2,.slice a2 n2' k2].toArray _)).alloc (.cells [.bool false,.slice none 0 0].toArray _)).alloc (.cells [.bool false,.slice none 0 0].toArray _)=w2 at *
  refine (mq.out _ hk).mono ?_
  rintro e w3 ⟨v,r,rfl,hv,hr,hk3⟩
  replace hB1:=hB1.kept hk3
  replace hB2:=hB2.kept hk3
  replace hB3:=hB3.kept hk3
  replace hB4:=hB4.kept hk3
  replace hk:=Kept.comp _ _ _ hk hk3
  clear mq
  go_wp2_with fail
  refine aj 11 [.is (.pointer (some ⟨w.heap.size,0,none⟩)),.is (.bool s1),.is (.pointer (some ⟨w.heap.size+1,0,none⟩)),.is (.bool s2),.is (.bool (s1 != s2)),.is v,.int (x.tdiv y),.is (.pointer (some ⟨w.heap.size,0,none⟩)),.is (.bool s1),.is r,.int (x.tmod y)] [0,1,2,3,4,5,6,7,8,9,10] (by kernel_rfl) (by kernel_rfl) (by kernel_rfl) (by kernel_rfl) (by kernel_rfl) (by kernel_rfl) (by intro f;simp only[laid,List.foldl_cons,List.foldl_nil,List.getElem?_toArray,K9,K8,Option.bind_some,Act.put,List.setIfInBounds_toArray,List.set_cons_zero,List.set_cons_succ];rfl) ?_ ?_
  ·intro i o him ho f wi hki hdep
   have c1:=(hB1.kept hki).cell 0 rfl
   have c2:=(hB1.kept hki).cell 1 rfl
   have c3:=(hB2.kept hki).cell 0 rfl
   rcases i with _|_|_|_|_|_|_|_|_|_|_|i
   ·cases so ho
    refine ae.value (.pointer (some ⟨w.heap.size,0,none⟩)) ?_ (aa rfl)
    go_simp
   ·cases so ho
    have d0:=hdep ⟨0,.data⟩ (by simp) rfl
    simp only[af,K9] at d0
    refine ae.value (.bool s1) ?_ (aa rfl)
    go_simp
   ·cases so ho
    refine ae.value (.pointer (some ⟨w.heap.size+1,0,none⟩)) ?_ (aa rfl)
    go_simp
   ·cases so ho
    have d2:=hdep ⟨2,.data⟩ (by simp) rfl
    simp only[af,K9,K8] at d2
    refine ae.value (.bool s2) ?_ (aa rfl)
    go_simp
   ·cases so ho
    have d1:=hdep ⟨1,.data⟩ (by simp) rfl
    have d3:=hdep ⟨3,.data⟩ (by simp) rfl
    simp only[af,K9,K8] at d1 d3
    refine ae.value (.bool (s1 != s2)) ?_ (aa rfl)
    go_simp
    cases s1<;>cases s2<;>rfl
   ·cases so ho
    refine ae.value v ?_ (aa rfl)
    go_simp
   ·cases so ho
    have d4:=hdep ⟨4,.data⟩ (by simp) rfl
    have d5:=hdep ⟨5,.data⟩ (by simp) rfl
    simp only[af,K9,K8] at d4 d5
    refine ae.call 158 #[.bool (s1 != s2),v] (by go_simp) ((bm (s1 != s2) v _ wi (hv.kept hki) z1.out).mono ?_)
    rintro e w3 ⟨u,rfl,hu,hk3⟩
    rw[n1] at hu
    exact⟨u,rfl,hu,hk3⟩
   ·cases so ho
    refine ae.value (.pointer (some ⟨w.heap.size,0,none⟩)) ?_ (aa rfl)
    go_simp
   ·cases so ho
    have d7:=hdep ⟨7,.data⟩ (by simp) rfl
    simp only[af,K9,K8] at d7
    refine ae.value (.bool s1) ?_ (aa rfl)
    go_simp
   ·cases so ho
    refine ae.value r ?_ (aa rfl)
    go_simp
   ·cases so ho
    have d8:=hdep ⟨8,.data⟩ (by simp) rfl
    have d9:=hdep ⟨9,.data⟩ (by simp) rfl
    simp only[af,K9,K8] at d8 d9
    refine ae.call 158 #[.bool s1,r] (by go_simp) ((bm s1 r _ wi (hr.kept hki) z2.out).mono ?_)
    rintro e w3 ⟨u,rfl,hu,hk3⟩
    rw[n2] at hu
    exact⟨u,rfl,hu,hk3⟩
   ·omega
  ·intro f wi hki hall
   have hv1:=hall 6 (by decide)
   have hv2:=hall 10 (by decide)
   simp only[af,K9,K8] at hv1 hv2
   clear hall hv hr
   obtain⟨_,he1,a3,k3,rfl,_⟩:=id hv1
   obtain⟨_,he2,a4,k4,rfl,_⟩:=id hv2
   rw[he1] at hv1
   rw[he2] at hv2
   rw[he1,he2]
   generalize size (x.tdiv y).natAbs=m1 at *
   generalize size (x.tmod y).natAbs=m2 at *
   generalize decide (x.tdiv y<0)=t1 at *
   generalize decide (x.tmod y<0)=t2 at *
   have hC3:=hB3.kept hki
   have hC4:=hB4.kept hki
   have r0:=hC3.cell 0 rfl
   have r1:=hC3.cell 1 rfl
   have f0:=hC3.free 0
   have f1:=hC3.free 1
   have q0:=hC4.cell 0 rfl
   have q1:=hC4.cell 1 rfl
   have g0:=hC4.free 0
   have g1:=hC4.free 1
   simp only[List.drop_succ_cons,List.drop_zero]
   replace hk:=Kept.comp _ _ _ hk hki
   go_wp2
   obtain⟨p0,p1,p2,p3,p4,p5,p6⟩:=fT hC3 hC4 (by omega) (by omega) (by omega) hk hv1 hv2
   exact bodyPost_ret (v:=.tuple #[.agg #[.bool t1,.slice a3 m1 k3],.agg #[.bool t2,.slice a4 m2 k4]]) (by simp[results,Tryz.results160,go_sem,p0,p1,p2,p3]) rfl ⟨_,_,rfl,p4,p5,p6⟩
theorem oG (va vb:Value) (x y:Int) (w:World) (ha:Whole w va x) (hb:Whole w vb y) (hx:size x.natAbs≤536870912) (hy:size y.natAbs≤1099511627776) :
  Calls Tryz.prog 154 #[va,vb] w fun e w'=>∃ v,e=.returned v∧Whole w' v (x.tdiv y)∧Kept w w':=by
 have mq:=K7 fun w' (hk:Kept w w')=>ky va vb x y w' (ha.kept hk) (hb.kept hk) hx hy
 obtain⟨l1,rfl,_⟩:=ha
 obtain⟨l2,rfl,_⟩:=hb
 clear hx hy
 generalize decide (x<0)=s1 at *
 generalize decide (y<0)=s2 at *
 go_enter Tryz.func154,Tryz.ntmps154
 go_wp2_with fail
 obtain⟨hk,hB1,hB2,hB3⟩:=cO w [.bool s1,l1] [.bool s2,l2] 95 95 95 [.bool false,.slice none 0 0]
 generalize ((w.alloc (.cells [.bool s1,l1].toArray _)).alloc (.cells [.bool s2,l2].toArray _)).alloc (.cells [.bool false,.slice none 0 0].toArray _)=w2 at *
 refine (mq.out _ hk).mono ?_
 rintro e w3 ⟨v1,v2,rfl,hv1,hv2,hk3⟩
 obtain⟨_,rfl,a3,k3,rfl,_⟩:=id hv1
 obtain⟨_,rfl,a4,k4,rfl,_⟩:=id hv2
 generalize size (x.tdiv y).natAbs=m1 at *
 generalize size (x.tmod y).natAbs=m2 at *
 generalize decide (x.tdiv y<0)=t1 at *
 generalize decide (x.tmod y<0)=t2 at *
 replace hk:=Kept.comp _ _ _ hk hk3
 replace hB3:=hB3.kept hk3
 clear mq hB1 hB2 hv2 hk3
 obtain⟨kk,b1,b2⟩:=bp w3 [.bool t1,.slice a3 m1 k3] [.bool t2,.slice a4 m2 k4] 95 95
 have hC3:=hB3.kept kk
 have hC1:=hv1.kept kk
 have hkk:=Kept.comp _ _ _ hk kk
 have r0:=hC3.cell 0 rfl
 have r1:=hC3.cell 1 rfl
 have f0:=hC3.free 0
 have f1:=hC3.free 1
 have hlt:=hB3.lt
 go_wp2
 obtain⟨p0,p1,p2,p3⟩:=aP hC3 (by omega) hkk hC1
 exact bodyPost_ret (v:=.agg #[.bool t1,.slice a3 m1 k3]) (by simp[results,Tryz.results154,go_sem,p0,p1]) rfl ⟨_,rfl,p2,p3⟩
end Go.Proofs.YtjbcmmaniphkkaaGreatDoor
namespace Go.Proofs.YtjbcmmaniphkkaaGreatDoor
open Go.RowKit LimbNum
theorem Lim.unique {w:World} {v:Value} {m n:Nat} (h:Lim w v m) (k:Lim w v n):m=n:=by
 obtain⟨a,c,rfl,_,hr⟩:=h
 obtain⟨a',c',he,_,kr⟩:=k
 simp only[Value.slice.injEq] at he
 obtain⟨rfl,hs,rfl⟩:=he
 have hl:ai m=ai n:=by
  rcases hr with ⟨ha,hn⟩|⟨b,o,ha,hb,hc⟩
  ·rcases kr with ⟨_,kn⟩|⟨b',o',ha',_⟩
   ·rw[hn,kn]
   ·rw[ha] at ha';cases ha'
  ·rcases kr with ⟨ha',_⟩|⟨b',o',ha',hb',hc'⟩
   ·rw[ha] at ha';cases ha'
   ·rw[ha] at ha'
    cases ha'
    have hll:(ai m).length=(ai n).length:=hs
    apply List.ext_getElem hll
    intro i h1 h2
    have e1:=hc i h1
    have e2:=hc' i h2
    rw[e1] at e2
    simp only[K5,Value.int.injEq,true_and] at e2
    rw[bf h1,bf h2] at e2
    omega
 rw[←au m,←au n,hl]
open Classical in
noncomputable def numOf (w:World) (v:Value):Nat:=if h:∃ n,Lim w v n then h.choose else 0
theorem ct {w:World} {v:Value} {n:Nat} (h:Lim w v n):numOf w v=n:=by
 have he:∃ n,Lim w v n:=⟨n,h⟩
 unfold numOf
 rw[dif_pos he]
 exact he.choose_spec.unique h
theorem vh {w:World} {v:Value} {n:Nat} (h:Lim w v n) (hs:size n=1):∃ b o c,v=.slice (some ⟨b,o,none⟩) 1 c∧w.cell? ⟨b,o,none⟩=some (.int .u64 (n:Int))∧0<n∧n<LimbNum.B∧b<w.heap.size:=by
 have hB:n<LimbNum.B:=by have:=lt_size n;rw[hs,Nat.pow_one] at this;exact this
 have h0:n≠0:=LimbNum.size_pos.1 (by omega)
 have e:ai n=[n]:=by rw[br h0,Nat.mod_eq_of_lt hB,Nat.div_eq_of_lt hB,bc]
 obtain⟨a,c,rfl,_,hr⟩:=h
 rw[hs]
 rcases hr with ⟨_,hn⟩|⟨b,o,rfl,hbs,hc⟩
 ·rw[e] at hn;cases hn
 ·refine ⟨b,o,c,rfl,?_,by omega,hB,hbs⟩
  have:=hc 0 (by rw[e];simp)
  rw[e] at this
  exact this
theorem iv {w:World} {l:Value} {n:Nat} (h:Lim w l n):Whole w (.agg #[.bool false,l]) (n:Int):=
 ⟨l,by rw[show decide ((n:Int)<0)=false by simp],by rw[Int.natAbs_natCast];exact h⟩
theorem dQ (va vb:Value) (x y:Int) (w:World) (ha:Whole w va x) (hb:Whole w vb y) (hx:size x.natAbs≤268435456) (hy:size y.natAbs≤268435456) :
  Calls Tryz.prog 147 #[va,vb] w fun e w'=>∃ v,e=.returned v∧Whole w' v ((Nat.gcd x.natAbs y.natAbs:Nat):Int)∧Kept w w':=by
 obtain⟨l1,rfl,h1⟩:=ha
 obtain⟨l2,rfl,h2⟩:=hb
 have mc:=K7 fun w' (hk:Kept w w')=>aV l1 l2 x.natAbs y.natAbs w' (h1.kept hk) (h2.kept hk) (by omega)
 have H1:=K7 h1
 have H2:=K7 h2
 have HX:=K7 hx
 have HY:=K7 hy
 clear h1 h2 hx hy
 generalize x.natAbs=X0 at *
 generalize y.natAbs=Y0 at *
 generalize decide (x<0)=s1 at *
 generalize decide (y<0)=s2 at *
 by_cases hlt:X0<Y0
 ·rw[show ord X0 Y0 = -1 by simp[ord,hlt]] at mc
  have hle:=K7 (show X0≤Y0 by omega)
  clear hlt
  go_enter Tryz.func147,Tryz.ntmps147
  go_wp2_with fail
  obtain⟨hk,hB1,hB2,hB3⟩:=cO w [.bool s1,l1] [.bool s2,l2] 95 95 95 [.bool false,.slice none 0 0]
  generalize ((w.alloc (.cells [.bool s1,l1].toArray _)).alloc (.cells [.bool s2,l2].toArray _)).alloc (.cells [.bool false,.slice none 0 0].toArray _)=w2 at *
  refine aj 6 [.is (.pointer (some ⟨w.heap.size,1,none⟩)),.is l1,.is (.pointer (some ⟨w.heap.size+1,1,none⟩)),.is l2,.is l1,.is l2] [0,1,2,3,4,5] (by kernel_rfl) (by kernel_rfl) (by kernel_rfl) (by kernel_rfl) (by kernel_rfl) (by kernel_rfl) (by intro f;simp only[laid,List.foldl_cons,List.foldl_nil,List.getElem?_toArray,K9,K8,Option.bind_some,Act.put,List.setIfInBounds_toArray,List.set_cons_zero,List.set_cons_succ];rfl) ?_ ?_
  ·intro i o him ho f wi hki hdep
   have c2:=(hB1.kept hki).cell 1 rfl
   have c4:=(hB2.kept hki).cell 1 rfl
   rcases i with _|_|_|_|_|_|i
   ·cases so ho
    refine ae.value (.pointer (some ⟨w.heap.size,1,none⟩)) ?_ (aa rfl)
    go_simp
   ·cases so ho
    have d0:=hdep ⟨0,.data⟩ (by simp) rfl
    simp only[af,K9] at d0
    refine ae.value l1 ?_ (aa rfl)
    go_simp
   ·cases so ho
    refine ae.value (.pointer (some ⟨w.heap.size+1,1,none⟩)) ?_ (aa rfl)
    go_simp
   ·cases so ho
    have d2:=hdep ⟨2,.data⟩ (by simp) rfl
    simp only[af,K9,K8] at d2
    refine ae.value l2 ?_ (aa rfl)
    go_simp
   ·cases so ho
    have d1:=hdep ⟨1,.data⟩ (by simp) rfl
    simp only[af,K9,K8] at d1
    refine ae.value l1 ?_ (aa rfl)
    go_simp
   ·cases so ho
    have d3:=hdep ⟨3,.data⟩ (by simp) rfl
    simp only[af,K9,K8] at d3
    refine ae.value l2 ?_ (aa rfl)
    go_simp
   ·omega
  ·intro f wi hki hall
   have e4:=hall 4 (by decide)
   have e5:=hall 5 (by decide)
   simp only[af,K9,K8] at e4 e5
   clear hall
   rw[e4,e5]
   clear e4 e5
   simp only[List.drop_succ_cons,List.drop_nil]
   replace hk:=Kept.comp _ _ _ hk hki
   replace hB3:=hB3.kept hki
   go_wp2_with fail
   refine (mc.out _ hk).mono ?_
   rintro e w5 ⟨rfl,q,rfl⟩
   have hkq:Kept wi (wi.drewN q):=al (Below.refl _ _) q
   replace hk:=Kept.comp _ _ _ hk hkq
   replace hB3:=hB3.kept hkq
   have hL1:=H2.out.kept hk
   have hL2:=H1.out.kept hk
   generalize wi.drewN q=w6 at *
   clear hkq hki mc hB1 hB2
   go_wp2_with fail
   go_loopw [5,6] (fun u v wr=>∃ X Y:Nat,Lim wr u X∧Lim wr v Y∧Hid (Y≤X∧Nat.gcd X Y=Nat.gcd X0 Y0∧size X≤268435456)∧Blk wr (w.heap.size+1+1) 95 [.bool false,.slice none 0 0]∧Below w.heap.size w wr) (fun _ v wr=>numOf wr v)
   case atStart=>exact⟨Y0,X0,hL1,hL2,K7 ⟨hle.out,Nat.gcd_comm _ _,HY.out⟩,hB3,hk⟩
   case round=>
    obtain⟨X,Y,hu,hv,HD,hB,hbel⟩:=hrel
    have hX:=HD.out.2.2
    have hYX:=aK HD.out.1
    by_cases hbig:1<size Y
    ·have hm:=K7 (nX _ _ X Y wr hu hv hX hbig HD.out.1)
     have hnum:=K7 (ct hv)
     have hd:decide ((size Y:Int)>1)=true:=by simp;omega
     obtain⟨a2,c2,rfl,_,_⟩:=id hv
     clear hX hYX hbig
     generalize size Y=ny at *
     go_wp2_with fail
     refine (hm.out).mono ?_
     rintro e w7 ⟨v1,v2,a,b,rfl,ha7,hb7,hh,hk7⟩
     go_wp2_with fail
     go_roundw
     case rel=>exact⟨a,b,ha7,hb7,K7 ⟨hh.out.1,by rw[hh.out.2.2.2];exact HD.out.2.1,Nat.le_trans (aK (Nat.le_trans hh.out.2.2.1 HD.out.1)) HD.out.2.2⟩,hB.kept hk7,Below.trans hbel (hk7.mono hbel.size)⟩
     case measure=>rw[ct hb7,hnum.out];exact hh.out.2.1
    ·have hd:decide ((size Y:Int)>1)=false:=by simp;omega
     by_cases hz:Y=0
     ·subst hz
      obtain⟨a2,c2,rfl,_,_⟩:=hv
      rw[show size 0=0 from rfl] at *
      have hg:=HD.out.2.1
      rw[Nat.gcd_zero_right] at hg
      rw[hg] at hu
      have hw8:=iv hu
      obtain⟨a1,c1,rfl,_,_⟩:=id hu
      have HG:=K7 hw8
      have r0:=hB.cell 0 rfl
      have r1:=hB.cell 1 rfl
      have f0:=hB.free 0
      have f1:=hB.free 1
      clear hX hYX hbig hg hw8
      generalize size (X0.gcd Y0)=ng at *
      go_wp2
      obtain⟨p0,p1,p2,p3⟩:=aP hB (by omega) hbel HG.out
      exact bodyPost_ret (v:=.agg #[.bool false,.slice a1 ng c1]) (by simp[results,Tryz.results147,go_sem,p0,p1]) rfl ⟨_,rfl,p2,p3⟩
     ·have hs1:size Y=1:=by have:=LimbNum.size_pos.2 hz;omega
      obtain⟨b2,o2,c2,rfl,hc2,hY0,hYB,hb2⟩:=vh hv hs1
      have hds:=K7 (dK _ X Y wr hu (by omega) hY0 hYB)
      have hg:Nat.gcd Y (X%Y)=Nat.gcd X0 Y0:=by rw[←HD.out.2.1,Nat.gcd_comm X Y,Nat.gcd_rec Y X,Nat.gcd_comm]
      have hsd:=K7 (fun w'=>iq Y (X%Y) w')
      rw[hg] at hsd
      have hgp:0<Nat.gcd X0 Y0:=by rw[←hg];exact Nat.gcd_pos_of_pos_left _ hY0
      have hgB:Nat.gcd X0 Y0<LimbNum.B:=by rw[←hg];exact Nat.lt_of_le_of_lt (Nat.gcd_le_left _ hY0) hYB
      have HG:=K7 hgp
      have HGB:=K7 hgB
      clear hX hYX hbig hg hgp hgB hd hz hs1 hv
      generalize hGe:X0.gcd Y0=G at *
      generalize X%Y=R at *
      have HE:=K7 hGe
      clear hGe
      go_wp2_with fail
      refine (hds.out).mono ?_
      rintro e w7 ⟨v1,rfl,_,hk7⟩
      have hc7:=(Below.cell hk7 (p:=⟨b2,o2,none⟩) hb2).trans hc2
      replace hB:=hB.kept hk7
      replace hbel:Kept w w7:=Below.trans hbel (hk7.mono hbel.size)
      clear hds hc2 hu hk7
      go_wp2_with fail
      refine (hsd.out _).mono ?_
      rintro e w8 ⟨rfl,q,rfl⟩
      have hkq:Kept w7 (w7.drewN q):=al (Below.refl _ _) q
      replace hB:=hB.kept hkq
      replace hbel:=Kept.comp _ _ _ hbel hkq
      generalize w7.drewN q=w9 at *
      have ka:=ak w9 (.cells [.int .u64 (G:Int)].toArray 232)
      have ba:=aJ w9 232 [.int .u64 (G:Int)]
      have hl:=oL HG.out HGB.out ba
      have hlt:=hB.lt
      have hC:=hB.kept ka
      have r0:=hB.cell 0 rfl
      have r1:=hB.cell 1 rfl
      have f0:=hB.free 0
      have f1:=hB.free 1
      go_wp2
      obtain⟨p0,p1,p2,p3⟩:=aP hC (by omega) (Kept.comp _ _ _ hbel ka) (iv hl)
      rw[World.setCell_alloc_past _ _ _ _ hlt,World.setCell_alloc_past _ _ _ _ (by simpa [World.setCell] using hlt)] at p0 p1 p2 p3
      exact bodyPost_ret (v:=.agg #[.bool false,.slice (some ⟨w9.heap.size,0,none⟩) 1 1]) (by simp[results,Tryz.results147,go_sem,p0,p1]) rfl ⟨_,rfl,by rw[HE.out];exact p2,p3⟩
 ·have hor:decide (ord X0 Y0<0)=false:=by
   unfold ord
   rw[if_neg hlt]
   split<;>simp
  generalize ord X0 Y0=o at *
  have hle:=K7 (show Y0≤X0 by omega)
  clear hlt
  go_enter Tryz.func147,Tryz.ntmps147
  go_wp2_with fail
  obtain⟨hk,hB1,hB2,hB3⟩:=cO w [.bool s1,l1] [.bool s2,l2] 95 95 95 [.bool false,.slice none 0 0]
  generalize ((w.alloc (.cells [.bool s1,l1].toArray _)).alloc (.cells [.bool s2,l2].toArray _)).alloc (.cells [.bool false,.slice none 0 0].toArray _)=w2 at *
  refine aj 6 [.is (.pointer (some ⟨w.heap.size,1,none⟩)),.is l1,.is (.pointer (some ⟨w.heap.size+1,1,none⟩)),.is l2,.is l1,.is l2] [0,1,2,3,4,5] (by kernel_rfl) (by kernel_rfl) (by kernel_rfl) (by kernel_rfl) (by kernel_rfl) (by kernel_rfl) (by intro f;simp only[laid,List.foldl_cons,List.foldl_nil,List.getElem?_toArray,K9,K8,Option.bind_some,Act.put,List.setIfInBounds_toArray,List.set_cons_zero,List.set_cons_succ];rfl) ?_ ?_
  ·intro i o him ho f wi hki hdep
   have c2:=(hB1.kept hki).cell 1 rfl
   have c4:=(hB2.kept hki).cell 1 rfl
   rcases i with _|_|_|_|_|_|i
   ·cases so ho
    refine ae.value (.pointer (some ⟨w.heap.size,1,none⟩)) ?_ (aa rfl)
    go_simp
   ·cases so ho
    have d0:=hdep ⟨0,.data⟩ (by simp) rfl
    simp only[af,K9] at d0
    refine ae.value l1 ?_ (aa rfl)
    go_simp
   ·cases so ho
    refine ae.value (.pointer (some ⟨w.heap.size+1,1,none⟩)) ?_ (aa rfl)
    go_simp
   ·cases so ho
    have d2:=hdep ⟨2,.data⟩ (by simp) rfl
    simp only[af,K9,K8] at d2
    refine ae.value l2 ?_ (aa rfl)
    go_simp
   ·cases so ho
    have d1:=hdep ⟨1,.data⟩ (by simp) rfl
    simp only[af,K9,K8] at d1
    refine ae.value l1 ?_ (aa rfl)
    go_simp
   ·cases so ho
    have d3:=hdep ⟨3,.data⟩ (by simp) rfl
    simp only[af,K9,K8] at d3
    refine ae.value l2 ?_ (aa rfl)
    go_simp
   ·omega
  ·intro f wi hki hall
   have e4:=hall 4 (by decide)
   have e5:=hall 5 (by decide)
   simp only[af,K9,K8] at e4 e5
   clear hall
   rw[e4,e5]
   clear e4 e5
   simp only[List.drop_succ_cons,List.drop_nil]
   replace hk:=Kept.comp _ _ _ hk hki
   replace hB3:=hB3.kept hki
   go_wp2_with fail
   refine (mc.out _ hk).mono ?_
   rintro e w5 ⟨rfl,q,rfl⟩
   have hkq:Kept wi (wi.drewN q):=al (Below.refl _ _) q
   replace hk:=Kept.comp _ _ _ hk hkq
   replace hB3:=hB3.kept hkq
   have hL1:=H1.out.kept hk
   have hL2:=H2.out.kept hk
   generalize wi.drewN q=w6 at *
   clear hkq hki mc hB1 hB2
   go_wp2_with fail
   go_loopw [5,6] (fun u v wr=>∃ X Y:Nat,Lim wr u X∧Lim wr v Y∧Hid (Y≤X∧Nat.gcd X Y=Nat.gcd X0 Y0∧size X≤268435456)∧Blk wr (w.heap.size+1+1) 95 [.bool false,.slice none 0 0]∧Below w.heap.size w wr) (fun _ v wr=>numOf wr v)
   case atStart=>exact⟨X0,Y0,hL1,hL2,K7 ⟨hle.out,rfl,HX.out⟩,hB3,hk⟩
   case round=>
    obtain⟨X,Y,hu,hv,HD,hB,hbel⟩:=hrel
    have hX:=HD.out.2.2
    have hYX:=aK HD.out.1
    by_cases hbig:1<size Y
    ·have hm:=K7 (nX _ _ X Y wr hu hv hX hbig HD.out.1)
     have hnum:=K7 (ct hv)
     have hd:decide ((size Y:Int)>1)=true:=by simp;omega
     obtain⟨a2,c2,rfl,_,_⟩:=id hv
     clear hX hYX hbig
     generalize size Y=ny at *
     go_wp2_with fail
     refine (hm.out).mono ?_
     rintro e w7 ⟨v1,v2,a,b,rfl,ha7,hb7,hh,hk7⟩
     go_wp2_with fail
     go_roundw
     case rel=>exact⟨a,b,ha7,hb7,K7 ⟨hh.out.1,by rw[hh.out.2.2.2];exact HD.out.2.1,Nat.le_trans (aK (Nat.le_trans hh.out.2.2.1 HD.out.1)) HD.out.2.2⟩,hB.kept hk7,Below.trans hbel (hk7.mono hbel.size)⟩
     case measure=>rw[ct hb7,hnum.out];exact hh.out.2.1
    ·have hd:decide ((size Y:Int)>1)=false:=by simp;omega
     by_cases hz:Y=0
     ·subst hz
      obtain⟨a2,c2,rfl,_,_⟩:=hv
      rw[show size 0=0 from rfl] at *
      have hg:=HD.out.2.1
      rw[Nat.gcd_zero_right] at hg
      rw[hg] at hu
      have hw8:=iv hu
      obtain⟨a1,c1,rfl,_,_⟩:=id hu
      have HG:=K7 hw8
      have r0:=hB.cell 0 rfl
      have r1:=hB.cell 1 rfl
      have f0:=hB.free 0
      have f1:=hB.free 1
      clear hX hYX hbig hg hw8
      generalize size (X0.gcd Y0)=ng at *
      go_wp2
      obtain⟨p0,p1,p2,p3⟩:=aP hB (by omega) hbel HG.out
      exact bodyPost_ret (v:=.agg #[.bool false,.slice a1 ng c1]) (by simp[results,Tryz.results147,go_sem,p0,p1]) rfl ⟨_,rfl,p2,p3⟩
     ·have hs1:size Y=1:=by have:=LimbNum.size_pos.2 hz;omega
      obtain⟨b2,o2,c2,rfl,hc2,hY0,hYB,hb2⟩:=vh hv hs1
      have hds:=K7 (dK _ X Y wr hu (by omega) hY0 hYB)
      have hg:Nat.gcd Y (X%Y)=Nat.gcd X0 Y0:=by rw[←HD.out.2.1,Nat.gcd_comm X Y,Nat.gcd_rec Y X,Nat.gcd_comm]
      have hsd:=K7 (fun w'=>iq Y (X%Y) w')
      rw[hg] at hsd
      have hgp:0<Nat.gcd X0 Y0:=by rw[←hg];exact Nat.gcd_pos_of_pos_left _ hY0
      have hgB:Nat.gcd X0 Y0<LimbNum.B:=by rw[←hg];exact Nat.lt_of_le_of_lt (Nat.gcd_le_left _ hY0) hYB
      have HG:=K7 hgp
      have HGB:=K7 hgB
      clear hX hYX hbig hg hgp hgB hd hz hs1 hv
      generalize hGe:X0.gcd Y0=G at *
      generalize X%Y=R at *
      have HE:=K7 hGe
      clear hGe
      go_wp2_with fail
      refine (hds.out).mono ?_
      rintro e w7 ⟨v1,rfl,_,hk7⟩
      have hc7:=(Below.cell hk7 (p:=⟨b2,o2,none⟩) hb2).trans hc2
      replace hB:=hB.kept hk7
      replace hbel:Kept w w7:=Below.trans hbel (hk7.mono hbel.size)
      clear hds hc2 hu hk7
      go_wp2_with fail
      refine (hsd.out _).mono ?_
      rintro e w8 ⟨rfl,q,rfl⟩
      have hkq:Kept w7 (w7.drewN q):=al (Below.refl _ _) q
      replace hB:=hB.kept hkq
      replace hbel:=Kept.comp _ _ _ hbel hkq
      generalize w7.drewN q=w9 at *
      have ka:=ak w9 (.cells [.int .u64 (G:Int)].toArray 232)
      have ba:=aJ w9 232 [.int .u64 (G:Int)]
      have hl:=oL HG.out HGB.out ba
      have hlt:=hB.lt
      have hC:=hB.kept ka
      have r0:=hB.cell 0 rfl
      have r1:=hB.cell 1 rfl
      have f0:=hB.free 0
      have f1:=hB.free 1
      go_wp2
      obtain⟨p0,p1,p2,p3⟩:=aP hC (by omega) (Kept.comp _ _ _ hbel ka) (iv hl)
      rw[World.setCell_alloc_past _ _ _ _ hlt,World.setCell_alloc_past _ _ _ _ (by simpa [World.setCell] using hlt)] at p0 p1 p2 p3
      exact bodyPost_ret (v:=.agg #[.bool false,.slice (some ⟨w9.heap.size,0,none⟩) 1 1]) (by simp[results,Tryz.results147,go_sem,p0,p1]) rfl ⟨_,rfl,by rw[HE.out];exact p2,p3⟩
end Go.Proofs.YtjbcmmaniphkkaaGreatDoor
