import Derived.Test.YtjbcmmaniphkkaaGreatDoorEd
set_option linter.unusedSectionVars false
set_option linter.unusedVariables false
set_option linter.unusedSimpArgs false
set_option maxRecDepth 100000
set_option maxHeartbeats 2000000
namespace Go.Proofs.YtjbcmmaniphkkaaGreatDoor.E
open Go.RowKit LimbNum
theorem BL (v1 v2:Value) (x y:Rat) (k l:Nat) (w:World) (hx:Ex w v1 x) (hy:Ex w v2 y) (bx:DigNum.Bd x k) (bl:DigNum.Bd y l) (hkk:k≤1000000) (hll:l≤1000000) :
  Calls Tryz.prog 76 #[v1,v2] w fun e w'=>e=.returned (.int .i64 (x-y).num.sign)∧Kept w w':=by
 have:=sG v1 v2 x y k l w hx hy bx bl hkk hll
 rwa [show je (x.num*y.den) (y.num*x.den)=(x-y).num.sign from DigNum.Fy x y] at this
end Go.Proofs.YtjbcmmaniphkkaaGreatDoor.E
namespace Go.Proofs.YtjbcmmaniphkkaaGreatDoor.E
open Go.RowKit LimbNum
def wJ (x:Rat):Rat:=if x.num<0 then -x else x
theorem qo (x:Rat):(wJ x).num=(x.num.natAbs:Int)∧(wJ x).den=x.den:=by
 unfold wJ
 by_cases h:x.num<0
 ·rw[if_pos h]
  exact⟨by rw[Rat.neg_num];omega,Rat.neg_den x⟩
 ·rw[if_neg h]
  exact⟨by omega,rfl⟩
theorem BJ (v:Value) (x:Rat) (k:Nat) (w:World) (h:Ex w v x) (hb:DigNum.Bd x k) (hk:k≤1000000) :
  Calls Tryz.prog 227 #[v] w fun e w'=>∃ v,e=.returned v∧Ex w' v (wJ x)∧Kept w w':=by
 have hsz:size x.num.natAbs≤1000000:=Nat.le_trans (aK hb.1) hk
 clear hb hk
 obtain⟨s1,a1,n1,c1,s2,a2,n2,c2,rfl⟩:=bB h
 have h1:=h.both.1
 have h2:=h.both.2
 obtain⟨hk,hB1,hB⟩:=bg w [.bool s1,.slice a1 n1 c1,.bool s2,.slice a2 n2 c2] eu 97 97
 have HN:=K7 fun w' (h:Whole w' (.agg #[.bool s1,.slice a1 n1 c1]) x.num)=>oC _ x.num w' h (by omega)
 have HX:=K7 fun w' s a n c (g1:Whole w' (.agg #[.bool s,.slice a n c]) (x.num.natAbs:Int)) (g2:Whole w' (.agg #[.bool s2,.slice a2 n2 c2]) x.den∨(x.den=1∧Whole w' (.agg #[.bool s2,.slice a2 n2 c2]) 0))=>(show Ex w' (.agg #[.bool s,.slice a n c,.bool s2,.slice a2 n2 c2]) (wJ x) from ⟨_,_,_,_,_,_,_,_,rfl,by rw[(qo x).1];exact g1,by rw[(qo x).2];exact g2⟩)
 clear h hsz
 go_enter Tryz.func227,Tryz.ntmps227
 go_wp2_with fail
 generalize (w.alloc (.cells [.bool s1,.slice a1 n1 c1,.bool s2,.slice a2 n2 c2].toArray _)).alloc (.cells eu.toArray _)=w2 at *
 refine ai 6 [.is (.pointer (some ⟨w.heap.size,0,none⟩)),.is (.agg #[.bool s1,.slice a1 n1 c1]),.int (x.num.natAbs:Int),.is (.pointer (some ⟨w.heap.size,2,none⟩)),.is (.agg #[.bool s2,.slice a2 n2 c2]),.num (wJ x)] [0,1,2,3,4,5] (by kernel_rfl) (by kernel_rfl) (by kernel_rfl) (by kernel_rfl) (by kernel_rfl) (by kernel_rfl) (by intro f;simp only[laid,List.foldl_cons,List.foldl_nil,List.getElem?_toArray,K9,K8,Option.bind_some,Act.put,List.setIfInBounds_toArray,List.set_cons_zero,List.set_cons_succ];rfl) ?_ ?_
 ·intro i o him ho f wi hki hdep
  have q0:=(hB1.kept hki).cell 0 rfl
  have q1:=(hB1.kept hki).cell 1 rfl
  have q2:=(hB1.kept hki).cell 2 rfl
  have q3:=(hB1.kept hki).cell 3 rfl
  rcases i with _|_|_|_|_|_|i
  ·cases so ho
   refine ae.value (.pointer (some ⟨w.heap.size,0,none⟩)) ?_ (aa rfl)
   go_simp
  ·cases so ho
   have d0:=hdep ⟨0,.data⟩ (by simp) rfl
   simp only[af,K9] at d0
   refine ae.value (.agg #[.bool s1,.slice a1 n1 c1]) ?_ (aa rfl)
   go_simp
  ·cases so ho
   have d1:=hdep ⟨1,.data⟩ (by simp) rfl
   simp only[af,K9,K8] at d1
   refine ae.call 252 #[.agg #[.bool s1,.slice a1 n1 c1]] (by go_simp) ((HN.out wi (h1.kept (Kept.comp _ _ _ hk hki))).mono ?_)
   rintro e w7 ⟨v,rfl,hv,hk7⟩
   exact⟨v,rfl,hv,hk7,trivial⟩
  ·cases so ho
   refine ae.value (.pointer (some ⟨w.heap.size,2,none⟩)) ?_ (aa rfl)
   go_simp
  ·cases so ho
   have d3:=hdep ⟨3,.data⟩ (by simp) rfl
   simp only[af,K9,K8] at d3
   refine ae.value (.agg #[.bool s2,.slice a2 n2 c2]) ?_ (aa rfl)
   go_simp
  ·cases so ho
   have d2:=hdep ⟨2,.data⟩ (by simp) rfl
   have d4:=hdep ⟨4,.data⟩ (by simp) rfl
   simp only[af,K9,K8] at d2 d4
   obtain⟨s5,a5,n5,c5,e5⟩:=aN d2
   rw[e5] at d2
   refine ae.value (.agg #[.bool s5,.slice a5 n5 c5,.bool s2,.slice a2 n2 c2]) ?_ ⟨HX.out _ _ _ _ _ d2 (h2.imp (fun h=>h.kept (Kept.comp _ _ _ hk hki)) fun h=>⟨h.1,h.2.kept (Kept.comp _ _ _ hk hki)⟩),Kept.rfl' _,trivial⟩
   simp only[e5]
   go_simp
  ·omega
 ·intro f wi hki hall hap
  have hv:=hall 5 (by decide)
  simp only[af,K9,K8] at hv
  clear hall hap
  obtain⟨s3,a3,n3,c3,s4,a4,n4,c4,e3⟩:=bB hv
  rw[e3] at hv
  simp only[List.drop_succ_cons,List.drop_zero]
  rw[e3]
  have hk:=Kept.comp _ _ _ hk hki
  have hB:=hB.kept hki
  have r0:=hB.cell 0 rfl
  have r1:=hB.cell 1 rfl
  have r2:=hB.cell 2 rfl
  have r3:=hB.cell 3 rfl
  have f0:=hB.free 0
  have f1:=hB.free 1
  have f2:=hB.free 2
  have f3:=hB.free 3
  clear HN HX
  go_wp2
  obtain⟨rB,rv,rk⟩:=xW (w:=w) hB (by omega) hk hv
  have p0:=rB.cell 0 rfl
  have p1:=rB.cell 1 rfl
  have p2:=rB.cell 2 rfl
  have p3:=rB.cell 3 rfl
  exact bodyPost_ret (v:=.agg #[.bool s3,.slice a3 n3 c3,.bool s4,.slice a4 n4 c4]) (by simp[results,Tryz.results227,go_sem,p0,p1,p2,p3]) rfl ⟨_,rfl,rv,rk⟩
theorem ug (v:Value) (x:Rat) (k:Nat) (w:World) (h:Ex w v x) (hb:DigNum.Bd x k) (hk:k≤1000000) :
  Calls Tryz.prog 174 #[v] w fun e w'=>∃ v,e=.returned v∧Ex w' v (x*x)∧Kept w w':=by
 have e1:=hb.1
 have e2:=DigNum.dB hb.2
 have f1:=DigNum.cJ e1 e1
 have f2:=DigNum.cJ e2 e2
 have sq1:(x*x).num=x.num*x.num:=by
  rw[Rat.num_mul,show ((x.num*x.num).natAbs.gcd (x.den*x.den))=1 from by rw[Int.natAbs_mul];exact (x.reduced.mul_left x.reduced).mul_right (x.reduced.mul_left x.reduced)];simp
 have sq2:(x*x).den=x.den*x.den:=by
  rw[Rat.den_mul,show ((x.num*x.num).natAbs.gcd (x.den*x.den))=1 from by rw[Int.natAbs_mul];exact (x.reduced.mul_left x.reduced).mul_right (x.reduced.mul_left x.reduced)];simp
 obtain⟨s1,a1,n1,c1,s2,a2,n2,c2,rfl⟩:=bB h
 have h1:=h.both.1
 have h2:=h.both.2
 have key:∃ z:Int,Whole w (.agg #[.bool s2,.slice a2 n2 c2]) z∧z.natAbs<10^k∧∀ w' s a n c s' a' n' c',Whole w' (.agg #[.bool s,.slice a n c]) (x.num*x.num)→Whole w' (.agg #[.bool s',.slice a' n' c']) (z*z)→Ex w' (.agg #[.bool s,.slice a n c,.bool s',.slice a' n' c']) (x*x):=by
  rcases h2 with h2|⟨hd,h2⟩
  ·exact⟨x.den,h2,e2,fun w' s a n c s' a' n' c' g1 g2=>oF (by rw[sq1];exact g1) (by rw[sq2,Int.natCast_mul];exact g2)⟩
  ·exact⟨0,h2,Nat.pow_pos (by decide),fun w' s a n c s' a' n' c' g1 g2=>⟨_,_,_,_,_,_,_,_,rfl,by rw[sq1];exact g1,.inr ⟨by rw[sq2,hd],g2⟩⟩⟩
 obtain⟨z,h2,ez,HX⟩:=key
 have fz:=DigNum.cJ ez ez
 have HX:=K7 HX
 have M1:=K7 fun w' (g:Whole w' (.agg #[.bool s1,.slice a1 n1 c1]) x.num)=>cI _ _ x.num x.num w' g g (Nat.le_trans (aK e1) (by omega)) (Nat.le_trans (aK e1) (by omega)) (Nat.le_trans (aK f1) (by omega))
 have M2:=K7 fun w' (g:Whole w' (.agg #[.bool s2,.slice a2 n2 c2]) z)=>cI _ _ z z w' g g (Nat.le_trans (aK ez) (by omega)) (Nat.le_trans (aK ez) (by omega)) (Nat.le_trans (aK fz) (by omega))
 clear hb hk e1 e2 f1 f2 ez fz sq1 sq2 h
 obtain⟨hk,hB1,hB⟩:=bg w [.bool s1,.slice a1 n1 c1,.bool s2,.slice a2 n2 c2] eu 97 97
 go_enter Tryz.func174,Tryz.ntmps174
 go_wp2_with fail
 generalize (w.alloc (.cells [.bool s1,.slice a1 n1 c1,.bool s2,.slice a2 n2 c2].toArray _)).alloc (.cells eu.toArray _)=w2 at *
 refine ai 11 [.is (.pointer (some ⟨w.heap.size,0,none⟩)),.is (.agg #[.bool s1,.slice a1 n1 c1]),.is (.pointer (some ⟨w.heap.size,0,none⟩)),.is (.agg #[.bool s1,.slice a1 n1 c1]),.int (x.num*x.num),.is (.pointer (some ⟨w.heap.size,2,none⟩)),.is (.agg #[.bool s2,.slice a2 n2 c2]),.is (.pointer (some ⟨w.heap.size,2,none⟩)),.is (.agg #[.bool s2,.slice a2 n2 c2]),.int (z*z),.num (x*x)] [0,1,2,3,4,5,6,7,8,9,10] (by kernel_rfl) (by kernel_rfl) (by kernel_rfl) (by kernel_rfl) (by kernel_rfl) (by kernel_rfl) (by intro f;simp only[laid,List.foldl_cons,List.foldl_nil,List.getElem?_toArray,K9,K8,Option.bind_some,Act.put,List.setIfInBounds_toArray,List.set_cons_zero,List.set_cons_succ];rfl) ?_ ?_
 ·intro i o him ho f wi hki hdep
  have q0:=(hB1.kept hki).cell 0 rfl
  have q1:=(hB1.kept hki).cell 1 rfl
  have q2:=(hB1.kept hki).cell 2 rfl
  have q3:=(hB1.kept hki).cell 3 rfl
  rcases i with _|_|_|_|_|_|_|_|_|_|_|i
  ·cases so ho
   refine ae.value (.pointer (some ⟨w.heap.size,0,none⟩)) ?_ (aa rfl)
   go_simp
  ·cases so ho
   have d0:=hdep ⟨0,.data⟩ (by simp) rfl
   simp only[af,K9] at d0
   refine ae.value (.agg #[.bool s1,.slice a1 n1 c1]) ?_ (aa rfl)
   go_simp
  ·cases so ho
   refine ae.value (.pointer (some ⟨w.heap.size,0,none⟩)) ?_ (aa rfl)
   go_simp
  ·cases so ho
   have d2:=hdep ⟨2,.data⟩ (by simp) rfl
   simp only[af,K9,K8] at d2
   refine ae.value (.agg #[.bool s1,.slice a1 n1 c1]) ?_ (aa rfl)
   go_simp
  ·cases so ho
   have d1:=hdep ⟨1,.data⟩ (by simp) rfl
   have d3:=hdep ⟨3,.data⟩ (by simp) rfl
   simp only[af,K9,K8] at d1 d3
   refine ae.call 81 #[.agg #[.bool s1,.slice a1 n1 c1],.agg #[.bool s1,.slice a1 n1 c1]] (by go_simp) ((M1.out wi (h1.kept (Kept.comp _ _ _ hk hki))).mono ?_)
   rintro e w7 ⟨v,rfl,hv,hk7⟩
   exact⟨v,rfl,hv,hk7,trivial⟩
  ·cases so ho
   refine ae.value (.pointer (some ⟨w.heap.size,2,none⟩)) ?_ (aa rfl)
   go_simp
  ·cases so ho
   have d5:=hdep ⟨5,.data⟩ (by simp) rfl
   simp only[af,K9,K8] at d5
   refine ae.value (.agg #[.bool s2,.slice a2 n2 c2]) ?_ (aa rfl)
   go_simp
  ·cases so ho
   refine ae.value (.pointer (some ⟨w.heap.size,2,none⟩)) ?_ (aa rfl)
   go_simp
  ·cases so ho
   have d7:=hdep ⟨7,.data⟩ (by simp) rfl
   simp only[af,K9,K8] at d7
   refine ae.value (.agg #[.bool s2,.slice a2 n2 c2]) ?_ (aa rfl)
   go_simp
  ·cases so ho
   have d6:=hdep ⟨6,.data⟩ (by simp) rfl
   have d8:=hdep ⟨8,.data⟩ (by simp) rfl
   simp only[af,K9,K8] at d6 d8
   refine ae.call 81 #[.agg #[.bool s2,.slice a2 n2 c2],.agg #[.bool s2,.slice a2 n2 c2]] (by go_simp) ((M2.out wi (h2.kept (Kept.comp _ _ _ hk hki))).mono ?_)
   rintro e w7 ⟨v,rfl,hv,hk7⟩
   exact⟨v,rfl,hv,hk7,trivial⟩
  ·cases so ho
   have d4:=hdep ⟨4,.data⟩ (by simp) rfl
   have d9:=hdep ⟨9,.data⟩ (by simp) rfl
   simp only[af,K9,K8] at d4 d9
   obtain⟨s5,a5,n5,c5,e5⟩:=aN d4
   rw[e5] at d4
   obtain⟨s6,a6,n6,c6,e6⟩:=aN d9
   rw[e6] at d9
   refine ae.value (.agg #[.bool s5,.slice a5 n5 c5,.bool s6,.slice a6 n6 c6]) ?_ ⟨HX.out _ _ _ _ _ _ _ _ _ d4 d9,Kept.rfl' _,trivial⟩
   simp only[e5,e6]
   go_simp
  ·omega
 ·intro f wi hki hall hap
  have hv:=hall 10 (by decide)
  simp only[af,K9,K8] at hv
  clear hall hap
  obtain⟨s3,a3,n3,c3,s4,a4,n4,c4,e3⟩:=bB hv
  rw[e3] at hv
  simp only[List.drop_succ_cons,List.drop_zero]
  rw[e3]
  have hk:=Kept.comp _ _ _ hk hki
  have hB:=hB.kept hki
  have r0:=hB.cell 0 rfl
  have r1:=hB.cell 1 rfl
  have r2:=hB.cell 2 rfl
  have r3:=hB.cell 3 rfl
  have f0:=hB.free 0
  have f1:=hB.free 1
  have f2:=hB.free 2
  have f3:=hB.free 3
  clear M1 M2 HX
  go_wp2
  obtain⟨rB,rv,rk⟩:=xW (w:=w) hB (by omega) hk hv
  have p0:=rB.cell 0 rfl
  have p1:=rB.cell 1 rfl
  have p2:=rB.cell 2 rfl
  have p3:=rB.cell 3 rfl
  exact bodyPost_ret (v:=.agg #[.bool s3,.slice a3 n3 c3,.bool s4,.slice a4 n4 c4]) (by simp[results,Tryz.results174,go_sem,p0,p1,p2,p3]) rfl ⟨_,rfl,rv,rk⟩
end Go.Proofs.YtjbcmmaniphkkaaGreatDoor.E
namespace Go.Proofs.YtjbcmmaniphkkaaGreatDoor
open Go.RowKit LimbNum
theorem uH {x y:Int}:je x y=0↔x=y:=by
 unfold je
 repeat' split<;>omega
theorem wG (v1 v2:Value) (x y:Rat) (k l:Nat) (w:World) (hx:E.Ex w v1 x) (hy:E.Ex w v2 y) (bx:DigNum.Bd x k) (bl:DigNum.Bd y l) (hkk:k≤1000000) (hll:l≤1000000) :
  Calls Tryz.prog 253 #[v1,v2] w fun e w'=>e=.returned (.bool (decide (x=y)))∧Kept w w':=by
 have MB1:=K7 fun v w' (h:E.Ex w' v x)=>E.du v x k w' h bx hkk
 have MB2:=K7 fun v w' (h:E.Ex w' v y)=>E.du v y l w' h bl hll
 have e1:=bx.1
 have e2:=DigNum.dB bx.2
 have e3:=bl.1
 have e4:=DigNum.dB bl.2
 have MC1:=K7 fun va vb w' h1 h2=>fX va vb x.num y.num w' h1 h2 (Nat.le_trans (E.aK e1) (by omega)) (Nat.le_trans (E.aK e3) (by omega))
 have MC2:=K7 fun va vb w' h1 h2=>fX va vb (x.den:Int) (y.den:Int) w' h1 h2 (Nat.le_trans (E.aK e2) (by omega)) (Nat.le_trans (E.aK e4) (by omega))
 clear bx bl e1 e2 e3 e4 hkk hll
 have hz:decide (x=y)=(decide (je x.num y.num=0)&&decide (je (x.den:Int) (y.den:Int)=0)):=by
  rw[←Bool.decide_and]
  congr 1
  rw[uH,uH,eq_iff_iff]
  exact⟨fun h=>by subst h;exact⟨rfl,rfl⟩,fun h=>Rat.ext h.1 (Int.natCast_inj.1 h.2)⟩
 rw[hz]
 clear hz
 obtain⟨s1,a1,n1,c1,s2,a2,n2,c2,rfl⟩:=E.bB hx
 obtain⟨s3,a3,n3,c3,s4,a4,n4,c4,rfl⟩:=E.bB hy
 have h1:=hx.both.1
 have h3:=hy.both.1
 generalize je x.num y.num=p at *
 generalize x.num=a at *
 generalize y.num=c at *
 generalize je (x.den:Int) (y.den:Int)=q at *
 generalize (x.den:Int)=b at *
 generalize (y.den:Int)=d at *
 by_cases hp:p=0
 ·subst hp
  rw[decide_eq_true rfl,Bool.true_and]
  obtain⟨r,hr⟩:∃ r,(q==(0:Int))=r:=⟨_,rfl⟩
  have hq:decide (q=0)=r:=hr
  rw[hq]
  clear hq
  obtain⟨hk,hB1,hB2⟩:=bg w [.bool s1,.slice a1 n1 c1,.bool s2,.slice a2 n2 c2] [.bool s3,.slice a3 n3 c3,.bool s4,.slice a4 n4 c4] 97 97
  go_enter Tryz.func253,Tryz.ntmps253
  go_wp2_with fail
  generalize (w.alloc (.cells [.bool s1,.slice a1 n1 c1,.bool s2,.slice a2 n2 c2].toArray _)).alloc (.cells [.bool s3,.slice a3 n3 c3,.bool s4,.slice a4 n4 c4].toArray _)=w2 at *
  refine bK 14 [.is (.pointer (some ⟨w.heap.size,0,none⟩)),.is (.agg #[.bool s1,.slice a1 n1 c1]),.is (.pointer (some ⟨w.heap.size+1,0,none⟩)),.is (.agg #[.bool s3,.slice a3 n3 c3]),.is (.int .i64 0),.is (.bool true),.is (.bool true),.is (.agg #[.bool s1,.slice a1 n1 c1,.bool s2,.slice a2 n2 c2]),.int b,.is (.agg #[.bool s3,.slice a3 n3 c3,.bool s4,.slice a4 n4 c4]),.int d,.is (.int .i64 q),.is (.bool r),.is (.bool r)] [0,1,2,3,4,5,6,7,8,9,10,11,12,13] (by kernel_rfl) (by kernel_rfl) (by kernel_rfl) (by kernel_rfl) (by kernel_rfl) (by kernel_rfl) (by intro f;simp only[laid,List.foldl_cons,List.foldl_nil,List.getElem?_toArray,K9,K8,Option.bind_some,Act.put,List.setIfInBounds_toArray,List.set_cons_zero,List.set_cons_succ];rfl) ?_ ?_
  ·intro i o him ho f wi hki hdep
   have q0:=(hB1.kept hki).cell 0 rfl
   have q1:=(hB1.kept hki).cell 1 rfl
   have q2:=(hB1.kept hki).cell 2 rfl
   have q3:=(hB1.kept hki).cell 3 rfl
   have r0:=(hB2.kept hki).cell 0 rfl
   have r1:=(hB2.kept hki).cell 1 rfl
   have r2:=(hB2.kept hki).cell 2 rfl
   have r3:=(hB2.kept hki).cell 3 rfl
   rcases i with _|_|_|_|_|_|_|_|_|_|_|_|_|_|i
   ·cases so ho
    refine Or.inl ⟨rfl,?_⟩
    refine ae.value (.pointer (some ⟨w.heap.size,0,none⟩)) ?_ (aa rfl)
    go_simp
   ·cases so ho
    have d0:=hdep ⟨0,.data⟩ (by simp) rfl
    simp only[af,K9] at d0
    refine Or.inl ⟨rfl,?_⟩
    refine ae.value (.agg #[.bool s1,.slice a1 n1 c1]) ?_ (aa rfl)
    go_simp
   ·cases so ho
    refine Or.inl ⟨rfl,?_⟩
    refine ae.value (.pointer (some ⟨w.heap.size+1,0,none⟩)) ?_ (aa rfl)
    go_simp
   ·cases so ho
    have d2:=hdep ⟨2,.data⟩ (by simp) rfl
    simp only[af,K9,K8] at d2
    refine Or.inl ⟨rfl,?_⟩
    refine ae.value (.agg #[.bool s3,.slice a3 n3 c3]) ?_ (aa rfl)
    go_simp
   ·cases so ho
    have d1:=hdep ⟨1,.data⟩ (by simp) rfl
    have d3:=hdep ⟨3,.data⟩ (by simp) rfl
    simp only[af,K9,K8] at d1 d3
    refine Or.inl ⟨rfl,?_⟩
    refine ae.call 155 #[.agg #[.bool s1,.slice a1 n1 c1],.agg #[.bool s3,.slice a3 n3 c3]] (by go_simp) ((MC1.out _ _ wi (h1.kept (Kept.comp _ _ _ hk hki)) (h3.kept (Kept.comp _ _ _ hk hki))).mono ?_)
    rintro e w7 ⟨rfl,hk7⟩
    exact⟨_,rfl,rfl,hk7⟩
   ·cases so ho
    have d4:=hdep ⟨4,.data⟩ (by simp) rfl
    simp only[af,K9,K8] at d4
    refine Or.inl ⟨rfl,?_⟩
    refine ae.value (.bool true) ?_ (aa rfl)
    go_simp
   ·cases so ho
    have d5:=hdep ⟨5,.data⟩ (by simp) rfl
    simp only[af,K9,K8] at d5
    refine Or.inl ⟨rfl,?_⟩
    refine ae.value (.bool true) ?_ (aa rfl)
    go_simp
   ·cases so ho
    have dg:=hdep ⟨6,.guard⟩ (by simp) rfl
    simp only[af,K9,K8] at dg
    refine Or.inl ⟨by simp[Region.wanted,yielded,dg],?_⟩
    refine ae.value (.agg #[.bool s1,.slice a1 n1 c1,.bool s2,.slice a2 n2 c2]) ?_ (aa rfl)
    go_simp
   ·cases so ho
    have d7:=hdep ⟨7,.data⟩ (by simp) rfl
    simp only[af,K9,K8] at d7
    have dg:=hdep ⟨6,.guard⟩ (by simp) rfl
    simp only[af,K9,K8] at dg
    refine Or.inl ⟨by simp[Region.wanted,yielded,dg],?_⟩
    refine ae.call 73 #[.agg #[.bool s1,.slice a1 n1 c1,.bool s2,.slice a2 n2 c2]] (by go_simp) ((MB1.out _ wi (hx.kept (Kept.comp _ _ _ hk hki))).mono ?_)
    rintro e w7 ⟨v,rfl,hv,hk7⟩
    exact⟨v,rfl,hv,hk7⟩
   ·cases so ho
    have dg:=hdep ⟨6,.guard⟩ (by simp) rfl
    simp only[af,K9,K8] at dg
    refine Or.inl ⟨by simp[Region.wanted,yielded,dg],?_⟩
    refine ae.value (.agg #[.bool s3,.slice a3 n3 c3,.bool s4,.slice a4 n4 c4]) ?_ (aa rfl)
    go_simp
   ·cases so ho
    have d9:=hdep ⟨9,.data⟩ (by simp) rfl
    simp only[af,K9,K8] at d9
    have dg:=hdep ⟨6,.guard⟩ (by simp) rfl
    simp only[af,K9,K8] at dg
    refine Or.inl ⟨by simp[Region.wanted,yielded,dg],?_⟩
    refine ae.call 73 #[.agg #[.bool s3,.slice a3 n3 c3,.bool s4,.slice a4 n4 c4]] (by go_simp) ((MB2.out _ wi (hy.kept (Kept.comp _ _ _ hk hki))).mono ?_)
    rintro e w7 ⟨v,rfl,hv,hk7⟩
    exact⟨v,rfl,hv,hk7⟩
   ·cases so ho
    have d8:=hdep ⟨8,.data⟩ (by simp) rfl
    have d10:=hdep ⟨10,.data⟩ (by simp) rfl
    simp only[af,K9,K8] at d8 d10
    have dg:=hdep ⟨6,.guard⟩ (by simp) rfl
    simp only[af,K9,K8] at dg
    refine Or.inl ⟨by simp[Region.wanted,yielded,dg],?_⟩
    refine ae.call 155 #[f 8,f 10] (by go_simp) ((MC2.out _ _ wi d8 d10).mono ?_)
    rintro e w7 ⟨rfl,hk7⟩
    exact⟨_,rfl,rfl,hk7⟩
   ·cases so ho
    have d11:=hdep ⟨11,.data⟩ (by simp) rfl
    simp only[af,K9,K8] at d11
    have dg:=hdep ⟨6,.guard⟩ (by simp) rfl
    simp only[af,K9,K8] at dg
    refine Or.inl ⟨by simp[Region.wanted,yielded,dg],?_⟩
    refine ae.value (.bool r) ?_ (aa rfl)
    go_simp
   ·cases so ho
    have d6:=hdep ⟨6,.data⟩ (by simp) rfl
    have d12:=hdep ⟨12,.data⟩ (by simp) rfl
    simp only[af,K9,K8] at d6 d12
    refine Or.inl ⟨rfl,?_⟩
    refine ae.value (.bool r) ?_ (aa rfl)
    go_simp
   ·omega
  ·intro f wi hki hall
   have hr:=hall 13 (by decide)
   simp only[af,K9,K8] at hr
   clear hall
   have hk:=Kept.comp _ _ _ hk hki
   simp only[List.drop_succ_cons,List.drop_zero]
   rw[hr]
   clear MB1 MB2 MC1 MC2
   go_wp2
   go_ret
   exact⟨rfl,hk⟩
 ·rw[decide_eq_false hp,Bool.false_and]
  have hp':(p==(0:Int))=false:=by rw[beq_eq_false_iff_ne];exact hp
  clear hp MB1 MB2 MC2
  have MB1:=trivial
  have MB2:=trivial
  have MC2:=trivial
  obtain⟨hk,hB1,hB2⟩:=bg w [.bool s1,.slice a1 n1 c1,.bool s2,.slice a2 n2 c2] [.bool s3,.slice a3 n3 c3,.bool s4,.slice a4 n4 c4] 97 97
  go_enter Tryz.func253,Tryz.ntmps253
  go_wp2_with fail
  generalize (w.alloc (.cells [.bool s1,.slice a1 n1 c1,.bool s2,.slice a2 n2 c2].toArray _)).alloc (.cells [.bool s3,.slice a3 n3 c3,.bool s4,.slice a4 n4 c4].toArray _)=w2 at *
  refine bK 14 [.is (.pointer (some ⟨w.heap.size,0,none⟩)),.is (.agg #[.bool s1,.slice a1 n1 c1]),.is (.pointer (some ⟨w.heap.size+1,0,none⟩)),.is (.agg #[.bool s3,.slice a3 n3 c3]),.is (.int .i64 p),.is (.bool false),.is (.bool false),.is undef,.is undef,.is undef,.is undef,.is undef,.is undef,.is (.bool false)] [0,1,2,3,4,5,6,7,8,9,10,11,12,13] (by kernel_rfl) (by kernel_rfl) (by kernel_rfl) (by kernel_rfl) (by kernel_rfl) (by kernel_rfl) (by intro f;simp only[laid,List.foldl_cons,List.foldl_nil,List.getElem?_toArray,K9,K8,Option.bind_some,Act.put,List.setIfInBounds_toArray,List.set_cons_zero,List.set_cons_succ];rfl) ?_ ?_
  ·intro i o him ho f wi hki hdep
   have q0:=(hB1.kept hki).cell 0 rfl
   have q1:=(hB1.kept hki).cell 1 rfl
   have q2:=(hB1.kept hki).cell 2 rfl
   have q3:=(hB1.kept hki).cell 3 rfl
   have r0:=(hB2.kept hki).cell 0 rfl
   have r1:=(hB2.kept hki).cell 1 rfl
   have r2:=(hB2.kept hki).cell 2 rfl
   have r3:=(hB2.kept hki).cell 3 rfl
   rcases i with _|_|_|_|_|_|_|_|_|_|_|_|_|_|i
   ·cases so ho
    refine Or.inl ⟨rfl,?_⟩
    refine ae.value (.pointer (some ⟨w.heap.size,0,none⟩)) ?_ (aa rfl)
    go_simp
   ·cases so ho
    have d0:=hdep ⟨0,.data⟩ (by simp) rfl
    simp only[af,K9] at d0
    refine Or.inl ⟨rfl,?_⟩
    refine ae.value (.agg #[.bool s1,.slice a1 n1 c1]) ?_ (aa rfl)
    go_simp
   ·cases so ho
    refine Or.inl ⟨rfl,?_⟩
    refine ae.value (.pointer (some ⟨w.heap.size+1,0,none⟩)) ?_ (aa rfl)
    go_simp
   ·cases so ho
    have d2:=hdep ⟨2,.data⟩ (by simp) rfl
    simp only[af,K9,K8] at d2
    refine Or.inl ⟨rfl,?_⟩
    refine ae.value (.agg #[.bool s3,.slice a3 n3 c3]) ?_ (aa rfl)
    go_simp
   ·cases so ho
    have d1:=hdep ⟨1,.data⟩ (by simp) rfl
    have d3:=hdep ⟨3,.data⟩ (by simp) rfl
    simp only[af,K9,K8] at d1 d3
    refine Or.inl ⟨rfl,?_⟩
    refine ae.call 155 #[.agg #[.bool s1,.slice a1 n1 c1],.agg #[.bool s3,.slice a3 n3 c3]] (by go_simp) ((MC1.out _ _ wi (h1.kept (Kept.comp _ _ _ hk hki)) (h3.kept (Kept.comp _ _ _ hk hki))).mono ?_)
    rintro e w7 ⟨rfl,hk7⟩
    exact⟨_,rfl,rfl,hk7⟩
   ·cases so ho
    have d4:=hdep ⟨4,.data⟩ (by simp) rfl
    simp only[af,K9,K8] at d4
    refine Or.inl ⟨rfl,?_⟩
    refine ae.value (.bool false) ?_ (aa rfl)
    go_simp
   ·cases so ho
    have d5:=hdep ⟨5,.data⟩ (by simp) rfl
    simp only[af,K9,K8] at d5
    refine Or.inl ⟨rfl,?_⟩
    refine ae.value (.bool false) ?_ (aa rfl)
    go_simp
   ·cases so ho
    have dg:=hdep ⟨6,.guard⟩ (by simp) rfl
    simp only[af,K9,K8] at dg
    exact Or.inr ⟨by simp[Region.wanted,yielded,dg],rfl,Kept.rfl' _⟩
   ·cases so ho
    have dg:=hdep ⟨6,.guard⟩ (by simp) rfl
    simp only[af,K9,K8] at dg
    exact Or.inr ⟨by simp[Region.wanted,yielded,dg],rfl,Kept.rfl' _⟩
   ·cases so ho
    have dg:=hdep ⟨6,.guard⟩ (by simp) rfl
    simp only[af,K9,K8] at dg
    exact Or.inr ⟨by simp[Region.wanted,yielded,dg],rfl,Kept.rfl' _⟩
   ·cases so ho
    have dg:=hdep ⟨6,.guard⟩ (by simp) rfl
    simp only[af,K9,K8] at dg
    exact Or.inr ⟨by simp[Region.wanted,yielded,dg],rfl,Kept.rfl' _⟩
   ·cases so ho
    have dg:=hdep ⟨6,.guard⟩ (by simp) rfl
    simp only[af,K9,K8] at dg
    exact Or.inr ⟨by simp[Region.wanted,yielded,dg],rfl,Kept.rfl' _⟩
   ·cases so ho
    have dg:=hdep ⟨6,.guard⟩ (by simp) rfl
    simp only[af,K9,K8] at dg
    exact Or.inr ⟨by simp[Region.wanted,yielded,dg],rfl,Kept.rfl' _⟩
   ·cases so ho
    have d6:=hdep ⟨6,.data⟩ (by simp) rfl
    have d12:=hdep ⟨12,.data⟩ (by simp) rfl
    simp only[af,K9,K8] at d6 d12
    refine Or.inl ⟨rfl,?_⟩
    refine ae.value (.bool false) ?_ (aa rfl)
    go_simp
   ·omega
  ·intro f wi hki hall
   have hr:=hall 13 (by decide)
   simp only[af,K9,K8] at hr
   clear hall
   have hk:=Kept.comp _ _ _ hk hki
   simp only[List.drop_succ_cons,List.drop_zero]
   rw[hr]
   clear MB1 MB2 MC1 MC2
   go_wp2
   go_ret
   exact⟨rfl,hk⟩
end Go.Proofs.YtjbcmmaniphkkaaGreatDoor
