import Derived.Test.YtjbcmmaniphkkaaGreatDoorL7
set_option linter.unusedSectionVars false
set_option linter.unusedVariables false
set_option linter.unusedSimpArgs false
set_option maxRecDepth 100000
set_option maxHeartbeats 1000000
namespace Go.Proofs.YtjbcmmaniphkkaaGreatDoor
open Go.RowKit LimbNum
def az (s:Bool) (m:Nat):Int:=if s then -(m:Int) else m
theorem cT (s:Bool) (m:Nat):(az s m).natAbs=m:=by cases s<;>simp[az]
theorem iP (s:Bool) (m:Nat):decide (az s m<0)=(s&&decide (0<m)):=by
 cases s
 ·have:¬(m:Int)<0:=by omega
  simp[az,this]
 ·by_cases h:0<m
  ·have : -(m:Int)<0:=by omega
   simp[az]
  ·obtain rfl:m=0:=by omega
   simp[az]
theorem tW {w:World} {l:Value} {m:Nat} (s:Bool) (h:Lim w l m):Whole w (.agg #[.bool (s&&decide (0<m)),l]) (az s m):=
 ⟨l,by rw[iP],by rw[cT];exact h⟩
theorem size_pos {m:Nat}:0<size m↔0<m:=by
 constructor
 ·intro h
  rcases Nat.eq_zero_or_pos m with rfl|h'
  ·rw[bW] at h;omega
  ·exact h'
 ·intro h
  rcases Nat.eq_zero_or_pos (size m) with h'|h'
  ·have:=lt_size m
   rw[h',Nat.pow_zero] at this
   omega
  ·exact h'
theorem bm (s:Bool) (l:Value) (m:Nat) (w:World) (h:Lim w l m) (hm:size m≤1099511627776) :
  Calls Tryz.prog 158 #[.bool s,l] w fun e w'=>∃ v,e=.returned v∧Whole w' v (az s m)∧Kept w w':=by
 obtain⟨a,c,rfl,hc,hr⟩:=id h
 have hL:=K7 fun w' (hk:Kept w w')=>tW s (h.kept hk)
 clear h hr
 have hp:=@size_pos m
 have hkl:=fun o=>(Below.refl w.heap.size w).alloc (K6 _) o
 generalize size m=n at *
 cases s
 ·simp only[Bool.false_and] at hL
  clear hp
  go_enter Tryz.func158,Tryz.ntmps158
  go_wp2_with fail
  exact bodyPost_ret (v:=.agg #[.bool false,.slice a n c]) (by simp[results,Tryz.results158,go_sem]) rfl ⟨_,rfl,hL.out _ (hkl _),hkl _⟩
 ·by_cases h0:0<n
  ·simp only[Bool.true_and,hp.1 h0,decide_true] at hL
   clear hp
   have h1:decide ((n:Int)>0)=true:=by simp;omega
   go_enter Tryz.func158,Tryz.ntmps158
   go_wp2_with fail
   exact bodyPost_ret (v:=.agg #[.bool true,.slice a n c]) (by simp[results,Tryz.results158,go_sem]) rfl ⟨_,rfl,hL.out _ (hkl _),hkl _⟩
  ·have hm0:¬0<m:=fun h=>h0 (hp.2 h)
   simp only[Bool.true_and,hm0,decide_false] at hL
   obtain rfl:n=0:=by omega
   clear hp h0
   go_enter Tryz.func158,Tryz.ntmps158
   go_wp2_with fail
   exact bodyPost_ret (v:=.agg #[.bool false,.slice a 0 c]) (by simp[results,Tryz.results158,go_sem]) rfl ⟨_,rfl,hL.out _ (hkl _),hkl _⟩
theorem Blk.nA {w:World} {b:Nat} {t:TypeId} {c0 c1:Value} (h:Blk w b t [c0,c1]) (d0 d1:Value) :
  Blk ((w.setCell ⟨b,0,none⟩ d0).setCell ⟨b,1,none⟩ d1) b t [d0,d1]:=by
 unfold Blk at *
 exact heap_setCell_same _ b 1 _ _ d1 (heap_setCell_same w b 0 _ _ d0 h)
theorem Lim.beside {w w':World} {l:Value} {m b:Nat} {t:TypeId} (h:Lim w l m) (hB:Blk w b t [.bool false,.slice none 0 0]) (hs:w.heap.size≤w'.heap.size)
  (ho:∀ k,k≠b→w'.heap[k]?=w.heap[k]?):Lim w' l m:=by
 obtain⟨a,c,rfl,hc,hr⟩:=h
 refine ⟨a,c,rfl,hc,?_⟩
 rcases hr with hr|⟨b',off,rfl,hb,hcell⟩
 ·exact .inl hr
 ·refine .inr ⟨b',off,rfl,Nat.lt_of_lt_of_le hb hs,fun i hi=>?_⟩
  by_cases hbb:b'=b
  ·exfalso
   subst hbb
   have h1:=hcell i hi
   unfold World.cell? at h1
   rw[hB] at h1
   simp only[Option.isSome_none,Bool.false_eq_true,if_false,List.getElem?_toArray] at h1
   generalize off+i=q at h1
   rcases q with _|_|k<;>simp at h1
  ·rw[World.cell?_of_block (w:=w) (ho b' hbb)]
   exact hcell i hi
theorem aP {w w3:World} {b:Nat} {s:Bool} {l:Value} {n:Int} (hB:Blk w3 b 95 [.bool false,.slice none 0 0]) (hb:w.heap.size≤b) (hk:Kept w w3) (hv:Whole w3 (.agg #[.bool s,l]) n) :
  ((w3.setCell ⟨b,0,none⟩ (.bool s)).setCell ⟨b,1,none⟩ l).cell? ⟨b,0,none⟩=some (.bool s) ∧
  ((w3.setCell ⟨b,0,none⟩ (.bool s)).setCell ⟨b,1,none⟩ l).cell? ⟨b,1,none⟩=some l ∧
  Whole ((w3.setCell ⟨b,0,none⟩ (.bool s)).setCell ⟨b,1,none⟩ l) (.agg #[.bool s,l]) n∧Kept w ((w3.setCell ⟨b,0,none⟩ (.bool s)).setCell ⟨b,1,none⟩ l):=by
 have hB4:=hB.nA (.bool s) l
 refine ⟨hB4.cell 0 rfl,hB4.cell 1 rfl,?_,(Below.setCell hk hb _).setCell hb _⟩
 obtain⟨l',he,hl⟩:=hv
 refine ⟨l',he,hl.beside hB (by simp[World.setCell]) fun k hk=>?_⟩
 rw[heap_setCell_other _ ⟨b,1,none⟩ k l (by simpa using hk),heap_setCell_other _ ⟨b,0,none⟩ k (.bool s) (by simpa using hk)]
theorem Whole.int {w:World} {s:Bool} {l:Value} {n:Int} (h:Whole w (.agg #[.bool s,l]) n):s=decide (n<0)∧Lim w l n.natAbs:=by
 obtain⟨l',he,hl⟩:=h
 simp only[Value.agg.injEq,Array.mk.injEq,List.cons.injEq,Value.bool.injEq,and_true] at he
 exact⟨he.1,he.2 ▸ hl⟩
theorem iz (v:Value) (n:Int) (w:World) (h:Whole w v n) (hm:size n.natAbs≤1099511627776) :
  Calls Tryz.prog 156 #[v] w fun e w'=>∃ v,e=.returned v∧Whole w' v (-n)∧Kept w w':=by
 obtain⟨l,rfl,hl⟩:=h
 have hs:=K7 fun w' (hk:Kept w w')=>bm (!decide (n<0)) l n.natAbs w' (hl.kept hk) hm
 have hn:az (!decide (n<0)) n.natAbs = -n:=by
  unfold az
  by_cases h:n<0
  ·simp[h];omega
  ·simp[h];omega
 rw[hn] at hs
 clear hl hm
 generalize decide (n<0)=s at *
 go_enter Tryz.func156,Tryz.ntmps156
 go_wp2_with fail
 have hk1:=ak w (Obj.cells #[Value.bool s,l] 95)
 have hk2:=ak (w.alloc (Obj.cells #[Value.bool s,l] 95)) (Obj.cells #[Value.bool false,Value.slice none 0 0] 95)
 have hB:=aJ (w.alloc (Obj.cells #[Value.bool s,l] 95)) 95 [Value.bool false,Value.slice none 0 0]
 have hk:=Kept.comp _ _ _ hk1 hk2
 have hz:(w.alloc (Obj.cells #[Value.bool s,l] 95)).heap.size=w.heap.size+1:=by simp
 rw[hz] at hB
 generalize (w.alloc (Obj.cells #[Value.bool s,l] 95)).alloc (Obj.cells #[Value.bool false,Value.slice none 0 0] 95)=w2 at *
 refine (hs.out _ hk).mono ?_
 rintro e w3 ⟨v,rfl,hv,hk3⟩
 obtain⟨_,rfl,a',c',rfl,_⟩:=id hv
 generalize size (-n).natAbs=n' at *
 generalize decide (-n<0)=s' at *
 have hB3:=hB.kept hk3
 have c0:=hB3.cell 0 rfl
 have c1:=hB3.cell 1 rfl
 have f0:=hB3.free 0
 have f1:=hB3.free 1
 clear hs hn
 go_wp2
 obtain⟨p0,p1,p2,p3⟩:=aP hB3 (Nat.le_succ _) (Kept.comp _ _ _ hk hk3) hv
 exact bodyPost_ret (v:=.agg #[.bool s',.slice a' n' c']) (by simp[results,Tryz.results156,go_sem,p0,p1]) rfl ⟨_,rfl,p2,p3⟩
theorem cO (w:World) (c1 c2:List Value) (t1 t2 t3:TypeId) (c3:List Value) :
  Kept w (((w.alloc (.cells c1.toArray t1)).alloc (.cells c2.toArray t2)).alloc (.cells c3.toArray t3)) ∧
  Blk (((w.alloc (.cells c1.toArray t1)).alloc (.cells c2.toArray t2)).alloc (.cells c3.toArray t3)) w.heap.size t1 c1 ∧
  Blk (((w.alloc (.cells c1.toArray t1)).alloc (.cells c2.toArray t2)).alloc (.cells c3.toArray t3)) (w.heap.size+1) t2 c2 ∧
  Blk (((w.alloc (.cells c1.toArray t1)).alloc (.cells c2.toArray t2)).alloc (.cells c3.toArray t3)) (w.heap.size+1+1) t3 c3:=by
 have k1:=ak w (.cells c1.toArray t1)
 have b1:=aJ w t1 c1
 have e1:(w.alloc (.cells c1.toArray t1)).heap.size=w.heap.size+1:=by simp
 generalize w.alloc (.cells c1.toArray t1)=w1 at *
 have k2:=ak w1 (.cells c2.toArray t2)
 have b2:=aJ w1 t2 c2
 have e2:(w1.alloc (.cells c2.toArray t2)).heap.size=w1.heap.size+1:=by simp
 rw[e1] at b2 e2
 generalize w1.alloc (.cells c2.toArray t2)=w2 at *
 have k3:=ak w2 (.cells c3.toArray t3)
 have b3:=aJ w2 t3 c3
 rw[e2] at b3
 exact⟨Kept.comp _ _ _ k1 (Kept.comp _ _ _ k2 k3),(b1.kept k2).kept k3,b2.kept k3,b3⟩
theorem iO (a b:Int):az (decide (a<0) != decide (b<0)) (a.natAbs*b.natAbs)=a*b:=by
 unfold az
 by_cases ha:a<0<;>by_cases hb:b<0<;>simp[ha,hb]<;>grind
theorem dJ (va vb:Value) (x y:Int) (w:World) (ha:Whole w va x) (hb:Whole w vb y) (hx:size x.natAbs≤1073741824) (hy:size y.natAbs≤1073741824) (hxy:size (x*y).natAbs≤1099511627776) :
  Calls Tryz.prog 81 #[va,vb] w fun e w'=>∃ v,e=.returned v∧Whole w' v (x*y)∧Kept w w':=by
 obtain⟨l1,rfl,h1⟩:=ha
 obtain⟨l2,rfl,h2⟩:=hb
 have hn:=iO x y
 have hm:=K7 fun w' (hk:Kept w w')=>ec l1 l2 x.natAbs y.natAbs w' (h1.kept hk) (h2.kept hk) hx hy
 rw[Int.natAbs_mul] at hxy
 generalize decide (x<0)=s1 at *
 generalize decide (y<0)=s2 at *
 clear h1 h2
 go_enter Tryz.func81,Tryz.ntmps81
 go_wp2_with fail
 obtain⟨hk,hB1,hB2,hB3⟩:=cO w [.bool s1,l1] [.bool s2,l2] 95 95 95 [.bool false,.slice none 0 0]
 generalize ((w.alloc (.cells [.bool s1,l1].toArray _)).alloc (.cells [.bool s2,l2].toArray _)).alloc (.cells [.bool false,.slice none 0 0].toArray _)=w2 at *
 refine aj 11 [.is (.pointer (some ⟨w.heap.size,0,none⟩)),.is (.bool s1),.is (.pointer (some ⟨w.heap.size+1,0,none⟩)),.is (.bool s2),.is (.bool (s1 != s2)),.is (.pointer (some ⟨w.heap.size,1,none⟩)),.is l1,.is (.pointer (some ⟨w.heap.size+1,1,none⟩)),.is l2,.lim (x.natAbs*y.natAbs),.int (x*y)] [0,1,2,3,4,5,6,7,8,9,10] (by kernel_rfl) (by kernel_rfl) (by kernel_rfl) (by kernel_rfl) (by kernel_rfl) (by kernel_rfl) (by intro f;simp only[laid,List.foldl_cons,List.foldl_nil,List.getElem?_toArray,K9,K8,Option.bind_some,Act.put,List.setIfInBounds_toArray,List.set_cons_zero,List.set_cons_succ];rfl) ?_ ?_
 ·intro i o him ho f wi hki hdep
  have c1:=(hB1.kept hki).cell 0 rfl
  have c2:=(hB1.kept hki).cell 1 rfl
  have c3:=(hB2.kept hki).cell 0 rfl
  have c4:=(hB2.kept hki).cell 1 rfl
  rcases i with _|_|_|_|_|_|_|_|_|_|_|i
  ·cases so ho
   refine ae.value (.pointer (some ⟨w.heap.size,0,none⟩)) ?_ (aa rfl)
   go_simp
  ·cases so ho
   have d0:=hdep ⟨0,.data⟩ (by simp) rfl
   simp only[af,K9] at d0
   refine ae.value (.bool s1) ?_ (aa rfl)
   go_simp
  ·cases so ho
   refine ae.value (.pointer (some ⟨w.heap.size+1,0,none⟩)) ?_ (aa rfl)
   go_simp
  ·cases so ho
   have d2:=hdep ⟨2,.data⟩ (by simp) rfl
   simp only[af,K9,K8] at d2
   refine ae.value (.bool s2) ?_ (aa rfl)
   go_simp
  ·cases so ho
   have d1:=hdep ⟨1,.data⟩ (by simp) rfl
   have d3:=hdep ⟨3,.data⟩ (by simp) rfl
   simp only[af,K9,K8] at d1 d3
   refine ae.value (.bool (s1 != s2)) ?_ (aa rfl)
   go_simp
   cases s1<;>cases s2<;>rfl
  ·cases so ho
   refine ae.value (.pointer (some ⟨w.heap.size,1,none⟩)) ?_ (aa rfl)
   go_simp
  ·cases so ho
   have d5:=hdep ⟨5,.data⟩ (by simp) rfl
   simp only[af,K9,K8] at d5
   refine ae.value l1 ?_ (aa rfl)
   go_simp
  ·cases so ho
   refine ae.value (.pointer (some ⟨w.heap.size+1,1,none⟩)) ?_ (aa rfl)
   go_simp
  ·cases so ho
   have d7:=hdep ⟨7,.data⟩ (by simp) rfl
   simp only[af,K9,K8] at d7
   refine ae.value l2 ?_ (aa rfl)
   go_simp
  ·cases so ho
   have d6:=hdep ⟨6,.data⟩ (by simp) rfl
   have d8:=hdep ⟨8,.data⟩ (by simp) rfl
   simp only[af,K9,K8] at d6 d8
   refine ae.call 159 #[l1,l2] (by go_simp) ((hm.out wi (Kept.comp _ _ _ hk hki)).mono ?_)
   rintro e w3 ⟨u,rfl,hu,hk3⟩
   exact⟨u,rfl,hu,hk3⟩
  ·cases so ho
   have d4:=hdep ⟨4,.data⟩ (by simp) rfl
   have d9:=hdep ⟨9,.data⟩ (by simp) rfl
   simp only[af,K9,K8] at d4 d9
   refine ae.call 158 #[.bool (s1 != s2),f 9] (by go_simp) ((bm (s1 != s2) (f 9) _ wi d9 hxy).mono ?_)
   rintro e w3 ⟨u,rfl,hu,hk3⟩
   rw[hn] at hu
   exact⟨u,rfl,hu,hk3⟩
  ·omega
 ·intro f wi hki hall
  have hv:=hall 10 (by decide)
  simp only[af,K9,K8] at hv
  clear hall
  obtain⟨_,he,a',c',rfl,_⟩:=id hv
  rw[he] at hv
  simp only[List.drop_succ_cons,List.drop_zero]
  rw[he]
  generalize size (x*y).natAbs=n' at *
  generalize decide (x*y<0)=s' at *
  have hB:=hB3.kept hki
  have r0:=hB.cell 0 rfl
  have r1:=hB.cell 1 rfl
  have f0:=hB.free 0
  have f1:=hB.free 1
  go_wp2
  obtain⟨p0,p1,p2,p3⟩:=aP hB (by omega) (Kept.comp _ _ _ hk hki) hv
  exact bodyPost_ret (v:=.agg #[.bool s',.slice a' n' c']) (by simp[results,Tryz.results81,go_sem,p0,p1]) rfl ⟨_,rfl,p2,p3⟩
theorem mh (x y:Nat):size (x+y)≤size x+size y+1:=by
 refine size_le ?_
 have h1:=lt_size x
 have h2:=lt_size y
 have e1:LimbNum.B^size x≤LimbNum.B^(size x+size y):=Nat.pow_le_pow_right aA (by omega)
 have e2:LimbNum.B^size y≤LimbNum.B^(size x+size y):=Nat.pow_le_pow_right aA (by omega)
 rw[Nat.pow_succ]
 have hb:2≤LimbNum.B:=by simp[LimbNum.B]
 have:=Nat.mul_le_mul_left (LimbNum.B^(size x+size y)) hb
 omega
theorem mi (x y:Nat):size (x*y)≤size x+size y:=by
 refine size_le ?_
 rw[Nat.pow_add]
 rcases Nat.eq_zero_or_pos y with h|h
 ·subst h
  rw[Nat.mul_zero]
  exact Nat.mul_pos (Nat.pow_pos aA) (Nat.pow_pos aA)
 ·exact Nat.lt_of_lt_of_le (Nat.mul_lt_mul_of_pos_right (lt_size x) h) (Nat.mul_le_mul_left _ (Nat.le_of_lt (lt_size y)))
theorem add_same {x y:Int} (h:decide (x<0)=decide (y<0)):az (decide (x<0)) (x.natAbs+y.natAbs)=x+y:=by
 unfold az
 by_cases hx:x<0<;>by_cases hy:y<0<;>simp[hx,hy] at h ⊢<;>omega
theorem uf {x y:Int} (h:decide (x<0)≠decide (y<0)) (hle:y.natAbs≤x.natAbs):az (decide (x<0)) (x.natAbs-y.natAbs)=x+y:=by
 unfold az
 by_cases hx:x<0<;>by_cases hy:y<0<;>simp[hx,hy] at h ⊢<;>omega
theorem rL {x y:Int} (h:decide (x<0)≠decide (y<0)) (hle:x.natAbs≤y.natAbs):az (decide (y<0)) (y.natAbs-x.natAbs)=x+y:=by
 unfold az
 by_cases hx:x<0<;>by_cases hy:y<0<;>simp[hx,hy] at h ⊢<;>omega
theorem jG (va vb:Value) (x y:Int) (w:World) (ha:Whole w va x) (hb:Whole w vb y) (hx:size x.natAbs≤1073741824) (hy:size y.natAbs≤1073741824) :
  Calls Tryz.prog 153 #[va,vb] w fun e w'=>∃ v,e=.returned v∧Whole w' v (x+y)∧Kept w w':=by
 obtain⟨l1,rfl,h1⟩:=ha
 obtain⟨l2,rfl,h2⟩:=hb
 have e1:=@add_same x y
 have e2:=@uf x y
 have e3:=@rL x y
 have z1:=mh x.natAbs y.natAbs
 have z2:=aK (Nat.sub_le x.natAbs y.natAbs)
 have z3:=aK (Nat.sub_le y.natAbs x.natAbs)
 have ma:=K7 fun w' (hk:Kept w w')=>iB l1 l2 x.natAbs y.natAbs w' (h1.kept hk) (h2.kept hk) hx hy
 have mc:=K7 fun w' (hk:Kept w w')=>aV l1 l2 x.natAbs y.natAbs w' (h1.kept hk) (h2.kept hk) hx
 have ms1:=K7 fun w' (hk:Kept w w')=>bM l1 l2 x.natAbs y.natAbs w' (h1.kept hk) (h2.kept hk) hx
 have ms2:=K7 fun w' (hk:Kept w w')=>bM l2 l1 y.natAbs x.natAbs w' (h2.kept hk) (h1.kept hk) hy
 have he1:=K7 e1
 have he2:=K7 e2
 have he3:=K7 e3
 have hz:=K7 (show size (x.natAbs+y.natAbs)≤1099511627776∧size (x.natAbs-y.natAbs)≤1099511627776∧size (y.natAbs-x.natAbs)≤1099511627776 from ⟨by omega,by omega,by omega⟩)
 clear h1 h2 e1 e2 e3 z1 z2 z3 hx hy
 generalize hs1:decide (x<0)=s1 at *
 generalize hs2:decide (y<0)=s2 at *
 clear hs1 hs2
 by_cases hs:s1=s2
 ·have hn:=he1.out hs
  have hbe:(s1==s2)=true:=by simp[hs]
  have hz:=hz.out.1
  clear he1 he2 he3 hs ms1 ms2 mc
  go_enter Tryz.func153,Tryz.ntmps153
  go_wp2_with fail
  obtain⟨hk,hB1,hB2,hB3⟩:=cO w [.bool s1,l1] [.bool s2,l2] 95 95 95 [.bool false,.slice none 0 0]
  generalize ((w.alloc (.cells [.bool s1,l1].toArray _)).alloc (.cells [.bool s2,l2].toArray _)).alloc (.cells [.bool false,.slice none 0 0].toArray _)=w2 at *
  refine aj 8 [.is (.pointer (some ⟨w.heap.size,0,none⟩)),.is (.bool s1),.is (.pointer (some ⟨w.heap.size,1,none⟩)),.is l1,.is (.pointer (some ⟨w.heap.size+1,1,none⟩)),.is l2,.lim (x.natAbs+y.natAbs),.int (x+y)] [0,1,2,3,4,5,6,7] (by kernel_rfl) (by kernel_rfl) (by kernel_rfl) (by kernel_rfl) (by kernel_rfl) (by kernel_rfl) (by intro f;simp only[laid,List.foldl_cons,List.foldl_nil,List.getElem?_toArray,K9,K8,Option.bind_some,Act.put,List.setIfInBounds_toArray,List.set_cons_zero,List.set_cons_succ];rfl) ?_ ?_
  ·intro i o him ho f wi hki hdep
   have c1:=(hB1.kept hki).cell 0 rfl
   have c2:=(hB1.kept hki).cell 1 rfl
   have c3:=(hB2.kept hki).cell 0 rfl
   have c4:=(hB2.kept hki).cell 1 rfl
   rcases i with _|_|_|_|_|_|_|_|i
   ·cases so ho
    refine ae.value (.pointer (some ⟨w.heap.size,0,none⟩)) ?_ (aa rfl)
    go_simp
   ·cases so ho
    have d0:=hdep ⟨0,.data⟩ (by simp) rfl
    simp only[af,K9] at d0
    refine ae.value (.bool s1) ?_ (aa rfl)
    go_simp
   ·cases so ho
    refine ae.value (.pointer (some ⟨w.heap.size,1,none⟩)) ?_ (aa rfl)
    go_simp
   ·cases so ho
    have d2:=hdep ⟨2,.data⟩ (by simp) rfl
    simp only[af,K9,K8] at d2
    refine ae.value l1 ?_ (aa rfl)
    go_simp
   ·cases so ho
    refine ae.value (.pointer (some ⟨w.heap.size+1,1,none⟩)) ?_ (aa rfl)
    go_simp
   ·cases so ho
    have d4:=hdep ⟨4,.data⟩ (by simp) rfl
    simp only[af,K9,K8] at d4
    refine ae.value l2 ?_ (aa rfl)
    go_simp
   ·cases so ho
    have d3:=hdep ⟨3,.data⟩ (by simp) rfl
    have d5:=hdep ⟨5,.data⟩ (by simp) rfl
    simp only[af,K9,K8] at d3 d5
    refine ae.call 214 #[l1,l2] (by go_simp) ((ma.out wi (Kept.comp _ _ _ hk hki)).mono ?_)
    rintro e w3 ⟨u,rfl,hu,hk3⟩
    exact⟨u,rfl,hu,hk3⟩
   ·cases so ho
    have d1:=hdep ⟨1,.data⟩ (by simp) rfl
    have d6:=hdep ⟨6,.data⟩ (by simp) rfl
    simp only[af,K9,K8] at d1 d6
    refine ae.call 158 #[.bool s1,f 6] (by go_simp) ((bm s1 (f 6) _ wi d6 hz).mono ?_)
    rintro e w3 ⟨u,rfl,hu,hk3⟩
    rw[hn] at hu
    exact⟨u,rfl,hu,hk3⟩
   ·omega
  ·intro f wi hki hall
   have hv:=hall 7 (by decide)
   simp only[af,K9,K8] at hv
   clear hall
   obtain⟨_,he,a',c',rfl,_⟩:=id hv
   rw[he] at hv
   simp only[List.drop_succ_cons,List.drop_zero]
   rw[he]
   generalize size (x+y).natAbs=n' at *
   generalize decide (x+y<0)=s' at *
   have hB:=hB3.kept hki
   have r0:=hB.cell 0 rfl
   have r1:=hB.cell 1 rfl
   have f0:=hB.free 0
   have f1:=hB.free 1
   go_wp2
   obtain⟨p0,p1,p2,p3⟩:=aP hB (by omega) (Kept.comp _ _ _ hk hki) hv
   exact bodyPost_ret (v:=.agg #[.bool s',.slice a' n' c']) (by simp[results,Tryz.results153,go_sem,p0,p1]) rfl ⟨_,rfl,p2,p3⟩
 ·have hbe:(s1==s2)=false:=by simpa using hs
  by_cases hlt:x.natAbs<y.natAbs
  ·have hn:=he3.out hs (by omega)
   rw[show ord x.natAbs y.natAbs = -1 by simp[ord,hlt]] at mc
   have hz:=hz.out.2.2
   have hsub:=K7 fun w' (hk:Kept w w')=>ms2.out w' hk (by omega)
   clear he1 he2 he3 hs ms1 ms2 ma hlt
   go_enter Tryz.func153,Tryz.ntmps153
   go_wp2_with fail
   obtain⟨hk,hB1,hB2,hB3⟩:=cO w [.bool s1,l1] [.bool s2,l2] 95 95 95 [.bool false,.slice none 0 0]
   generalize ((w.alloc (.cells [.bool s1,l1].toArray _)).alloc (.cells [.bool s2,l2].toArray _)).alloc (.cells [.bool false,.slice none 0 0].toArray _)=w2 at *
   refine (mc.out _ hk).mono ?_
   rintro e w2' ⟨rfl,q,rfl⟩
   have hkq:Kept w2 (w2.drewN q):=al (Below.refl _ _) q
   go_wp2_with fail
   replace hB1:=hB1.kept hkq
   replace hB2:=hB2.kept hkq
   replace hB3:=hB3.kept hkq
   replace hk:=Kept.comp _ _ _ hk hkq
   generalize w2.drewN q=w4 at *
   clear hkq
   refine aj 8 [.is (.pointer (some ⟨w.heap.size+1,0,none⟩)),.is (.bool s2),.is (.pointer (some ⟨w.heap.size+1,1,none⟩)),.is l2,.is (.pointer (some ⟨w.heap.size,1,none⟩)),.is l1,.lim (y.natAbs-x.natAbs),.int (x+y)] [0,1,2,3,4,5,6,7] (by kernel_rfl) (by kernel_rfl) (by kernel_rfl) (by kernel_rfl) (by kernel_rfl) (by kernel_rfl) (by intro f;simp only[laid,List.foldl_cons,List.foldl_nil,List.getElem?_toArray,K9,K8,Option.bind_some,Act.put,List.setIfInBounds_toArray,List.set_cons_zero,List.set_cons_succ];rfl) ?_ ?_
   ·intro i o him ho f wi hki hdep
    have c1:=(hB1.kept hki).cell 0 rfl
    have c2:=(hB1.kept hki).cell 1 rfl
    have c3:=(hB2.kept hki).cell 0 rfl
    have c4:=(hB2.kept hki).cell 1 rfl
    rcases i with _|_|_|_|_|_|_|_|i
    ·cases so ho
     refine ae.value (.pointer (some ⟨w.heap.size+1,0,none⟩)) ?_ (aa rfl)
     go_simp
    ·cases so ho
     have d0:=hdep ⟨0,.data⟩ (by simp) rfl
     simp only[af,K9] at d0
     refine ae.value (.bool s2) ?_ (aa rfl)
     go_simp
    ·cases so ho
     refine ae.value (.pointer (some ⟨w.heap.size+1,1,none⟩)) ?_ (aa rfl)
     go_simp
    ·cases so ho
     have d2:=hdep ⟨2,.data⟩ (by simp) rfl
     simp only[af,K9,K8] at d2
     refine ae.value l2 ?_ (aa rfl)
     go_simp
    ·cases so ho
     refine ae.value (.pointer (some ⟨w.heap.size,1,none⟩)) ?_ (aa rfl)
     go_simp
    ·cases so ho
     have d4:=hdep ⟨4,.data⟩ (by simp) rfl
     simp only[af,K9,K8] at d4
     refine ae.value l1 ?_ (aa rfl)
     go_simp
    ·cases so ho
     have d3:=hdep ⟨3,.data⟩ (by simp) rfl
     have d5:=hdep ⟨5,.data⟩ (by simp) rfl
     simp only[af,K9,K8] at d3 d5
     refine ae.call 215 #[l2,l1] (by go_simp) ((hsub.out wi (Kept.comp _ _ _ hk hki)).mono ?_)
     rintro e w3 ⟨u,rfl,hu,hk3⟩
     exact⟨u,rfl,hu,hk3⟩
    ·cases so ho
     have d1:=hdep ⟨1,.data⟩ (by simp) rfl
     have d6:=hdep ⟨6,.data⟩ (by simp) rfl
     simp only[af,K9,K8] at d1 d6
     refine ae.call 158 #[.bool s2,f 6] (by go_simp) ((bm s2 (f 6) _ wi d6 hz).mono ?_)
     rintro e w3 ⟨u,rfl,hu,hk3⟩
     rw[hn] at hu
     exact⟨u,rfl,hu,hk3⟩
    ·omega
   ·intro f wi hki hall
    have hv:=hall 7 (by decide)
    simp only[af,K9,K8] at hv
    clear hall
    obtain⟨_,he,a',c',rfl,_⟩:=id hv
    rw[he] at hv
    simp only[List.drop_succ_cons,List.drop_zero]
    rw[he]
    generalize size (x+y).natAbs=n' at *
    generalize decide (x+y<0)=s' at *
    have hB:=hB3.kept hki
    have r0:=hB.cell 0 rfl
    have r1:=hB.cell 1 rfl
    have f0:=hB.free 0
    have f1:=hB.free 1
    go_wp2
    obtain⟨p0,p1,p2,p3⟩:=aP hB (by omega) (Kept.comp _ _ _ hk hki) hv
    exact bodyPost_ret (v:=.agg #[.bool s',.slice a' n' c']) (by simp[results,Tryz.results153,go_sem,p0,p1]) rfl ⟨_,rfl,p2,p3⟩
  ·have hn:=he2.out hs (by omega)
   have hor:decide (ord x.natAbs y.natAbs ≥ 0)=true:=by unfold ord;rw[if_neg hlt];split<;>simp
   have hz:=hz.out.2.1
   have hsub:=K7 fun w' (hk:Kept w w')=>ms1.out w' hk (by omega)
   generalize ord x.natAbs y.natAbs=o at *
   clear he1 he2 he3 hs ms1 ms2 ma hlt
   go_enter Tryz.func153,Tryz.ntmps153
   go_wp2_with fail
   obtain⟨hk,hB1,hB2,hB3⟩:=cO w [.bool s1,l1] [.bool s2,l2] 95 95 95 [.bool false,.slice none 0 0]
   generalize ((w.alloc (.cells [.bool s1,l1].toArray _)).alloc (.cells [.bool s2,l2].toArray _)).alloc (.cells [.bool false,.slice none 0 0].toArray _)=w2 at *
   refine (mc.out _ hk).mono ?_
   rintro e w2' ⟨rfl,q,rfl⟩
   have hkq:Kept w2 (w2.drewN q):=al (Below.refl _ _) q
   go_wp2_with fail
   replace hB1:=hB1.kept hkq
   replace hB2:=hB2.kept hkq
   replace hB3:=hB3.kept hkq
   replace hk:=Kept.comp _ _ _ hk hkq
   generalize w2.drewN q=w4 at *
   clear hkq
   refine aj 8 [.is (.pointer (some ⟨w.heap.size,0,none⟩)),.is (.bool s1),.is (.pointer (some ⟨w.heap.size,1,none⟩)),.is l1,.is (.pointer (some ⟨w.heap.size+1,1,none⟩)),.is l2,.lim (x.natAbs-y.natAbs),.int (x+y)] [0,1,2,3,4,5,6,7] (by kernel_rfl) (by kernel_rfl) (by kernel_rfl) (by kernel_rfl) (by kernel_rfl) (by kernel_rfl) (by intro f;simp only[laid,List.foldl_cons,List.foldl_nil,List.getElem?_toArray,K9,K8,Option.bind_some,Act.put,List.setIfInBounds_toArray,List.set_cons_zero,List.set_cons_succ];rfl) ?_ ?_
   ·intro i o him ho f wi hki hdep
    have c1:=(hB1.kept hki).cell 0 rfl
    have c2:=(hB1.kept hki).cell 1 rfl
    have c3:=(hB2.kept hki).cell 0 rfl
    have c4:=(hB2.kept hki).cell 1 rfl
    rcases i with _|_|_|_|_|_|_|_|i
    ·cases so ho
     refine ae.value (.pointer (some ⟨w.heap.size,0,none⟩)) ?_ (aa rfl)
     go_simp
    ·cases so ho
     have d0:=hdep ⟨0,.data⟩ (by simp) rfl
     simp only[af,K9] at d0
     refine ae.value (.bool s1) ?_ (aa rfl)
     go_simp
    ·cases so ho
     refine ae.value (.pointer (some ⟨w.heap.size,1,none⟩)) ?_ (aa rfl)
     go_simp
    ·cases so ho
     have d2:=hdep ⟨2,.data⟩ (by simp) rfl
     simp only[af,K9,K8] at d2
     refine ae.value l1 ?_ (aa rfl)
     go_simp
    ·cases so ho
     refine ae.value (.pointer (some ⟨w.heap.size+1,1,none⟩)) ?_ (aa rfl)
     go_simp
    ·cases so ho
     have d4:=hdep ⟨4,.data⟩ (by simp) rfl
     simp only[af,K9,K8] at d4
     refine ae.value l2 ?_ (aa rfl)
     go_simp
    ·cases so ho
     have d3:=hdep ⟨3,.data⟩ (by simp) rfl
     have d5:=hdep ⟨5,.data⟩ (by simp) rfl
     simp only[af,K9,K8] at d3 d5
     refine ae.call 215 #[l1,l2] (by go_simp) ((hsub.out wi (Kept.comp _ _ _ hk hki)).mono ?_)
     rintro e w3 ⟨u,rfl,hu,hk3⟩
     exact⟨u,rfl,hu,hk3⟩
    ·cases so ho
     have d1:=hdep ⟨1,.data⟩ (by simp) rfl
     have d6:=hdep ⟨6,.data⟩ (by simp) rfl
     simp only[af,K9,K8] at d1 d6
     refine ae.call 158 #[.bool s1,f 6] (by go_simp) ((bm s1 (f 6) _ wi d6 hz).mono ?_)
     rintro e w3 ⟨u,rfl,hu,hk3⟩
     rw[hn] at hu
     exact⟨u,rfl,hu,hk3⟩
    ·omega
   ·intro f wi hki hall
    have hv:=hall 7 (by decide)
    simp only[af,K9,K8] at hv
    clear hall
    obtain⟨_,he,a',c',rfl,_⟩:=id hv
    rw[he] at hv
    simp only[List.drop_succ_cons,List.drop_zero]
    rw[he]
    generalize size (x+y).natAbs=n' at *
    generalize decide (x+y<0)=s' at *
    have hB:=hB3.kept hki
    have r0:=hB.cell 0 rfl
    have r1:=hB.cell 1 rfl
    have f0:=hB.free 0
    have f1:=hB.free 1
    go_wp2
    obtain⟨p0,p1,p2,p3⟩:=aP hB (by omega) (Kept.comp _ _ _ hk hki) hv
    exact bodyPost_ret (v:=.agg #[.bool s',.slice a' n' c']) (by simp[results,Tryz.results153,go_sem,p0,p1]) rfl ⟨_,rfl,p2,p3⟩
end Go.Proofs.YtjbcmmaniphkkaaGreatDoor
