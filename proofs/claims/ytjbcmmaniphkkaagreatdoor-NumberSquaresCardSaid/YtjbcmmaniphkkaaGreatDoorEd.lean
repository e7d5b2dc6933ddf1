import Derived.Test.YtjbcmmaniphkkaaGreatDoorEc
set_option linter.unusedSectionVars false
set_option linter.unusedVariables false
set_option linter.unusedSimpArgs false
set_option maxRecDepth 100000
set_option maxHeartbeats 40000000
namespace Go.Proofs.YtjbcmmaniphkkaaGreatDoor.E
open Go.RowKit LimbNum
theorem sO (v1 v2:Value) (x y:Rat) (k l:Nat) (w:World) (hx:Ex w v1 x) (hy:Ex w v2 y) (bx:DigNum.Bd x k) (bl:DigNum.Bd y l) (hkk:k≤1000000) (hll:l≤1000000) :
  Calls Tryz.prog 76 #[v1,v2] w fun e w'=>e=.returned (.int .i64 (jm (x.num*y.den) (y.num*x.den)))∧Kept w w':=by
 have MB1:=K7 fun v w' (h:Ex w' v x)=>fu v x k w' h bx hkk
 have MB2:=K7 fun v w' (h:Ex w' v y)=>fu v y l w' h bl hll
 have e1:=bx.1
 have e2:=DigNum.fo bx.2
 have e3:=bl.1
 have e4:=DigNum.fo bl.2
 have M1:=K7 fun va vb w' h1 h2=>dJ va vb x.num y.den w' h1 h2 (Nat.le_trans (aX e1) (by omega)) (Nat.le_trans (aX e4) (by omega)) (Nat.le_trans (aX (DigNum.iI e1 e4)) (by omega))
 have M2:=K7 fun va vb w' h1 h2=>dJ va vb y.num x.den w' h1 h2 (Nat.le_trans (aX e3) (by omega)) (Nat.le_trans (aX e2) (by omega)) (Nat.le_trans (aX (DigNum.iI e3 e2)) (by omega))
 have MC:=K7 fun va vb w' h1 h2=>jd va vb (x.num*y.den) (y.num*x.den) w' h1 h2 (Nat.le_trans (aX (DigNum.iI e1 e4)) (by omega)) (Nat.le_trans (aX (DigNum.iI e3 e2)) (by omega))
 clear bx bl e1 e2 e3 e4 hkk hll
 obtain⟨s1,a1,n1,c1,s2,a2,n2,c2,rfl⟩:=dL hx
 obtain⟨s3,a3,n3,c3,s4,a4,n4,c4,rfl⟩:=dL hy
 have hx1:=hx.both.1
 have hy1:=hy.both.1
 generalize x.num=a at *
 generalize (x.den:Int)=b at *
 generalize y.num=c at *
 generalize (y.den:Int)=d at *
 generalize jm (a*d) (c*b)=z at *
 obtain⟨hk,hB1,hB2⟩:=bp w [.bool s1,.slice a1 n1 c1,.bool s2,.slice a2 n2 c2] [.bool s3,.slice a3 n3 c3,.bool s4,.slice a4 n4 c4] 97 97
 go_enter Tryz.func76,Tryz.ntmps76
 have q2_0:=hB1.cell 0 rfl
 have q2_1:=hB1.cell 1 rfl
 have q2_2:=hB1.cell 2 rfl
 have q2_3:=hB1.cell 3 rfl
 have q3_0:=hB2.cell 0 rfl
 have q3_1:=hB2.cell 1 rfl
 have q3_2:=hB2.cell 2 rfl
 have q3_3:=hB2.cell 3 rfl
 go_wp2_with fail
 have hx:=hx.kept hk
 have hy:=hy.kept hk
 have hx1:=hx1.kept hk
 have hy1:=hy1.kept hk
 generalize (w.alloc (.cells [.bool s1,.slice a1 n1 c1,.bool s2,.slice a2 n2 c2].toArray _)).alloc (.cells [.bool s3,.slice a3 n3 c3,.bool s4,.slice a4 n4 c4].toArray _)=w2 at *
 have hz0:=K6 w2.heap.size
 have lt2:=hB1.lt
 have lt3:=hB2.lt
 refine aj 11 [.is (.pointer (some ⟨w.heap.size,0,none⟩)),.is (.agg #[.bool s1,.slice a1 n1 c1]),.is (.agg #[.bool s3,.slice a3 n3 c3,.bool s4,.slice a4 n4 c4]),.int d,.int (a*d),.is (.pointer (some ⟨w.heap.size+1,0,none⟩)),.is (.agg #[.bool s3,.slice a3 n3 c3]),.is (.agg #[.bool s1,.slice a1 n1 c1,.bool s2,.slice a2 n2 c2]),.int b,.int (c*b),.is (.int .i64 z)] [0,1,2,3,4,5,6,7,8,9,10] (by kernel_rfl) (by kernel_rfl) (by kernel_rfl) (by kernel_rfl) (by kernel_rfl) (by kernel_rfl) (by intro f;simp only[laid,List.foldl_cons,List.foldl_nil,List.getElem?_toArray,K9,K8,Option.bind_some,Act.put,List.setIfInBounds_toArray,List.set_cons_zero,List.set_cons_succ];rfl) ?_ ?_
 ·intro i o him ho f wi hki hdep
  have q2_0:=(hB1.kept hki).cell 0 rfl
  have q2_1:=(hB1.kept hki).cell 1 rfl
  have q2_2:=(hB1.kept hki).cell 2 rfl
  have q2_3:=(hB1.kept hki).cell 3 rfl
  have q3_0:=(hB2.kept hki).cell 0 rfl
  have q3_1:=(hB2.kept hki).cell 1 rfl
  have q3_2:=(hB2.kept hki).cell 2 rfl
  have q3_3:=(hB2.kept hki).cell 3 rfl
  rcases i with _|_|_|_|_|_|_|_|_|_|_|i
  ·cases so ho
   refine ae.value (.pointer (some ⟨w.heap.size,0,none⟩)) ?_ (aa rfl)
   go_simp
  ·cases so ho
   have d0:=hdep ⟨0,.data⟩ (by simp) rfl
   simp only[af,K9] at d0
   refine ae.value (.agg #[.bool s1,.slice a1 n1 c1]) ?_ (aa rfl)
   go_simp
  ·cases so ho
   refine ae.value (.agg #[.bool s3,.slice a3 n3 c3,.bool s4,.slice a4 n4 c4]) ?_ (aa rfl)
   go_simp
  ·cases so ho
   have d2:=hdep ⟨2,.data⟩ (by simp) rfl
   simp only[af,K9,K8] at d2
   refine ae.call 73 #[.agg #[.bool s3,.slice a3 n3 c3,.bool s4,.slice a4 n4 c4]] (by go_simp) ((MB2.out _ wi (hy.kept hki)).mono ?_)
   rintro e w7 ⟨v,rfl,hv,hk7⟩
   exact⟨v,rfl,hv,hk7,trivial⟩
  ·cases so ho
   have d1:=hdep ⟨1,.data⟩ (by simp) rfl
   have d3:=hdep ⟨3,.data⟩ (by simp) rfl
   simp only[af,K9,K8] at d1 d3
   refine ae.call 81 #[.agg #[.bool s1,.slice a1 n1 c1],f 3] (by go_simp) ((M1.out _ _ wi (hx1.kept hki) d3).mono ?_)
   rintro e w7 ⟨v,rfl,hv,hk7⟩
   exact⟨v,rfl,hv,hk7,trivial⟩
  ·cases so ho
   refine ae.value (.pointer (some ⟨w.heap.size+1,0,none⟩)) ?_ (aa rfl)
   go_simp
  ·cases so ho
   have d5:=hdep ⟨5,.data⟩ (by simp) rfl
   simp only[af,K9,K8] at d5
   refine ae.value (.agg #[.bool s3,.slice a3 n3 c3]) ?_ (aa rfl)
   go_simp
  ·cases so ho
   refine ae.value (.agg #[.bool s1,.slice a1 n1 c1,.bool s2,.slice a2 n2 c2]) ?_ (aa rfl)
   go_simp
  ·cases so ho
   have d7:=hdep ⟨7,.data⟩ (by simp) rfl
   simp only[af,K9,K8] at d7
   refine ae.call 73 #[.agg #[.bool s1,.slice a1 n1 c1,.bool s2,.slice a2 n2 c2]] (by go_simp) ((MB1.out _ wi (hx.kept hki)).mono ?_)
   rintro e w7 ⟨v,rfl,hv,hk7⟩
   exact⟨v,rfl,hv,hk7,trivial⟩
  ·cases so ho
   have d6:=hdep ⟨6,.data⟩ (by simp) rfl
   have d8:=hdep ⟨8,.data⟩ (by simp) rfl
   simp only[af,K9,K8] at d6 d8
   refine ae.call 81 #[.agg #[.bool s3,.slice a3 n3 c3],f 8] (by go_simp) ((M2.out _ _ wi (hy1.kept hki) d8).mono ?_)
   rintro e w7 ⟨v,rfl,hv,hk7⟩
   exact⟨v,rfl,hv,hk7,trivial⟩
  ·cases so ho
   have d4:=hdep ⟨4,.data⟩ (by simp) rfl
   have d9:=hdep ⟨9,.data⟩ (by simp) rfl
   simp only[af,K9,K8] at d4 d9
   refine ae.call 155 #[f 4,f 9] (by go_simp) ((MC.out _ _ wi d4 d9).mono ?_)
   rintro e w7 ⟨rfl,hk7⟩
   exact⟨_,rfl,rfl,hk7,trivial⟩
  ·omega
 ·intro f wi hki hall hap
  have hk:=Kept.comp _ _ _ hk hki
  have hB1:=hB1.kept hki
  have hB2:=hB2.kept hki
  have hx:=hx.kept hki
  have hx1:=hx1.kept hki
  have hy:=hy.kept hki
  have hy1:=hy1.kept hki
  have he:=hall 10 (by decide)
  simp only[af,K9,K8] at he
  clear hall hap
  simp only[List.drop_succ_cons,List.drop_zero]
  rw[he]
  clear MB1 MB2 M1 M2 MC hx hy hx1 hy1 hB1 hB2
  go_wp2
  go_ret
  exact⟨rfl,hk⟩
end Go.Proofs.YtjbcmmaniphkkaaGreatDoor.E
namespace Go.Proofs.YtjbcmmaniphkkaaGreatDoor
open Go.RowKit LimbNum
theorem Bf {n g:Nat} (hg:0<g):n<((g+n/g)/2+1)*((g+n/g)/2+1):=by
 have h1:n<g*(n/g+1):=by
  have:=Nat.div_add_mod n g
  have:=Nat.mod_lt n hg
  rw[Nat.mul_add,Nat.mul_one];omega
 generalize n/g=q at *
 have h2:g+q+1≤2*((g+q)/2+1):=by omega
 generalize (g+q)/2+1=t at *
 have h3:(g+q+1)*(g+q+1)≤(2*t)*(2*t):=Nat.mul_le_mul h2 h2
 have h4:4*(g*(q+1))≤(g+q+1)*(g+q+1):=by
  have:((g:Int)-(q+1))*(g-(q+1)) ≥ 0:=by
   rcases Int.le_total (g:Int) (q+1) with h|h
   ·exact Int.mul_nonneg_of_nonpos_of_nonpos (by omega) (by omega)
   ·exact Int.mul_nonneg (by omega) (by omega)
  have e:(4*((g:Int)*(q+1)))≤((g:Int)+q+1)*(g+q+1):=by grind
  exact_mod_cast e
 have h5:(2*t)*(2*t)=4*(t*t):=by grind
 omega
theorem Bg {n g:Nat} (h:g≤(g+n/g)/2):g*g≤n:=by
 have h1:g≤n/g:=by omega
 exact Nat.le_trans (Nat.mul_le_mul_left g h1) (Nat.mul_div_le n g)
theorem xR {n:Nat} (h:n≠0):n<(2^((bj n+1)/2)+1)*(2^((bj n+1)/2)+1):=by
 have h1:n<2^bj n:=by
  unfold bj
  rw[if_neg h]
  exact (Nat.log2_lt h).1 (by omega)
 have h2:2^bj n≤2^((bj n+1)/2+(bj n+1)/2):=Nat.pow_le_pow_right (by omega) (by omega)
 rw[Nat.pow_add] at h2
 generalize 2^((bj n+1)/2)=t at *
 rw[Nat.mul_add,Nat.add_mul]
 omega
theorem ae.out {P:Program} {ρ:Operand→Value} {o:Oper} {w w':World} {T:Value→World→Prop} (v:Value)
  (h:(execOp ρ o).run P w=.ok (.value v) w') (hT:T v w'):ae P ρ o w T:=by
 unfold ae;rw[h];exact hT
theorem se (w:World) (base:Nat) (hb:base≤w.heap.size) (t:TypeId) (cs:List Value):af (some (.new base t cs)) (.pointer (some ⟨w.heap.size,0,none⟩)) (w.alloc (.cells cs.toArray t))∧Kept w (w.alloc (.cells cs.toArray t)):=
 ⟨⟨_,rfl,hb,aJ w t cs⟩,ak _ _⟩
theorem Lim.FD {w w':World} {l:Value} {m b:Nat} {t:TypeId} {s:Bool} {a0:Option Addr} {n0 c0:Nat} (h:Lim w l m) (hB:Blk w b t [.bool s,.slice a0 n0 c0]) (hs:w.heap.size≤w'.heap.size)
  (ho:∀ k,k≠b→w'.heap[k]?=w.heap[k]?):Lim w' l m:=by
 obtain⟨a,c,rfl,hc,hr⟩:=h
 refine ⟨a,c,rfl,hc,?_⟩
 rcases hr with hr|⟨b',off,rfl,hb,hcell⟩
 ·exact .inl hr
 ·refine .inr ⟨b',off,rfl,Nat.lt_of_lt_of_le hb hs,fun i hi=>?_⟩
  by_cases hbb:b'=b
  ·exfalso
   subst hbb
   have h1:=hcell i hi
   unfold World.cell? at h1
   rw[hB] at h1
   simp only[Option.isSome_none,Bool.false_eq_true,if_false,List.getElem?_toArray] at h1
   generalize off+i=q at h1
   rcases q with _|_|k<;>simp at h1
  ·rw[World.cell?_of_block (w:=w) (ho b' hbb)]
   exact hcell i hi
noncomputable def rtM (gb:Nat) (wr:World):Nat:=match wr.cell? ⟨gb,1,none⟩ with
 | some v=>numOf wr v
 | none=>0
def Cb (w:World) (n:Int) (gb:Nat) (s:Bool) (a:Option Addr) (z c:Nat) (wr:World):Prop:=∃ (G:Nat) (ag:Option Addr) (kg:Nat),Blk wr gb 95 [.bool false,.slice ag (size G) kg]∧Lim wr (.slice ag (size G) kg) G∧Hid (0<G∧n.natAbs<(G+1)*(G+1)∧size G≤16777216) ∧
 Blk wr w.heap.size 95 [.bool s,.slice a z c]∧Blk wr (w.heap.size+1) 95 [.bool false,.slice none 0 0]∧Below w.heap.size w wr
theorem Ca (v:Value) (n:Int) (w:World) (h:Whole w v n) (hn:0<n) (hm:size n.natAbs≤16777216) :
  Calls Tryz.prog 72 #[v] w fun e w'=>∃ v,e=.returned v∧(∃ r:Nat,r*r≤n.natAbs∧n.natAbs<(r+1)*(r+1)∧Whole w' v (r:Int))∧Kept w w':=by
 have msg:=K7 fun w' (hk:Kept w w')=>bZ v n w' (h.kept hk) (by omega)
 have mbl:=K7 fun w' (hk:Kept w w')=>kx v n w' (h.kept hk) (by omega)
 have mof:=K7 fun w'=>jg 1 w' (by omega) (by omega)
 have msh:=K7 fun w' u c (hu:Whole w' u 1) (hc:c≤1073741824)=>nH u 1 c w' hu (by decide) hc
 have H:=K7 h
 obtain⟨l,rfl,a,c,rfl,_⟩:=h
 have hbb:bj n.natAbs≤64*size n.natAbs:=by
  have h0:n.natAbs≠0:=by omega
  rw[kb h0]
  have h1:=fy ((ao n.natAbs).get (size n.natAbs-1))
  have h2:=LimbNum.size_pos.2 h0
  omega
 have HF:=K7 (xR (n:=n.natAbs) (by omega))
 have hbl2:=K7 hbb
 have hs1:n.sign=1:=Int.sign_eq_one_of_pos hn
 rw[hs1] at msg
 have hmS:=K7 (show ∀ m,m≤n.natAbs→size m≤16777216 from fun m h=>Nat.le_trans (aK h) hm)
 have hm2:=K7 hm
 have hn2:=K7 hn
 obtain⟨bI,hbI,q1,q2⟩:∃ bI:Int,bI=(bj n.natAbs:Nat)∧0≤bI∧bI≤1073741824:=⟨_,rfl,by omega,by omega⟩
 rw[←hbI] at mbl
 have wq:IntKind.i64.wrap (bI+1)=bI+1:=IntWalk.i64_in _ (by omega)
 have wd:IntKind.i64.wrap ((bI+1).tdiv 2)=(bI+1)/2:=by
  rw[Int.tdiv_eq_ediv_of_nonneg (by omega)]
  exact IntWalk.i64_in _ (by omega)
 have hbI2:=K7 hbI
 clear hm hn hbb hs1 hbI
 generalize size n.natAbs=z at *
 generalize decide (n<0)=s at *
 go_enter Tryz.func72,Tryz.ntmps72
 go_wp2_with fail
 obtain⟨hk,hB1,hB3⟩:=bp w [.bool s,.slice a z c] [.bool false,.slice none 0 0] 95 95
 generalize (w.alloc (.cells [.bool s,.slice a z c].toArray _)).alloc (.cells [.bool false,.slice none 0 0].toArray _)=w2 at *
 refine (msg.out _ hk).mono ?_
 rintro e w3 ⟨rfl,hk3⟩
 replace hB1:=hB1.kept hk3
 replace hB3:=hB3.kept hk3
 replace hk:=Kept.comp _ _ _ hk hk3
 clear msg hk3
 have hl1:=hB1.lt
 have hl3:=hB3.lt
 have hgk:=hk.size
 go_wp2_with fail
 refine aj 7 [.int 1,.is (.agg #[.bool s,.slice a z c]),.is (.int .i64 bI),.is (.int .i64 (bI+1)),.is (.int .i64 ((bI+1)/2)),.int (1*2^((bI+1)/2).toNat),.new w3.heap.size 95 [.bool false,.slice none 0 0]] [0,1,2,3,4,5,6] (by kernel_rfl) (by kernel_rfl) (by kernel_rfl) (by kernel_rfl) (by kernel_rfl) (by kernel_rfl) (by intro f;simp only[laid,List.foldl_cons,List.foldl_nil,List.getElem?_toArray,K9,K8,Option.bind_some,Act.put,List.setIfInBounds_toArray,List.set_cons_zero,List.set_cons_succ];rfl) ?_ ?_
 ·intro i o him ho f wi hki hdep
  have c1:=(hB1.kept hki).cell 0 rfl
  have c2:=(hB1.kept hki).cell 1 rfl
  rcases i with _|_|_|_|_|_|_|i
  ·cases so ho
   refine ae.call 150 #[.int .i64 1] (by go_simp) ((mof.out wi).mono ?_)
   rintro e w4 ⟨u,rfl,hu,hk4⟩
   exact⟨u,rfl,hu,hk4⟩
  ·cases so ho
   refine ae.value (.agg #[.bool s,.slice a z c]) ?_ (aa rfl)
   go_simp
  ·cases so ho
   have d1:=hdep ⟨1,.data⟩ (by simp) rfl
   simp only[af,K9,K8] at d1
   refine ae.call 152 #[.agg #[.bool s,.slice a z c]] (by go_simp) ((mbl.out wi (Kept.comp _ _ _ hk hki)).mono ?_)
   rintro e w4 ⟨rfl,hk4⟩
   exact⟨_,rfl,rfl,hk4⟩
  ·cases so ho
   have d2:=hdep ⟨2,.data⟩ (by simp) rfl
   simp only[af,K9,K8] at d2
   refine ae.value (.int .i64 (bI+1)) ?_ (aa rfl)
   go_simp
  ·cases so ho
   have d3:=hdep ⟨3,.data⟩ (by simp) rfl
   simp only[af,K9,K8] at d3
   refine ae.value (.int .i64 ((bI+1)/2)) ?_ (aa rfl)
   go_simp
  ·cases so ho
   have d0:=hdep ⟨0,.data⟩ (by simp) rfl
   have d4:=hdep ⟨4,.data⟩ (by simp) rfl
   simp only[af,K9,K8] at d0 d4
   refine ae.call 151 #[f 0,.int .i64 ((bI+1)/2)] (by go_simp) ((msh.out wi _ _ d0 (by omega)).mono ?_)
   rintro e w4 ⟨u,rfl,hu,hk4⟩
   exact⟨u,rfl,hu,hk4⟩
  ·cases so ho
   refine ae.out (.pointer (some ⟨wi.heap.size,0,none⟩)) (w':=wi.alloc (.cells ([Value.bool false,Value.slice none 0 0]:List Value).toArray 95)) ?_ ?_
   ·go_simp
   ·exact se wi w3.heap.size hki.size 95 [Value.bool false,Value.slice none 0 0]
  ·omega
 ·intro f wi hki hall
  have g5:=hall 5 (by decide)
  have g6:=hall 6 (by decide)
  simp only[af,K9,K8] at g5 g6
  clear hall mbl mof msh
  obtain⟨gb,e6,hgb,hG⟩:=g6
  rw[e6]
  have e1:(1:Int)*2^((bI+1)/2).toNat=((2^((bj n.natAbs+1)/2):Nat):Int):=by
   rw[Int.one_mul,Int.natCast_pow,hbI2.out]
   congr 1
  rw[e1] at g5
  have HS:=K7 (sD ((bj n.natAbs+1)/2) 16777216 (by have:=hbI2.out;omega))
  have HP:=K7 (Nat.pow_pos (n:=(bj n.natAbs+1)/2) (show 0<2 by omega))
  generalize 2^((bj n.natAbs+1)/2)=G0 at *
  obtain⟨lg,e5,hlg⟩:=id g5
  rw[show decide (((G0:Nat):Int)<0)=false by simp] at e5
  rw[Int.natAbs_natCast] at hlg
  obtain⟨a5,k5,rfl,_⟩:=id hlg
  rw[e5]
  simp only[List.drop_succ_cons,List.drop_zero]
  replace hk:=Kept.comp _ _ _ hk hki
  replace hB1:=hB1.kept hki
  replace hB3:=hB3.kept hki
  have r0:=hG.cell 0 rfl
  have r1:=hG.cell 1 rfl
  have f0:=hG.free 0
  have f1:=hG.free 1
  clear e1 e5 e6 g5 hbI2 wq wd q1 q2 hbl2
  generalize hgz:size G0=gz at *
  go_wp2_with fail
  have hne1:w.heap.size≠gb:=by omega
  have hne3:w.heap.size+1≠gb:=by omega
  replace hgb:w.heap.size≤gb:=by omega
  have hG':=hG.nA (.bool false) (.slice a5 gz k5)
  have hB1':=hB1.ef (b:=gb) hne1 (.bool false) (.slice a5 gz k5)
  have hB3':=hB3.ef (b:=gb) hne3 (.bool false) (.slice a5 gz k5)
  have hlg':Lim ((wi.setCell ⟨gb,0,none⟩ (.bool false)).setCell ⟨gb,1,none⟩ (.slice a5 gz k5)) (.slice a5 gz k5) G0:=hlg.beside hG (by simp[World.setCell]) fun k hk=>by
   rw[heap_setCell_other _ ⟨gb,1,none⟩ k _ (by simpa using hk),heap_setCell_other _ ⟨gb,0,none⟩ k _ (by simpa using hk)]
  have hk':Kept w ((wi.setCell ⟨gb,0,none⟩ (.bool false)).setCell ⟨gb,1,none⟩ (.slice a5 gz k5)):=(Below.setCell hk hgb _).setCell hgb _
  generalize (wi.setCell ⟨gb,0,none⟩ (.bool false)).setCell ⟨gb,1,none⟩ (.slice a5 gz k5)=w6 at *
  clear hG hB1 hB3 hlg hki r0 r1 f0 f1 hk
  subst hgz
  go_loopw [4] (fun _ wr=>Cb w n gb s a z c wr) (fun _ wr=>rtM gb wr)
  case atStart=>
   unfold Cb
   exact⟨G0,a5,k5,hG',hlg',K7 ⟨HP.out,HF.out,HS.out⟩,hB1',hB3',hk'⟩
  case round=>
   obtain⟨G,ag,kg,hG,hlg,HD,hB1,hB3,hbel⟩:=hrel
   have hm:=hG.cell 1 (u:=.slice ag (size G) kg) rfl
   have hwG:Whole wr (.agg #[.bool false,.slice ag (size G) kg]) ((G:Nat):Int):=iv hlg
   have hnn:n=((n.natAbs:Nat):Int):=by have:=hn2.out;omega
   have hN1:=K7 (Bf (n:=n.natAbs) HD.out.1)
   have hN2:=K7 (Bg (n:=n.natAbs) (g:=G))
   have hq:n.tdiv ((G:Nat):Int)=((n.natAbs/G:Nat):Int):=by
    rw[Int.ofNat_tdiv,←hnn]
   have hN:(((G:Nat):Int)+((n.natAbs/G:Nat):Int)).tdiv 2=(((G+n.natAbs/G)/2:Nat):Int):=by
    rw[←Int.natCast_add];exact (Int.ofNat_tdiv _ 2).symm
   have hqs:size (n.natAbs/G)≤16777216:=hmS.out _ (Nat.div_le_self _ _)
   have hss:size ((((G:Nat):Int)+((n.natAbs/G:Nat):Int)).natAbs)≤536870912:=by
    rw[←Int.natCast_add,Int.natAbs_natCast]
    have:=mh G (n.natAbs/G)
    have:=HD.out.2.2
    omega
   have mQ:=K7 fun w' u1 u2 (h1:Whole w' u1 n) (h2:Whole w' u2 ((G:Nat):Int))=>oG u1 u2 n ((G:Nat):Int) w' h1 h2 (by have:=hmS.out _ (K6 _);omega) (by rw[Int.natAbs_natCast];have:=HD.out.2.2;omega)
   rw[hq] at mQ
   have mA:=K7 fun w' u1 u2 (h1:Whole w' u1 ((G:Nat):Int)) (h2:Whole w' u2 ((n.natAbs/G:Nat):Int))=>jG u1 u2 ((G:Nat):Int) ((n.natAbs/G:Nat):Int) w' h1 h2 (by rw[Int.natAbs_natCast];have:=HD.out.2.2;omega) (by rw[Int.natAbs_natCast];omega)
   have mQ2:=K7 fun w' u1 u2 (h1:Whole w' u1 (((G:Nat):Int)+((n.natAbs/G:Nat):Int))) (h2:Whole w' u2 2)=>oG u1 u2 _ 2 w' h1 h2 hss (by decide)
   rw[hN] at mQ2
   have m2:=K7 fun w'=>jg 2 w' (by omega) (by omega)
   have hNs:=K7 (show size ((G+n.natAbs/G)/2)≤536870912 from Nat.le_trans (aK (Nat.div_le_self _ _)) (by rw[←Int.natCast_add,Int.natAbs_natCast] at hss;exact hss))
   generalize hNN:(G+n.natAbs/G)/2=N at *
   generalize ((G:Nat):Int)+((n.natAbs/G:Nat):Int)=S at *
   generalize ((n.natAbs/G:Nat):Int)=Q at *
   have hb1:=hB1.lt
   have hb3:=hB3.lt
   have hbg:=hG.lt
   clear hq hN hqs hss hnn hNN
   generalize hGs:size G=gz at *
   go_wp2_with fail
   refine aj 8 [.is (.agg #[.bool false,.slice ag gz kg]),.is (.agg #[.bool s,.slice a z c]),.is (.agg #[.bool false,.slice ag gz kg]),.int Q,.int S,.int 2,.int (N:Int),.new wr.heap.size 95 [.bool false,.slice none 0 0]] [0,1,2,3,4,5,6,7] (by kernel_rfl) (by kernel_rfl) (by kernel_rfl) (by kernel_rfl) (by kernel_rfl) (by kernel_rfl) (by intro f;simp only[laid,List.foldl_cons,List.foldl_nil,List.getElem?_toArray,K9,K8,Option.bind_some,Act.put,List.setIfInBounds_toArray,List.set_cons_zero,List.set_cons_succ];rfl) ?_ ?_
   ·intro i o him ho f wi hki hdep
    have c1:=(hB1.kept hki).cell 0 rfl
    have c2:=(hB1.kept hki).cell 1 rfl
    have c3:=(hG.kept hki).cell 0 rfl
    have c4:=(hG.kept hki).cell 1 rfl
    rcases i with _|_|_|_|_|_|_|_|i
    ·cases so ho
     refine ae.value (.agg #[.bool false,.slice ag gz kg]) ?_ (aa rfl)
     go_simp
    ·cases so ho
     refine ae.value (.agg #[.bool s,.slice a z c]) ?_ (aa rfl)
     go_simp
    ·cases so ho
     refine ae.value (.agg #[.bool false,.slice ag gz kg]) ?_ (aa rfl)
     go_simp
    ·cases so ho
     have d1:=hdep ⟨1,.data⟩ (by simp) rfl
     have d2:=hdep ⟨2,.data⟩ (by simp) rfl
     simp only[af,K9,K8] at d1 d2
     refine ae.call 154 #[.agg #[.bool s,.slice a z c],.agg #[.bool false,.slice ag gz kg]] (by go_simp) ((mQ.out wi _ _ (H.out.kept (Kept.comp _ _ _ hbel hki)) (hwG.kept hki)).mono ?_)
     rintro e w4 ⟨u,rfl,hu,hk4⟩
     exact⟨u,rfl,hu,hk4⟩
    ·cases so ho
     have d0:=hdep ⟨0,.data⟩ (by simp) rfl
     have d3:=hdep ⟨3,.data⟩ (by simp) rfl
     simp only[af,K9,K8] at d0 d3
     refine ae.call 153 #[.agg #[.bool false,.slice ag gz kg],f 3] (by go_simp) ((mA.out wi _ _ (hwG.kept hki) d3).mono ?_)
     rintro e w4 ⟨u,rfl,hu,hk4⟩
     exact⟨u,rfl,hu,hk4⟩
    ·cases so ho
     refine ae.call 150 #[.int .i64 2] (by go_simp) ((m2.out wi).mono ?_)
     rintro e w4 ⟨u,rfl,hu,hk4⟩
     exact⟨u,rfl,hu,hk4⟩
    ·cases so ho
     have d4:=hdep ⟨4,.data⟩ (by simp) rfl
     have d5:=hdep ⟨5,.data⟩ (by simp) rfl
     simp only[af,K9,K8] at d4 d5
     refine ae.call 154 #[f 4,f 5] (by go_simp) ((mQ2.out wi _ _ d4 d5).mono ?_)
     rintro e w4 ⟨u,rfl,hu,hk4⟩
     exact⟨u,rfl,hu,hk4⟩
    ·cases so ho
     refine ae.out (.pointer (some ⟨wi.heap.size,0,none⟩)) (w':=wi.alloc (.cells ([Value.bool false,Value.slice none 0 0]:List Value).toArray 95)) ?_ ?_
     ·go_simp
     ·exact se wi wr.heap.size hki.size 95 [Value.bool false,Value.slice none 0 0]
    ·omega
   ·intro f wi hki hall
    have g6:=hall 6 (by decide)
    have g7:=hall 7 (by decide)
    simp only[af,K9,K8] at g6 g7
    clear hall mQ mA mQ2 m2
    obtain⟨nb,e7,hnb,hNb⟩:=g7
    obtain⟨ln,e6,hln⟩:=id g6
    rw[show decide (((N:Nat):Int)<0)=false by simp] at e6
    rw[Int.natAbs_natCast] at hln
    obtain⟨an,kn,rfl,_⟩:=id hln
    rw[e7,e6]
    rw[e6] at g6
    simp only[List.drop_succ_cons,List.drop_zero]
    replace hbel:=Kept.comp _ _ _ hbel hki
    replace hB1:=hB1.kept hki
    replace hB3:=hB3.kept hki
    replace hG:=hG.kept hki
    replace hwG:=hwG.kept hki
    have r0:=hNb.cell 0 rfl
    have r1:=hNb.cell 1 rfl
    have f0:=hNb.free 0
    have f1:=hNb.free 1
    have hnum:=K7 (show rtM gb wr=G by unfold rtM;rw[hm];exact ct hlg)
    clear e6 e7 hlg hm
    have hnw:w.heap.size≤nb:=by have:=hb1;omega
    generalize hnz:size N=nz at *
    have hN1':=hNb.nA (.bool false) (.slice an nz kn)
    have hG':=hG.ef (b:=nb) (by omega) (.bool false) (.slice an nz kn)
    have hB1':=hB1.ef (b:=nb) (by omega) (.bool false) (.slice an nz kn)
    have hB3':=hB3.ef (b:=nb) (by omega) (.bool false) (.slice an nz kn)
    have hwG':=hwG.store (u1:=.bool false) (u2:=.slice an nz kn) hNb
    have hwN':=g6.store (u1:=.bool false) (u2:=.slice an nz kn) hNb
    have hk':Kept w ((wi.setCell ⟨nb,0,none⟩ (.bool false)).setCell ⟨nb,1,none⟩ (.slice an nz kn)):=(Below.setCell hbel hnw _).setCell hnw _
    have p0:=hN1'.cell 0 rfl
    have p1:=hN1'.cell 1 rfl
    have p2:=hG'.cell 0 rfl
    have p3:=hG'.cell 1 rfl
    have mC:=K7 (jd _ _ _ _ _ hwN' hwG' (by rw[Int.natAbs_natCast];have:=hNs.out;omega) (by rw[Int.natAbs_natCast];have:=HD.out.2.2;omega))
    have HA:=K7 (And.intro hN1' (And.intro hG' (And.intro hB1' (And.intro hB3' (And.intro hwG' (And.intro hwN' hk'))))))
    have HB:=K7 (And.intro hGs (And.intro hgb (And.intro hnz (And.intro hnw (And.intro hb1 (And.intro hbg hb3))))))
    clear HF HS HP H hmS hm2 hNs hNb hG hB1 hB3 hwG g6 hbel hki hnb hln hN1' hG' hB1' hB3' hwG' hwN' hk' hGs hgb hnz hnw hb1 hbg hb3
    go_wp2_with fail
    refine (mC.out).mono ?_
    rintro e w7 ⟨rfl,hk7⟩
    obtain⟨hN1',hG',hB1',hB3',hwG',hwN',hk'⟩:=HA.out
    obtain⟨hGs,hgb,hnz,hnw,hb1,hbg,hb3⟩:=HB.out
    replace hk':=Kept.comp _ _ _ hk' hk7
    replace hN1':=hN1'.kept hk7
    replace hG':=hG'.kept hk7
    replace hB1':=hB1'.kept hk7
    replace hB3':=hB3'.kept hk7
    replace hwG':=hwG'.kept hk7
    replace hwN':=hwN'.kept hk7
    clear hk7 mC r0 r1 f0 f1 p0 p1 p2 p3 HA HB
    have hNpos:0<N:=by
     rcases Nat.eq_zero_or_pos N with h0|h0
     ·have h1:=hN1.out
      rw[h0] at h1
      have:=hn2.out
      omega
     ·exact h0
    by_cases hc:N<G
    ·have hcv:jm ((N:Nat):Int) ((G:Nat):Int) = -1:=by unfold jm;rw[if_pos (by omega)]
     rw[hcv]
     have HN:=K7 (show 0<N∧n.natAbs<(N+1)*(N+1)∧size N≤16777216 from ⟨hNpos,hN1.out,Nat.le_trans (aK (Nat.le_of_lt hc)) (by have:=HD.out.2.2;omega)⟩)
     have Hc:=K7 hc
     have t0:=hN1'.cell 0 rfl
     have t1:=hN1'.cell 1 rfl
     have t2:=hG'.cell 0 rfl
     have t3:=hG'.cell 1 rfl
     have f0:=hG'.free 0
     have f1:=hG'.free 1
     have hgw:w.heap.size≤gb:=hgb
     clear hcv hc hNpos hN1 hN2 HD
     go_wp2
     have hGn:=hG'.nA (.bool false) (.slice an nz kn)
     have hB1n:=hB1'.ef (b:=gb) (by omega) (.bool false) (.slice an nz kn)
     have hB3n:=hB3'.ef (b:=gb) (by omega) (.bool false) (.slice an nz kn)
     have hkn:Kept w ((w7.setCell ⟨gb,0,none⟩ (.bool false)).setCell ⟨gb,1,none⟩ (.slice an nz kn)):=(Below.setCell hk' hgw _).setCell hgw _
     obtain⟨ln,eln,hln⟩:=hwN'
     simp only[Value.agg.injEq,Array.mk.injEq,List.cons.injEq,and_true] at eln
     obtain⟨_,rfl⟩:=eln
     rw[Int.natAbs_natCast] at hln
     have hlN:=hln.FD (w':=(w7.setCell ⟨gb,0,none⟩ (.bool false)).setCell ⟨gb,1,none⟩ (.slice an nz kn)) hG' (by simp[World.setCell]) fun k hk=>by
      rw[heap_setCell_other _ ⟨gb,1,none⟩ k _ (by simpa using hk),heap_setCell_other _ ⟨gb,0,none⟩ k _ (by simpa using hk)]
     subst hnz
     go_roundw
     case rel=>
      unfold Cb
      exact⟨N,an,kn,hGn,hlN,HN,hB1n,hB3n,hkn⟩
     case measure=>
      rw[hnum.out]
      unfold rtM
      rw[hGn.cell 1 (u:=.slice an (size N) kn) rfl]
      show numOf _ _<G
      rw[ct hlN]
      exact Hc.out
    ·have hcv:jm ((N:Nat):Int) ((G:Nat):Int)=0∨jm ((N:Nat):Int) ((G:Nat):Int)=1:=by
      unfold jm
      rw[if_neg (by omega)]
      split<;>simp
     have HR:=K7 (show G*G≤n.natAbs∧n.natAbs<(G+1)*(G+1) from ⟨hN2.out (by omega),HD.out.2.1⟩)
     have t2:=hG'.cell 0 rfl
     have t3:=hG'.cell 1 rfl
     have t4:=hB3'.cell 0 rfl
     have t5:=hB3'.cell 1 rfl
     have f0:=hB3'.free 0
     have f1:=hB3'.free 1
     generalize jm ((N:Nat):Int) ((G:Nat):Int)=z at *
     clear hc hNpos hN1 hN2 HD hwN' hN1'
     rcases hcv with rfl|rfl
     ·go_wp2
      obtain⟨rB,rv,rk⟩:=E.tK (w:=w) (show Blk _ _ _ E.dI from hB3') (by omega) hk' hwG'
      have p0:=rB.cell 0 rfl
      have p1:=rB.cell 1 rfl
      exact bodyPost_ret (v:=.agg #[.bool false,.slice ag gz kg]) (by simp[results,Tryz.results72,go_sem,p0,p1]) rfl ⟨_,rfl,⟨G,HR.out.1,HR.out.2,rv⟩,rk⟩
     ·go_wp2
      obtain⟨rB,rv,rk⟩:=E.tK (w:=w) (show Blk _ _ _ E.dI from hB3') (by omega) hk' hwG'
      have p0:=rB.cell 0 rfl
      have p1:=rB.cell 1 rfl
      exact bodyPost_ret (v:=.agg #[.bool false,.slice ag gz kg]) (by simp[results,Tryz.results72,go_sem,p0,p1]) rfl ⟨_,rfl,⟨G,HR.out.1,HR.out.2,rv⟩,rk⟩
theorem zN (v:Value) (n:Int) (w:World) (h:Whole w v n) (hn:n≤0) (hm:size n.natAbs≤16777216) :
  Calls Tryz.prog 72 #[v] w fun e w'=>∃ v,e=.returned v∧Whole w' v 0∧Kept w w':=by
 have hs:n.sign=0∨n.sign = -1:=by
  rcases Int.lt_or_eq_of_le hn with h|h
  ·exact .inr (Int.sign_eq_neg_one_of_neg h)
  ·exact .inl (by rw[h];rfl)
 have msg:=K7 fun w' (hk:Kept w w')=>bZ v n w' (h.kept hk) (by omega)
 have hz0:∀ W,Whole W (.agg #[.bool false,.slice none 0 0]) 0:=fun W=>⟨_,rfl,none,0,rfl,K6 _,.inl ⟨rfl,bc⟩⟩
 have HZ:=K7 hz0
 obtain⟨l,rfl,a,c,rfl,_⟩:=h
 clear hm hn hz0
 generalize n.sign=g at *
 generalize size n.natAbs=z at *
 generalize decide (n<0)=s at *
 obtain⟨hk,hB1,hB3⟩:=bp w [.bool s,.slice a z c] [.bool false,.slice none 0 0] 95 95
 go_enter Tryz.func72,Tryz.ntmps72
 go_wp2_with fail
 generalize (w.alloc (.cells [.bool s,.slice a z c].toArray _)).alloc (.cells [.bool false,.slice none 0 0].toArray _)=w2 at *
 refine (msg.out _ hk).mono ?_
 rintro e w3 ⟨rfl,hk3⟩
 replace hB3:=hB3.kept hk3
 replace hk:=Kept.comp _ _ _ hk hk3
 clear msg hk3
 have t4:=hB3.cell 0 rfl
 have t5:=hB3.cell 1 rfl
 have f0:=hB3.free 0
 have f1:=hB3.free 1
 rcases hs with rfl|rfl
 ·go_wp2
  obtain⟨rB,rv,rk⟩:=E.tK (w:=w) (show Blk _ _ _ E.dI from hB3) (by omega) hk (HZ.out _)
  have p0:=rB.cell 0 rfl
  have p1:=rB.cell 1 rfl
  exact bodyPost_ret (v:=.agg #[.bool false,.slice none 0 0]) (by simp[results,Tryz.results72,go_sem,p0,p1]) rfl ⟨_,rfl,rv,rk⟩
 ·go_wp2
  obtain⟨rB,rv,rk⟩:=E.tK (w:=w) (show Blk _ _ _ E.dI from hB3) (by omega) hk (HZ.out _)
  have p0:=rB.cell 0 rfl
  have p1:=rB.cell 1 rfl
  exact bodyPost_ret (v:=.agg #[.bool false,.slice none 0 0]) (by simp[results,Tryz.results72,go_sem,p0,p1]) rfl ⟨_,rfl,rv,rk⟩
end Go.Proofs.YtjbcmmaniphkkaaGreatDoor
