import Derived.KernelRfl
import Derived.Test.YtjbcmmaniphkkaaGreatDoorSx4
set_option linter.unusedSectionVars false
set_option linter.unusedVariables false
set_option linter.unusedSimpArgs false
namespace Go.Sx
open LimbNum
variable [Unk] [Glob]
section
variable {P : Program} {E : Env} {n : Nat} {ops : Array Oper} {p : Nat} {tms : Nat → Tr AV} {sts : Nat → Hp} {avs : Nat → AV} {rns : Nat → Bool} {es : List Ent}
theorem Jn.KL (T:Track P n ops p ops.toList tms sts avs rns es) (S:Stat ops p) {a0:Act} {m0:Nm} {w0:World} {L:Nat→Bool} {q:Nat} {m:Nm} {a:Act} {w:World}
  (J:Jn ops p n tms sts avs a0 m0 w0 L q m a w) {i:Nat} {o:Oper} (ho:ops[i]?=some o) (hu:L i=false) (hd:∀ e∈o.after,Region.binds .any e=true→L e.on=true):jZ m w (evO (tms i)) a o:=by
 intro x hx
 cases x with
 | tmp t=>
  rw[evO]
  cases hg:(tms i).get t with
  | none=>exact me _ _ _
  | some av=>
   have ht:t∈nW ops o:=by
    unfold nW
    refine List.mem_append.2 (.inl (List.mem_filterMap.2 ⟨.tmp t,by simpa using hx,rfl⟩))
   obtain⟨v,h1,h2⟩:=J.vals t av (vL T S J.cl ho hu hd ht hg)
   simpa [Act.eval,Array.getD_eq_getD_getElem?,h1] using h2
 | const v=>rw[evO];exact jT m w v
 | global g=>rw[evO,RV];rfl
 | func f=>rw[evO,RV];exact⟨[],rfl,by rw[RVs]⟩
theorem Jn.wanted (T:Track P n ops p ops.toList tms sts avs rns es) (S:Stat ops p) {a0:Act} {m0:Nm} {w0:World} {L:Nat→Bool} {q:Nat} {m:Nm} {a:Act} {w:World}
  (J:Jn ops p n tms sts avs a0 m0 w0 L q m a w) {i:Nat} {o:Oper} (ho:ops[i]?=some o) (hu:L i=false) (hd:∀ e∈o.after,Region.binds .any e=true→L e.on=true):Region.wanted o (yielded ops a.tmps)=rns i:=
 qS (T.at ho).want fun j b' hg t ht av hav=>J.vals t av (vL T S J.cl ho hu hd (by
  unfold nW
  refine List.mem_append.2 (.inr ?_)
  simp only[hg,ht]
  simp) hav)
theorem Jn.step (T:Track P n ops p ops.toList tms sts avs rns es) (S:Stat ops p) (hD:p=ops.size∨uv ops (bef ops) p es=true) (hdom:Dom (sts 0)) {a0:Act} {m0:Nm} {w0:World} {L L':Nat→Bool} {q:Nat} {m:Nm} {a:Act} {w:World}
  (J:Jn ops p n tms sts avs a0 m0 w0 L q m a w) {i:Nat} {o:Oper} (ho:ops[i]?=some o) (hu:L i=false) (hL:∀ j,L' j=(j==i || L j)) (hd:∀ e∈o.after,Region.binds .any e=true→L e.on=true)
  {K:Act→World→Prop} {Q:Exit→Act→World→Prop} (hK:∀ q' m' a' w',Jn ops p n tms sts avs a0 m0 w0 L' q' m' a' w'→K a' w') (ro:Option Nat):wpOpIn (Fw ro) 0 P ops Q i K a w:=by
 have hi:=gA ho
 have hst:=T.at ho
 have hiq:p≤i→i=q:=fun hpi=>by
  have h1:¬i<q:=fun h=>by rw[(J.tail i hpi hi).2 h] at hu;cases hu
  rcases Nat.lt_or_ge q i with h2|h2
  ·exfalso
   obtain⟨oq,hoq⟩:=nU (ops:=ops) (i:=q) (by omega)
   have h3:L q=true:=by
    rcases S.pair i o q oq ho hoq h2 with h3|⟨_,h3|h3⟩
    ·exact J.cl.rch S i o ho hd q h3
    ·omega
    ·have:=J.q1;omega
   have:=(J.tail q J.q1 (by omega)).1 h3
   omega
  ·omega
 unfold wpOpIn
 simp only[ho]
 rw[J.wanted T S ho hu hd]
 have hO:=J.KL T S ho hu hd
 by_cases hrun:rns i=true
 ·rw[if_pos hrun]
  have hnd:=hst.ndf hrun
  by_cases hk:kd o.op=0
  ·obtain⟨e1,e2,hl⟩:=hst.Dq hk
   obtain⟨v,hr,hv⟩:=hl hrun a m w hO (J.Dq T S hD ho hu hrun hiq)
   unfold Oper.wpIn
   refine ⟨fun _ _=>trivial,?_⟩
   rw[Oper.semAt_eq _ _ _ hnd,hr]
   by_cases hip:i<p
   ·exact hK q m _ w (J.next T S ho hu hL hd (.inl ⟨hip,rfl⟩) hv J.rs To.rfl' (dp.rfl' _ _ _))
   ·obtain rfl:=hiq (by omega)
    exact hK (i+1) m _ w (J.next T S ho hu hL hd (.inr ⟨by omega,rfl,rfl⟩) hv (by rw[e1];exact J.rs) (by rw[e1];exact To.rfl') (dp.rfl' _ _ _))
  ·by_cases hip:i<p
   ·have hqp:q=p:=by
     rcases Nat.lt_or_ge p q with h|h
     ·rw[J.heavy h i o hip ho hk] at hu;cases hu
     ·have:=J.q1;omega
    subst hqp
    have hdi:=(T.lQ i (Nat.le_of_lt hi)).dom hdom
    have hsi:RS m w (sts i).h.get:=(J.rs.sub fun b c hb=>by
     have hb':b<(sts i).nx:=by
      rcases Nat.lt_or_ge b (sts i).nx with h|h
      ·exact h
      ·rw[hdi b h] at hb;cases hb
     rw[T.pure S.le hb' q (Nat.le_of_lt hip) (K6 _)];exact hb).1
    refine hst.acts hk hrun ro a m w hnd hO hsi hdi (J.fresh T hi hu) K Q fun v w' m' h1 h2 h3 h4=>?_
    obtain⟨h5,h6⟩:=CO T S hdom ho hip J.rs h2 h3 h4
    exact hK q m' _ w' (J.next T S ho hu hL hd (.inl ⟨hip,rfl⟩) h1 h5 h6 h4)
   ·obtain rfl:=hiq (by omega)
    refine hst.acts hk hrun ro a m w hnd hO J.rs ((T.lQ i (Nat.le_of_lt hi)).dom hdom) (J.fresh T hi hu) K Q fun v w' m' h1 h2 h3 h4=>?_
    exact hK (i+1) m' _ w' (J.next T S ho hu hL hd (.inr ⟨by omega,rfl,rfl⟩) h1 h2 h3 h4)
 ·have hrun':rns i=false:=by simpa using hrun
  rw[if_neg hrun]
  refine ⟨fun _ _=>trivial,?_⟩
  obtain⟨e1,e2⟩:=hst.skip hrun'
  have hv:RV m w (avs i) undef:=by rw[e1];exact zm _ _
  by_cases hip:i<p
  ·exact hK q m _ w (J.next T S ho hu hL hd (.inl ⟨hip,rfl⟩) hv J.rs To.rfl' (dp.rfl' _ _ _))
  ·obtain rfl:=hiq (by omega)
   exact hK (i+1) m _ w (J.next T S ho hu hL hd (.inr ⟨by omega,rfl,rfl⟩) hv (by rw[e2];exact J.rs) (by rw[e2];exact To.rfl') (dp.rfl' _ _ _))
theorem uZ {L:Nat→Bool} {N:Nat} (h:¬∀ i,i<N→L i=true):∃ i,i<N∧L i=false∧∀ j,j<i→L j=true:=by
 induction N with
 | zero=>exact absurd (fun i hi=>by omega) h
 | succ N ih=>
  by_cases hN:∀ i,i<N→L i=true
  ·refine ⟨N,by omega,?_,hN⟩
   cases hx:L N with
   | false=>rfl
   | true=>exact absurd (fun i hi=>by
     by_cases hiN:i=N
     ·rw[hiN];exact hx
     ·exact hN i (by omega)) h
  ·obtain⟨i,h1,h2⟩:=ih hN
   exact⟨i,by omega,h2⟩
theorem mg (listed:Array Bool) (i:Nat) (hi:i<listed.size) (j:Nat):(listed.setIfInBounds i true).getD j false=(j==i || listed.getD j false):=by
 by_cases h:j=i
 ·subst h;simp[hi]
 ·rw[getD_set_ne false (Ne.symm h)];simp[h]
theorem CI (T:Track P n ops p ops.toList tms sts avs rns es) (S:Stat ops p) (hD:p=ops.size∨uv ops (bef ops) p es=true) (hdom:Dom (sts 0)) {a0:Act} {m0:Nm} {w0:World} {Q:Exit→Act→World→Prop}
  (hfin:∀ a m w,RT m w (tms ops.size) a→RS m w (sts ops.size).h.get→a.tmps.size=n→a.defers=a0.defers→To m0 (sts 0).h.get w0 m (sts ops.size).h.get w→dp m0 m (sts 0).nx (sts ops.size).nx→Q .normal a w) (ro:Option Nat) :
  ∀ (fuel:Nat) (listed:Array Bool) (q:Nat) (m:Nm) (a:Act) (w:World),listed.size=ops.size→(List.range ops.size).countP (fun j=>!listed.getD j false)≤fuel →
   Jn ops p n tms sts avs a0 m0 w0 (fun j=>listed.getD j false) q m a w→wpAnyIn (Fw ro) 0 P .any ops Q fuel listed a w:=by
 have done:∀ (listed:Array Bool) (q:Nat) (m:Nm) (a:Act) (w:World),(∀ i,i<ops.size→listed.getD i false=true)→Jn ops p n tms sts avs a0 m0 w0 (fun j=>listed.getD j false) q m a w→Q .normal a w:=by
  intro listed q m a w hall J
  have hq:q=ops.size:=by
   rcases Nat.lt_or_ge q ops.size with h|h
   ·have:=(J.tail q J.q1 h).1 (hall q h);omega
   ·have:=J.q2;omega
  subst hq
  exact hfin a m w (fun t av h=>J.vals t av (CX T hall h)) J.rs J.size J.defers J.to J.same
 have ready_or:∀ (listed:Array Bool),listed.size=ops.size→Region.ready .any ops listed=[]→∀ i,i<ops.size→listed.getD i false=true:=by
  intro listed hs hr
  by_cases hall:∀ i,i<ops.size→listed.getD i false=true
  ·exact hall
  ·exfalso
   obtain⟨i,h1,h2,h3⟩:=uZ hall
   obtain⟨o,ho⟩:=nU h1
   have:i∈Region.ready .any ops listed:=by
    rw[mem_ready]
    refine ⟨?_,o,ho,fun e he hb=>h3 e.on (S.back i o ho e he hb)⟩
    have hl:i<listed.size:=by omega
    simp only[Array.getD,hl,dif_pos] at h2 ⊢
    exact h2
   rw[hr] at this
   cases this
 intro fuel
 induction fuel with
 | zero=>
  intro listed q m a w hs hc J
  have hall:∀ i,i<ops.size→listed.getD i false=true:=fun i hi=>by
   have:=List.countP_eq_zero.1 (Nat.le_zero.1 hc) i (List.mem_range.2 hi)
   simpa using this
  refine ⟨?_,done listed q m a w hall J⟩
  rw[List.eq_nil_iff_forall_not_mem]
  intro j hj
  obtain⟨h1,o,ho,_⟩:=mem_ready.1 hj
  have h2:=hall j (gA ho)
  have hl:j<listed.size:=by rw[hs];exact gA ho
  simp only[Array.getD,hl,dif_pos] at h1 h2
  rw[h2] at h1;cases h1
 | succ fuel ih=>
  intro listed q m a w hs hc J
  refine ⟨fun hr=>done listed q m a w (ready_or listed hs hr) J,fun i hi=>?_⟩
  obtain⟨h1,o,ho,hd⟩:=mem_ready.1 hi
  have hl:i<listed.size:=by rw[hs];exact gA ho
  have hu:listed.getD i false=false:=by simp only[Array.getD,hl,dif_pos] at h1 ⊢;exact h1
  refine J.step T S hD hdom (L':=fun j=>(listed.setIfInBounds i true).getD j false) ho hu (mg listed i hl) hd (ro:=ro) fun q' m' a' w' J'=>?_
  refine ih (listed.setIfInBounds i true) q' m' a' w' (by simpa using hs) ?_ J'
  have hlt:(List.range ops.size).countP (fun j=>!(listed.setIfInBounds i true).getD j false)<(List.range ops.size).countP (fun j=>!listed.getD j false):=by
   have hmem:=List.mem_range.2 (gA ho)
   generalize List.range ops.size=l at hmem
   induction l with
   | nil=>cases hmem
   | cons x xs ihx=>
    rw[List.countP_cons,List.countP_cons]
    have hle:xs.countP (fun j=>!(listed.setIfInBounds i true).getD j false)≤xs.countP (fun j=>!listed.getD j false):=
     List.countP_mono_left fun j _ hj=>by rw[mg listed i hl] at hj;simp at hj ⊢;exact hj.2
    by_cases hx:x=i
    ·subst hx
     rw[mg listed x hl,hu];simp only[beq_self_eq_true,Bool.true_or,Bool.not_true,Bool.not_false,if_true,Bool.false_eq_true,if_false]
     omega
    ·rcases List.mem_cons.1 hmem with h|h
     ·exact absurd h.symm hx
     ·have:=ihx h
      rw[mg listed i hl];simp only[beq_false_of_ne hx,Bool.false_or]
      omega
  omega
theorem FU {call:FuncId→List AV→Hp→Option (AV × Hp)} (hm:P.follows .mixedOrders=true) (hc:fE P call) (hty:∀ t ti,E.ty.get t=some ti→TyOK P t ti) (hS:ff ops=true) {tm tm':Tr AV} {st st':Hp}
  (h:CH E call n ops tm st=some (tm',st')) :
  Heaps st st'∧BN n tm st tm' st' fun a w K=>∀ ro id Q,(∀ a w,K a w→Q .normal a w)→(Code.region id ops true).wpIn (Fw ro) 0 P Q a w:=by
 have S:=FH hS
 unfold CH at h
 rw[aT] at h
 obtain⟨es,tm1,st1,h1,tms,sts,avs,rns,e1,e2,e3,e4,T⟩:=zl hc hty ops.toList (fX ops.toList) tm st _ h
 have hsz:ops.toList.length=ops.size:=by simp
 rw[hsz] at e3 e4
 have hfin:(fX ops.toList=ops.size∨uv ops (bef ops) (fX ops.toList) es=true)∧tm1=tm'∧st1=st':=by
  split at h1
  ·simp only[K5,Prod.mk.injEq] at h1
   exact⟨.inl ‹_›,h1⟩
  ·rw[pA] at h1
   split at h1
   ·simp only[K5,Prod.mk.injEq] at h1
    exact⟨.inr ‹_›,h1⟩
   ·cases h1
 obtain⟨hD,rfl,rfl⟩:=hfin
 subst e1 e2 e3 e4
 refine ⟨T.lQ ops.size (K6 _),fun a m w hT hs hd hn hf K hK ro id Q hQ=>?_⟩
 refine wpIn_region_any hm ?_
 have hpn:=T.nx (i:=0) (fX ops.toList) (Nat.zero_le _) S.le
 have hpN:=T.nx (i:=fX ops.toList) ops.size S.le (K6 _)
 have hdp:=(T.lQ (fX ops.toList) S.le).dom hd
 have hold:∀ b,(sts (fX ops.toList)).h.get b≠none→m b≠none→b<(sts 0).nx:=fun b h1 h2=>by
  rcases Nat.lt_or_ge b (sts 0).nx with h3|h3
  ·exact h3
  ·rcases Nat.lt_or_ge b (sts ops.size).nx with h4|h4
   ·exact absurd (hf b h3 h4) h2
   ·exact absurd (hdp b (by omega)) h1
 obtain⟨s1,s2⟩:=hs.heap (w':={ w with drawn:=w.drawn+1 }) rfl ⟨rfl,rfl,rfl⟩
 have hrs:RS m { w with drawn:=w.drawn+1 } (sts (fX ops.toList)).h.get:=⟨fun b cells rb hb hmb=>s1.obj b cells rb (by
   rw[←T.pure S.le (hold b (by rw[hb];simp) (by rw[hmb];simp)) (fX ops.toList) (Nat.zero_le _) (K6 _)];exact hb) hmb,
  fun b b' x hb hb' hmb hmb'=>s1.inj b b' x (by rw[←T.pure S.le (hold b hb (by rw[hmb];simp)) (fX ops.toList) (Nat.zero_le _) (K6 _)];exact hb)
   (by rw[←T.pure S.le (hold b' hb' (by rw[hmb'];simp)) (fX ops.toList) (Nat.zero_le _) (K6 _)];exact hb') hmb hmb',
  fun g as hga=>⟨(s1.glob g as hga).1,fun b hb hmb=>(s1.glob g as hga).2 b (by
   rw[←T.pure S.le (hold b hb (by rw[hmb];simp)) (fX ops.toList) (Nat.zero_le _) (K6 _)];exact hb) hmb⟩⟩
 have hL0:∀ j,(Array.replicate ops.size false).getD j false=false:=fun j=>by simp[Array.getD]
 refine CI T S hD hd (a0:=a) (m0:=m) (w0:=w) (fun a' m' w' r1 r2 r3 r4 r5 r6=>hQ a' w' (hK a' m' w' r1 r2 r3 r4 r5 r6)) ro ops.size (Array.replicate ops.size false) (fX ops.toList) m a _ (by simp)
  (by have:=List.countP_le_length (p:=fun j=>!(Array.replicate ops.size false).getD j false) (l:=List.range ops.size);rwa [List.length_range] at this) ?_
 refine ⟨fun i o h=>(by rw[hL0] at h;cases h),K6 _,S.le,fun j h1 h2=>?_,fun h=>by omega,hn,rfl,fun t av hV=>?_,hrs,fun b hb=>?_,?_,fun _ _=>rfl⟩
 ·rw[hL0]
  exact⟨fun h=>(by cases h),fun h=>(by omega)⟩
 ·rcases hV with ⟨j,o,h,_⟩|⟨_,h⟩
  ·have h':=h;rw[show (fun j=>(Array.replicate ops.size false).getD j false) j=false from hL0 j] at h';cases h'
  ·obtain⟨v,h1,h2⟩:=hT t av h
   exact⟨v,h1,s2.rv h2⟩
 ·rcases Nat.lt_or_ge b (sts 0).nx with h3|h3
  ·exact .inl h3
  ·rcases Nat.lt_or_ge b (sts ops.size).nx with h4|h4
   ·exact absurd (hf b h3 h4) hb
   ·exact .inr (.inl h4)
 ·exact⟨Ext.rfl' _,s2.grow,s2.u64,⟨rfl,rfl,rfl⟩,fun _ _ _=>rfl,fun b rb h1 h2=>.inr ⟨b,by
   rw[←T.pure S.le (hold b h1 (by rw[h2];simp)) (fX ops.toList) (Nat.zero_le _) (K6 _)];exact h1,h2⟩⟩
def KT (E:Env) (call:FuncId→List AV→Hp→Option (AV × Hp)) (n:Nat) (ops:Array Oper) (draw:Bool) (tm:Tr AV) (st:Hp):Option (Tr AV × Hp):=
 match draw with
 | true=>CH E call n ops tm st
 | false=>Em E call n ops ops.toList tm st fun tm st=>some (tm,st)
theorem GR (hm:P.follows .mixedOrders=true) (hty:∀ t ti,E.ty.get t=some ti→TyOK P t ti) (call:FuncId→List AV→Hp→Option (AV × Hp)) (n:Nat) (hc:fE P call):BZ P ff n (KT E call n):=by
 intro ops draw tm st tm' st' hg h
 cases draw with
 | true=>exact FU hm hc hty (by simpa using hg) h
 | false=>
  obtain⟨tm1,st1,h1,h2,h3⟩:=oQ hc hty (fun _ _ _=>True) ops.toList tm st _ h
  simp only[K5,Prod.mk.injEq] at h1
  obtain⟨rfl,rfl⟩:=h1
  refine ⟨h2,fun a m w hT hs hd hn hf K hK ro id Q hQ=>wpIn_region_list ?_⟩
  obtain⟨tm2,st2,h4,h5,h6⟩:=oQ hc hty Q ops.toList tm st _ h
  simp only[K5,Prod.mk.injEq] at h4
  obtain⟨rfl,rfl⟩:=h4
  exact h6 a m w hT hs hd hn hf K hK ro hQ
def xm (E:Env) (fuel:Nat):Nat→FuncId→List AV→Hp→Option (AV × Hp):=lD E fuel (KT E)
theorem rW {fuel:Nat} (hm:P.follows .mixedOrders=true) (hty:∀ t ti,E.ty.get t=some ti→TyOK P t ti) (hfn:tZ P E ff) (hpr:fG P E) (d:Nat):fE P (xm E fuel d):=
 uu hty hfn hpr (fun call n hc=>GR hm hty call n hc) d
end
end Go.Sx
namespace Go.Sx
open LimbNum Go.RowKit
variable [Unk] [Glob]
mutual
def iY:AV→Bool
 | .ptr .. | .sl .. | .mp _ | .yl _ | .lp ..=>false
 | .fn _ cs | .agg cs | .tup cs=>nm cs
 | _=>true
def nm:List AV→Bool
 | []=>true
 | a::l=>iY a&&nm l
end
mutual
theorem pY {m m':Nm} {w:World}:∀ (a:AV) (v:Value),iY a=true→RV m w a v→RV m' w a v
 | .bool _,v,_,h | .int _ _,v,_,h | .float _ _,v,_,h | .str _,v,_,h | .nilp,v,_,h | .nils,v,_,h | .big _,v,_,h | .nilm,v,_,h | .nilf,v,_,h | .gp _ _,v,_,h | .sym _,v,_,h=>by rw[RV] at h ⊢;exact h
 | .dead,v,_,h=>by rw[RV];trivial
 | .ptr ..,v,hp,h=>by simp[iY] at hp
 | .sl ..,v,hp,h=>by simp[iY] at hp
 | .mp _,v,hp,h=>by simp[iY] at hp
 | .yl _,v,hp,h=>by simp[iY] at hp
 | .lp _ _ _ _ _,v,hp,h=>by simp[iY] at hp
 | .fn f cs,v,hp,h=>by
  rw[iY] at hp
  rw[RV] at h ⊢
  obtain⟨l,h1,h2⟩:=h
  exact⟨l,h1,fA cs l hp h2⟩
 | .agg cs,v,hp,h=>by
  rw[iY] at hp
  rw[RV] at h ⊢
  obtain⟨l,h1,h2⟩:=h
  exact⟨l,h1,fA cs l hp h2⟩
 | .tup cs,v,hp,h=>by
  rw[iY] at hp
  rw[RV] at h ⊢
  obtain⟨l,h1,h2⟩:=h
  exact⟨l,h1,fA cs l hp h2⟩
theorem fA {m m':Nm} {w:World}:∀ (a:List AV) (v:List Value),nm a=true→RVs m w a v→RVs m' w a v
 | [],v,_,h=>by rw[RVs] at h ⊢;exact h
 | a::l,v,hp,h=>by
  rw[nm,Bool.and_eq_true] at hp
  rw[RVs] at h ⊢
  obtain⟨u,us,h1,h2,h3⟩:=h
  exact⟨u,us,h1,pY a u hp.1 h2,fA l us hp.2 h3⟩
end
def fY (E:Env) (fuel d:Nat) (f:FuncId) (args:List AV) (av:AV):Bool:=
 nm args&&iY av&&Nat.blt f 4294967296&&match xm E fuel d f args ⟨.lf,0,0⟩ with
  | some (av',_)=>da av' av
  | none=>false
theorem JP {P:Program} {E:Env} {fuel d:Nat} {f:FuncId} {args:List AV} {av:AV} (hm:P.follows .mixedOrders=true) (hty:∀ t ti,E.ty.get t=some ti→TyOK P t ti) (hfn:tZ P E ff) (hpr:fG P E)
  (hb:∀ fn,P.funcs[f]?=some fn→fn.body.isNone=false) (h:fY E fuel d f args av=true) (m:Nm) (w:World) (hf:Hf) (vals:List Value) (hv:RVs m w args vals) (hs:RS m w hf) :
  Calls P f vals.toArray w fun e w'=>∃ v,e=.returned v∧RV m w' av v∧Below w.heap.size w w':=by
 unfold fY at h
 simp only[Bool.and_eq_true] at h
 obtain⟨⟨⟨h1,h2⟩,hf0⟩,h3⟩:=h
 split at h3
 ·rename_i av' st' hr
  have:=lB _ _ h3
  subst this
  rcases (rW hm hty hfn hpr d f args _ _ _ hr).1 (Nat.le_of_ble_eq_true hf0) with ⟨g1,g2,g3⟩|⟨_,⟨fn,g1,g2⟩,_⟩
  ·have hg:∀ b,(Tr.lf:AH).get b=none:=fun b=>rfl
   refine (g3 (fun _=>none) w vals (fA _ _ h1 hv) ⟨fun b cells rb hb' hm'=>(by cases hm'),fun b b' x hb' hb2 hm' hm2=>(by cases hm'),fun g as hga=>⟨(hs.glob g as hga).1,fun b hb'=>absurd (hg b) hb'⟩⟩ (fun b _=>hg b) (fun b _ _=>rfl)).mono ?_
   rintro e w' ⟨v,m',rfl,q1,q2,q3,q4⟩
   refine ⟨v,rfl,pY _ _ h2 q1,?_⟩
   exact⟨q3.env.1,q3.env.2.1,q3.env.2.2,q3.grow.1,fun b hb'=>q3.keep b hb' fun b' hb2=>absurd (hg b') hb2⟩
  ·have:=hb fn g1
   rw[g2] at this
   cases this
 ·cases h3
def Ran (P:Program) (x:FuncId × List AV × AV):Prop:=∀ (m:Nm) (w:World) (h:Hf) (vals:List Value),RVs m w x.2.1 vals→RS m w h→Calls P x.1 vals.toArray w fun e w'=>∃ v,e=.returned v∧RV m w' x.2.2 v∧Below w.heap.size w w'
def uG (f:FuncId) (args:List AV):List (FuncId × List AV × AV)→Option AV
 | []=>none
 | x::l=>match Nat.beq f x.1 with
  | true=>match gG args x.2.1 with
   | true=>some x.2.2
   | false=>uG f args l
  | false=>uG f args l
theorem px {f:FuncId} {args:List AV} {av:AV}:∀ (l:List (FuncId × List AV × AV)),uG f args l=some av→(f,args,av)∈l
 | [],h=>by cases h
 | x::l,h=>by
  rw[uG] at h
  split at h
  ·rename_i h1
   split at h
   ·rename_i h2
    simp only[K5] at h
    have e1:=Nat.eq_of_beq_eq_true h1
    have e2:=fx _ _ h2
    obtain⟨a,b,c⟩:=x
    simp only at e1 e2 h
    subst e1 e2 h
    exact List.mem_cons_self
   ·exact List.mem_cons_of_mem _ (px l h)
  ·exact List.mem_cons_of_mem _ (px l h)
def zC (E:Env) (l:List (FuncId × List AV × AV)):Env:={ E with prim:=fun f h a=>match E.prim f h a with
 | some x=>some x
 | none=>uG f a l }
theorem Fe {P:Program} {E:Env} {l:List (FuncId × List AV × AV)} (hpr:fG P E) (hl:∀ x∈l,Ran P x):fG P (zC E l):=by
 refine ⟨hpr.1,fun f h args av hp m w vals hv hs=>?_⟩
 simp only[zC] at hp
 split at hp
 ·simp only[K5] at hp
  subst hp
  exact hpr.2 f h args _ ‹_› m w vals hv hs
 ·exact hl _ (px l hp) m w _ vals hv hs
theorem Ran.of {P:Program} {E:Env} {fuel d:Nat} {x:FuncId × List AV × AV} (hm:P.follows .mixedOrders=true) (hty:∀ t ti,E.ty.get t=some ti→TyOK P t ti) (hfn:tZ P E ff) (hpr:fG P E)
  (hb:∀ fn,P.funcs[x.1]?=some fn→fn.body.isNone=false) (h:fY E fuel d x.1 x.2.1 x.2.2=true):Ran P x:=fun m w hf vals hv hs=>JP hm hty hfn hpr hb h m w hf vals hv hs
end Go.Sx
namespace Go.Sx
variable [Unk] [Glob]
variable {α : Type}
def Tr.Fa:(Nat→α→Prop)→Tr α→Prop
 | _,.lf=>True
 | p,.nd l v r=>(match v with|some x=>p 0 x|none=>True)∧Tr.Fa (fun j x=>p (2*j+1) x) l∧Tr.Fa (fun j x=>p (2*j+2) x) r
theorem Tr.Fa.get:∀ (t:Tr α) (p:Nat→α→Prop),Tr.Fa p t→∀ (k:Nat) (x:α),t.get k=some x→p k x
 | .lf,p,h,k,x,hk=>by simp[Tr.ju] at hk
 | .nd l v r,p,h,k,x,hk=>by
  obtain⟨h1,h2,h3⟩:=h
  cases k with
  | zero=>rw[Tr.uL] at hk;subst hk;exact h1
  | succ j=>
   rw[Tr.bu] at hk
   split at hk
   ·have:=Tr.Fa.get l _ h2 _ _ hk
    have e:2*(j/2)+1=j+1:=by omega
    rwa [e] at this
   ·have:=Tr.Fa.get r _ h3 _ _ hk
    have e:2*(j/2)+2=j+1:=by omega
    rwa [e] at this
def FnI (P:Program) (f:FuncId) (g:Nat × List ResultVar × Code):Prop:=
 ∃ fn, P.funcs[f]? = some fn ∧ fn.body = some g.2.2 ∧ fn.ntmps = g.1 ∧ fn.results.toList = g.2.1 ∧ (fn.name == "runtime.NumGoroutine") = false ∧ cL ff g.2.2 = true
theorem FnI.of {P : Program} {f : FuncId} {fn : Func} {n : Nat} {res : List ResultVar} {c : Code} (h1 : P.funcs[f]? = some fn) (h2 : fn.body = some c) (h3 : fn.ntmps = n) (h4 : fn.results.toList = res) (h5 : (fn.name == "runtime.NumGoroutine") = false) (h6 : cL ff c = true) : FnI P f (n, res, c) :=
 ⟨fn,h1,h2,h3,h4,h5,h6⟩
theorem Gg {P:Program} {E:Env} (h:Tr.Fa (FnI P) E.fn):tZ P E ff:=fun f n res code hf=>Tr.Fa.get _ _ h f _ hf
theorem Iz {P:Program} {E:Env} (h:Tr.Fa (fun t ti=>tyI P t=some ti) E.ty):∀ t ti,E.ty.get t=some ti→TyOK P t ti:=fun t ti ht=>Kl (Tr.Fa.get _ _ h t ti ht)
end Go.Sx
