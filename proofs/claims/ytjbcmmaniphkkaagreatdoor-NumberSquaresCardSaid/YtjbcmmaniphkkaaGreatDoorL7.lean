import Derived.OrdersHeld
import Derived.Tactics
import Derived.Test.YtjbcmmaniphkkaaGreatDoorL6
set_option linter.unusedSectionVars false
set_option linter.unusedVariables false
set_option linter.unusedSimpArgs false
set_option maxRecDepth 100000
set_option maxHeartbeats 4000000
namespace Go.Proofs.YtjbcmmaniphkkaaGreatDoor
open Go
theorem so {α:Type} {a b:α} (h:some a=some b):a=b:=Option.some.inj h
section
variable {P : Program} {ops : Array Oper} {Q : Exit → Act → World → Prop} {md : Region.Mode}
def ae (P:Program) (ρ:Operand→Value) (o:Oper) (w:World) (T:Value→World→Prop):Prop:=
 match (execOp ρ o).run P w with
 | .ok (.value v) w'=>T v w'
 | .ok .skip w'=>T undef w'
 | .ok (.enter f args) w'=>Calls P f args w' fun e w''=>∃ v,e=.returned v∧T v w''
 | _=>False
def mB (P:Program) (ops:Array Oper) (a:Act) (o:Oper) (w:World) (T:Value→World→Prop):Prop:=
 (Region.wanted o (yielded ops a.tmps)=true∧ae P a.eval o w T)∨(Region.wanted o (yielded ops a.tmps)=false∧T undef w)
theorem ae.wp {a:Act} {o:Oper} {w:World} {T:Value→World→Prop} {K:Act→World→Prop}
  (h:ae P a.eval o w T) (hK:∀ v w',T v w'→K (a.put o.dst v) w'):o.wp P a w K Q:=by
 unfold Oper.wp ae at *
 generalize (execOp a.eval o).run P w=r at *
 cases r with
 | ok n w'=>
  cases n<;>simp only[Oper.upon] at h ⊢
  case value u=>exact hK _ _ h
  case skip=>exact hK _ _ h
  case enter f args=>
   refine Calls.mono h fun e w'' he=>?_
   obtain⟨v,rfl,hv⟩:=he
   exact hK _ _ hv
 | halt x w'=>cases x<;>simp only at h
def laid (ops:Array Oper) (f:Nat→Value) (a:Act) (l:List Nat):Act:=
 l.foldl (fun a i=>a.put ((ops[i]?).bind (·.dst)) (f i)) a
structure Laid (ops : Array Oper) (f : Nat → Value) (a0 : Act) (listed : Nat → Bool) (a : Act) : Prop where
 defers:a.defers=a0.defers
 size:a.tmps.size=a0.tmps.size
 old:∀ t,(∀ j o,listed j=true→ops[j]?=some o→o.dst≠some t)→a.tmps[t]?=a0.tmps[t]?
 new:∀ j o t,listed j=true→ops[j]?=some o→o.dst=some t→a.tmps[t]?=some (f j)
def iR (ops:Array Oper) (m n:Nat):Bool:=
 (List.range m).all fun i=>match ops[i]? with
  | none=>true
  | some o=>(match o.op with | .select ..=>false|_=>true) &&
   (match o.dst with
    | none=>true
    | some d=>decide (d<n)&&(List.range m).all fun j=>j==i || (match ops[j]? with|some p=>p.dst != some d|none=>true))
def gd (md:Region.Mode) (ops:Array Oper) (m:Nat):Bool:=
 (List.range ops.size).all fun i=>match ops[i]? with
  | none=>true
  | some o=>(o.after.all fun e=>!Region.binds md e || decide (e.on<i)) &&
   (decide (m≤i) || ((match o.guard with
    | none=>true
    | some (g,_)=>o.after.any fun e=>Region.binds md e&&e.on==g)&&o.op.operands.all fun x=>match x with
    | .tmp t=>(List.range m).all fun j=>match ops[j]? with
      | some p=>p.dst != some t || o.after.any fun e=>Region.binds md e&&e.on==j
      | none=>true
    | _=>true))
theorem qm {m n i:Nat} {o:Oper} (h:iR ops m n=true) (hi:i<m) (ho:ops[i]?=some o) :
  (∀ cs b,o.op≠.select cs b)∧∀ d,o.dst=some d→d<n∧∀ j p,j<m→ops[j]?=some p→j≠i→p.dst≠some d:=by
 have h1:=List.all_eq_true.1 h i (List.mem_range.2 hi)
 simp only[ho,Bool.and_eq_true] at h1
 obtain⟨hs,hd⟩:=h1
 refine ⟨fun cs b hc=>by simp[hc] at hs,fun d hdd=>?_⟩
 simp only[hdd,Bool.and_eq_true,decide_eq_true_eq] at hd
 refine ⟨hd.1,fun j p hj hp hji hpd=>?_⟩
 have h2:=List.all_eq_true.1 hd.2 j (List.mem_range.2 hj)
 simp[hp,hpd,hji] at h2
theorem iu {i m:Nat} {o:Oper} (h:gd md ops m=true) (ho:ops[i]?=some o) :
  (∀ e∈o.after,Region.binds md e=true→e.on<i)∧(i<m→∀ t,.tmp t∈o.op.operands→∀ j p,j<m→ops[j]?=some p→p.dst=some t→∃ e∈o.after,Region.binds md e=true∧e.on=j) ∧
  (i<m→∀ g b,o.guard=some (g,b)→∃ e∈o.after,Region.binds md e=true∧e.on=g):=by
 have hi:i<ops.size:=(Array.getElem?_eq_some_iff.1 ho).1
 have h1:=List.all_eq_true.1 h i (List.mem_range.2 hi)
 simp only[ho,Bool.and_eq_true,Bool.or_eq_true,decide_eq_true_eq] at h1
 refine ⟨fun e he hb=>by have:=Array.all_eq_true_iff_forall_mem.1 h1.1 e he;simpa [hb] using this,fun him t ht j p hj hp hpd=>?_,fun him g b hg=>?_⟩
 rotate_left
 ·have h2:=(h1.2.resolve_left (by omega)).1
  simp only[hg] at h2
  obtain⟨e,he,hb⟩:=Array.any_eq_true'.1 h2
  simp only[Bool.and_eq_true,beq_iff_eq] at hb
  exact⟨e,he,hb.1,hb.2⟩
 have h2:=Array.all_eq_true_iff_forall_mem.1 (h1.2.resolve_left (by omega)).2 _ ht
 have h3:=List.all_eq_true.1 h2 j (List.mem_range.2 hj)
 simp only[hp,hpd,bne_self_eq_false,Bool.false_or] at h3
 obtain⟨e,he,hb⟩:=Array.any_eq_true'.1 h3
 simp only[Bool.and_eq_true,beq_iff_eq] at hb
 exact⟨e,he,hb.1,hb.2⟩
theorem Laid.put {f:Nat→Value} {a0 a:Act} {listed:Nat→Bool} {i m:Nat} {o:Oper} {v:Value} (hp:iR ops m a0.tmps.size=true)
  (h:Laid ops f a0 listed a) (him:i<m) (ho:ops[i]?=some o) (hu:listed i=false) (hlm:∀ j,listed j=true→j<m) :
  Laid ops (fun j=>if j=i then v else f j) a0 (fun j=>j==i || listed j) (a.put o.dst v):=by
 obtain⟨hs,hd⟩:=qm hp him ho
 cases hdst:o.dst with
 | none=>
  refine ⟨h.defers,h.size,fun t ht=>h.old t fun j p hj hpj=>ht j p (by simp[hj]) hpj,fun j p t hj hpj hpt=>?_⟩
  have hji:j≠i:=by rintro rfl;rw[hpj] at ho;cases ho;rw[hdst] at hpt;cases hpt
  rw[if_neg hji]
  refine h.new j p t ?_ hpj hpt
  simpa [hji] using hj
 | some d=>
  obtain⟨hdn,hdo⟩:=hd d hdst
  refine ⟨h.defers,by simp[Act.put,h.size],fun t ht=>?_,fun j p t hj hpj hpt=>?_⟩
  ·have hne:d≠t:=by rintro rfl;exact ht i o (by simp) ho hdst
   simp only[Act.put,Array.getElem?_setIfInBounds_ne hne]
   exact h.old t fun j p hj hpj=>ht j p (by simp[hj]) hpj
  ·by_cases hji:j=i
   ·subst hji
    rw[hpj] at ho;cases ho
    rw[hdst] at hpt;cases hpt
    simp[Act.put,h.size,hdn]
   ·have hj':listed j=true:=by simpa [hji] using hj
    have hne:d≠t:=by rintro rfl;exact hdo j p (hlm j hj') hpj hji hpt
    simp only[Act.put,Array.getElem?_setIfInBounds_ne hne,if_neg hji]
    exact h.new j p t hj' hpj hpt
theorem Laid.none {f:Nat→Value} {a0:Act}:Laid ops f a0 (fun _=>false) a0:=
 ⟨rfl,rfl,fun _ _=>rfl,fun _ _ _ h=>by cases h⟩
theorem Laid.congr {f g:Nat→Value} {a0 a:Act} {l m:Nat→Bool} (h:Laid ops f a0 l a) (hl:∀ j o,ops[j]?=some o→l j=m j) (hf:∀ j,m j=true→f j=g j):Laid ops g a0 m a:=
 ⟨h.defers,h.size,fun t ht=>h.old t fun j o hj ho=>ht j o (by rw[←hl j o ho];exact hj) ho,
  fun j o t hj ho ht=>by rw[h.new j o t (by rw[hl j o ho];exact hj) ho ht,hf j hj]⟩
theorem gY {f:Nat→Value} {a0:Act} {m:Nat} (hp:iR ops m a0.tmps.size=true):∀ n,n≤m→m≤ops.size→Laid ops f a0 (fun j=>decide (j<n)) (laid ops f a0 (List.range n))
 | 0,_,_=>(Laid.none (f:=f)).congr (fun _ _ _=>by simp) (fun _ h=>by simp at h)
 | n+1,hn,hm=>by
  have ih:=gY (f:=f) hp n (by omega) hm
  have ho:ops[n]?=some ops[n]:=Array.getElem?_eq_getElem (by omega)
  rw[List.range_succ,laid,List.foldl_append,List.foldl_cons,List.foldl_nil,ho]
  exact (ih.put (v:=f n) hp (by omega) ho (by simp) (fun j hj=>by simp at hj;omega)).congr (fun j _ _=>by rw[Bool.eq_iff_iff];simp;omega) (fun j hj=>by
   by_cases h:j=n
   ·subst h;simp
   ·simp[h])
theorem Laid.ext {f:Nat→Value} {a0 a b:Act} {l m:Nat→Bool} (h:Laid ops f a0 l a) (h2:Laid ops f a0 m b) (hl:∀ (j:Nat) (o:Oper),ops[j]?=some o→l j=m j):a=b:=by
 have ht:a.tmps=b.tmps:=by
  apply Array.ext_getElem?
  intro t
  by_cases hx:∃ (j:Nat) (o:Oper),ops[j]?=some o∧o.dst=some t∧l j=true
  ·obtain⟨j,o,ho,hd,hj⟩:=hx
   rw[h.new j o t hj ho hd,h2.new j o t (by rw[←hl j o ho];exact hj) ho hd]
  ·rw[h.old t fun j o hj ho hd=>hx ⟨j,o,ho,hd,hj⟩,h2.old t fun j o hj ho hd=>hx ⟨j,o,ho,hd,by rw[hl j o ho];exact hj⟩]
 have hd:=h.defers.trans h2.defers.symm
 cases a
 simp only at ht hd
 rw[ht,hd]
theorem Laid.eval {f:Nat→Value} {a0 a b:Act} {l m:Nat→Bool} (h:Laid ops f a0 l a) (h2:Laid ops f a0 m b) {x:Operand}
  (hx:∀ t,x=.tmp t→∀ j p,ops[j]?=some p→p.dst=some t→l j=m j):a.eval x=b.eval x:=by
 cases x with
 | tmp t=>
  simp only[Act.eval,Array.getD_eq_getD_getElem?]
  by_cases hy:∃ (j:Nat) (o:Oper),ops[j]?=some o∧o.dst=some t∧l j=true
  ·obtain⟨j,o,ho,hd,hj⟩:=hy
   rw[h.new j o t hj ho hd,h2.new j o t (by rw[←hx t rfl j o ho hd];exact hj) ho hd]
  ·rw[h.old t fun j o hj ho hd=>hy ⟨j,o,ho,hd,hj⟩,h2.old t fun j o hj ho hd=>hy ⟨j,o,ho,hd,by rw[hx t rfl j o ho hd];exact hj⟩]
 | _=>rfl
theorem exists_least {p:Nat→Prop} (h:∃ n,p n):∃ n,p n∧∀ m,m<n→¬p m:=by
 obtain⟨n,hn⟩:=h
 induction n using Nat.strongRecOn with
 | ind n ih=>
  by_cases hx:∃ m,m<n∧p m
  ·obtain⟨m,hm,hpm⟩:=hx;exact ih m hm hpm
  ·exact⟨n,hn,fun m hm hpm=>hx ⟨m,hm,hpm⟩⟩
def dC (n k:Nat):Array Bool:=((List.range n).map fun j=>decide (j<k)).toArray
theorem nL (n k:Nat):(dC n k).size=n:=by simp[dC]
theorem dc (n k j:Nat) (d:Bool) (h:j<n):(dC n k).getD j d=decide (j<k):=by simp[dC,h]
theorem nM (n k:Nat):(dC n k).setIfInBounds k true=dC n (k+1):=by
 apply Array.ext_getElem?
 intro j
 by_cases hj:j<n
 ·by_cases h:k=j
  ·subst h;simp[dC,hj]
  ·rw[Array.getElem?_setIfInBounds_ne h]
   simp[dC,hj]
   omega
 ·rw[Array.getElem?_eq_none (by simp[dC];omega),Array.getElem?_eq_none (by simp[dC];omega)]
def Reach (md:Region.Mode) (ops:Array Oper):Nat→Nat→Nat→Bool
 | 0,_,_=>false
 | n+1,i,j=>match ops[i]? with
  | none=>false
  | some o=>(o.after.any fun e=>Region.binds md e&&e.on==j) || o.after.any fun e=>Region.binds md e&&Reach md ops n e.on j
def oZ (md:Region.Mode) (ops:Array Oper) (listed:Array Bool):Prop:=
 ∀ (i:Nat) (o:Oper),ops[i]?=some o→listed.getD i false=true→∀ e∈o.after,Region.binds md e=true→listed.getD e.on false=true
theorem lY {listed:Array Bool} (hc:oZ md ops listed):∀ (n i j:Nat) (o:Oper),ops[i]?=some o→(∀ e∈o.after,Region.binds md e=true→listed.getD e.on false=true) →
  Reach md ops n i j=true→listed.getD j false=true
 | 0,_,_,_,_,_,h=>by simp[Reach] at h
 | n+1,i,j,o,ho,hd,h=>by
  simp only[Reach,ho,Bool.or_eq_true] at h
  rcases h with h|h
  ·obtain⟨e,he,hb⟩:=Array.any_eq_true'.1 h
   simp only[Bool.and_eq_true,beq_iff_eq] at hb
   rw[←hb.2];exact hd e he hb.1
  ·obtain⟨e,he,hb⟩:=Array.any_eq_true'.1 h
   simp only[Bool.and_eq_true] at hb
   have h1:=hd e he hb.1
   cases hp:ops[e.on]? with
   | none=>
    have h2:=hb.2
    cases n with
    | zero=>simp[Reach] at h2
    | succ n=>simp[Reach,hp] at h2
   | some p=>exact lY hc n e.on j p hp (fun e' he' hb'=>hc e.on p hp h1 e' he' hb') hb.2
def oh (md:Region.Mode) (ops:Array Oper) (m:Nat):Bool:=
 (List.range ops.size).all fun i=>decide (i<m) || (List.range i).all fun j=>Reach md ops 5 i j
theorem tail_at {m i:Nat} {o:Oper} {listed:Array Bool} (h:oh md ops m=true) (hi:m≤i) (ho:ops[i]?=some o) (hc:oZ md ops listed)
  (hd:∀ e∈o.after,Region.binds md e=true→listed.getD e.on false=true):∀ j,j<i→listed.getD j false=true:=by
 intro j hj
 have hi':i<ops.size:=(Array.getElem?_eq_some_iff.1 ho).1
 have h1:=List.all_eq_true.1 h i (List.mem_range.2 hi')
 have:¬i<m:=by omega
 simp only[this,decide_false,Bool.false_or] at h1
 exact lY hc 5 i j o ho hd (List.all_eq_true.1 h1 j (List.mem_range.2 hj))
theorem rm {m:Nat} (hw:gd md ops m=true) (k:Nat):oZ md ops (dC ops.size k):=by
 intro i o ho hi e he hb
 have hi':i<ops.size:=(Array.getElem?_eq_some_iff.1 ho).1
 have:=(iu hw ho).1 e he hb
 rw[dc _ _ _ _ hi'] at hi
 rw[dc _ _ _ _ (by omega)]
 simp only[decide_eq_true_eq] at hi ⊢
 omega
theorem qu {m k i:Nat} (ht:oh md ops m=true) (hw:gd md ops m=true) (hk:m≤k) (hi:i∈Region.ready md ops (dC ops.size k)):i=k:=by
 obtain⟨hu,o,ho,hdep⟩:=mem_ready.1 hi
 have hi':i<ops.size:=(Array.getElem?_eq_some_iff.1 ho).1
 rw[dc _ _ _ _ hi'] at hu
 simp only[decide_eq_false_iff_not] at hu
 rcases Nat.lt_or_ge k i with h|h
 ·have:=tail_at ht (by omega) ho (rm hw k) hdep k h
  rw[dc _ _ _ _ (by omega)] at this
  simp at this
 ·omega
theorem vM {m k:Nat} (hw:gd md ops m=true) (hk:k<ops.size):k∈Region.ready md ops (dC ops.size k):=by
 have ho:ops[k]?=some ops[k]:=Array.getElem?_eq_getElem hk
 rw[mem_ready]
 refine ⟨by rw[dc _ _ _ _ hk];simp,_,ho,fun e he hb=>?_⟩
 have:=(iu hw ho).1 e he hb
 rw[dc _ _ _ _ (by omega)]
 simpa using this
theorem qW {m:Nat} (ht:oh md ops m=true) (hw:gd md ops m=true):∀ (n k:Nat),k+n=ops.size→m≤k→∀ fuel,n≤fuel→∀ a w,
  wpList P ops Q (ops.toList.drop k) a w→wpAny P md ops Q fuel (dC ops.size k) a w:=by
 intro n
 induction n with
 | zero=>
  intro k hk hm fuel _ a w h
  rw[List.drop_eq_nil_of_le (by simp;omega)] at h
  refine wpAny_done ?_ h fuel
  rw[List.eq_nil_iff_forall_not_mem]
  intro j hj
  have h1:=qu ht hw hm hj
  obtain⟨_,o,ho,_⟩:=mem_ready.1 hj
  have hj':j<ops.size:=(Array.getElem?_eq_some_iff.1 ho).1
  omega
 | succ n ih=>
  intro k hk hm fuel hf a w h
  obtain⟨fuel,rfl⟩:∃ g,fuel=g+1:=⟨fuel-1,by omega⟩
  have hk':k<ops.size:=by omega
  have ho:ops[k]?=some ops[k]:=Array.getElem?_eq_getElem hk'
  refine ⟨fun hr=>?_,fun i hi=>?_⟩
  ·have:=vM (m:=m) hw hk'
   rw[hr] at this;cases this
  ·obtain rfl:=qu ht hw hm hi
   rw[List.drop_eq_getElem_cons (by simpa using hk'),wpList] at h
   have e:ops.toList[i]=ops[i]:=by simp
   unfold wpOp
   simp only[ho]
   rw[e] at h
   split
   ·rename_i hwn
    rw[if_pos hwn] at h
    refine h.imp (Oper.wp_mono fun a w h=>?_) id
    rw[nM]
    exact ih (i+1) (by omega) (by omega) fuel (by omega) a w h
   ·rename_i hwn
    rw[if_neg hwn] at h
    rw[nM]
    exact ih (i+1) (by omega) (by omega) fuel (by omega) _ w h
theorem BG {a0:Act} {w0:World} (R:World→World→Prop) (htrans:∀ u v w,R u v→R v w→R u w)
  (G:Nat→Value→World→Prop) (hG:∀ i v w w',G i v w→R w w'→G i v w') (m:Nat) (hm:m≤ops.size)
  (hp:iR ops m a0.tmps.size=true) (hw:gd md ops m=true) (ht:oh md ops m=true)
  (step:∀ (i:Nat) (o:Oper),i<m→ops[i]?=some o→∀ (f:Nat→Value) (w:World),R w0 w→(∀ e∈o.after,Region.binds md e=true→G e.on (f e.on) w) →
   mB P ops (laid ops f a0 (List.range m)) o w fun v w'=>G i v w'∧R w w')
  (fin:∀ (f:Nat→Value) (w:World),R w0 w→(∀ i,i<m→G i (f i) w)→wpList P ops Q (ops.toList.drop m) (laid ops f a0 (List.range m)) w) :
  ∀ (fuel:Nat) (listed:Array Bool) (f:Nat→Value) (a:Act) (w:World),listed.size=ops.size→oZ md ops listed→(∀ j,listed.getD j false=true→j<m) →
   ops.size-m+(List.range m).countP (fun j=>!listed.getD j false)≤fuel →
   Laid ops f a0 (fun j=>listed.getD j false) a→R w0 w→(∀ j,listed.getD j false=true→G j (f j) w)→wpAny P md ops Q fuel listed a w:=by
 have hend:∀ (fuel:Nat) (listed:Array Bool) (f:Nat→Value) (a:Act) (w:World),listed.size=ops.size→(∀ j,listed.getD j false=true→j<m)→ops.size-m≤fuel →
   Laid ops f a0 (fun j=>listed.getD j false) a→R w0 w →
   (∀ j,listed.getD j false=true→G j (f j) w)→(∀ j,j<m→listed.getD j false=true)→wpAny P md ops Q fuel listed a w:=by
  intro fuel listed f a w hs hlm hf hl hR hGs hall
  have hlj:∀ j,listed.getD j false=decide (j<m):=fun j=>by
   rw[Bool.eq_iff_iff,decide_eq_true_iff]
   exact⟨hlm j,hall j⟩
  have e:listed=dC ops.size m:=by
   apply Array.ext (by rw[hs,nL])
   intro j h1 h2
   have a1:=hlj j
   have a2:=dc ops.size m j false (by omega)
   simp only[Array.getD,h1,h2,dif_pos] at a1 a2
   exact a1.trans a2.symm
  have ea:=hl.ext (gY (f:=f) hp m (K6 _) hm) (fun j _ _=>hlj j)
  rw[e,ea]
  exact qW ht hw (ops.size-m) m (by omega) (K6 _) fuel hf _ w (fin f w hR fun i hi=>hGs i (hall i hi))
 intro fuel
 induction fuel with
 | zero=>
  intro listed f a w hs _ hlm hc hl hR hGs
  refine hend 0 listed f a w hs hlm (by omega) hl hR hGs fun j hj=>?_
  have:=List.countP_eq_zero.1 (by omega:(List.range m).countP (fun j=>!listed.getD j false)=0) j (List.mem_range.2 hj)
  simpa using this
 | succ fuel ih=>
  intro listed f a w hs hcl hlm hc hl hR hGs
  by_cases hall:∀ j,j<m→listed.getD j false=true
  ·exact hend (fuel+1) listed f a w hs hlm (by omega) hl hR hGs hall
  have hex:∃ n,n<m∧listed.getD n false=false:=by
   rcases Classical.em (∃ n,n<m∧listed.getD n false=false) with h|h
   ·exact h
   ·exact absurd (fun j hj=>by
     rcases Bool.eq_false_or_eq_true (listed.getD j false) with h'|h'
     ·exact h'
     ·exact absurd ⟨j,hj,h'⟩ h) hall
  obtain⟨n,⟨hnm,hnf⟩,hmin⟩:=exists_least hex
  have hnr:n∈Region.ready md ops listed:=by
   have ho:ops[n]?=some ops[n]:=Array.getElem?_eq_getElem (by omega)
   rw[mem_ready]
   refine ⟨?_,_,ho,fun e he hb=>?_⟩
   ·have hl:n<listed.size:=by omega
    simp only[Array.getD,hl,dif_pos] at hnf ⊢
    exact hnf
   ·have hle:=(iu hw ho).1 e he hb
    rcases Bool.eq_false_or_eq_true (listed.getD e.on false) with h|h
    ·exact h
    ·exact absurd ⟨by omega,h⟩ (hmin e.on hle)
  refine ⟨fun hr=>(by rw[hr] at hnr;cases hnr),fun i hi=>?_⟩
  obtain⟨hu,o,ho,hdep⟩:=mem_ready.1 hi
  have hi':i<ops.size:=(Array.getElem?_eq_some_iff.1 ho).1
  have him:i<m:=by
   rcases Nat.lt_or_ge i m with h|h
   ·exact h
   ·have:=tail_at ht h ho hcl hdep n (by omega)
    rw[hnf] at this;cases this
  have hil:i<listed.size:=by omega
  have huf:listed.getD i false=false:=by simp only[Array.getD,hil,dif_pos] at hu ⊢;exact hu
  obtain⟨hsel,hd⟩:=qm hp him ho
  obtain⟨hlt,hop,hgd⟩:=iu hw ho
  have hst:=step i o him ho f w hR fun e he hb=>hGs e.on (hdep e he hb)
  have hfull:=gY (f:=f) hp m (K6 _) hm
  have hex:execOp a.eval o=execOp (laid ops f a0 (List.range m)).eval o:=by
   refine execOp_congr o hsel fun x hx=>hl.eval hfull fun t hxt j p hpj hpd=>?_
   subst hxt
   rcases Nat.lt_or_ge j m with hjm|hjm
   ·obtain⟨e,he,hb,hej⟩:=hop him t hx j p hjm hpj hpd
    subst hej
    rw[hdep e he hb,decide_eq_true hjm]
   ·rw[decide_eq_false (by omega)]
    rcases Bool.eq_false_or_eq_true (listed.getD j false) with h|h
    ·have:=hlm j h;omega
    ·exact h
  have hwn:Region.wanted o (yielded ops a.tmps)=Region.wanted o (yielded ops (laid ops f a0 (List.range m)).tmps):=by
   unfold Region.wanted
   cases hg:o.guard with
   | none=>rfl
   | some gw=>
    obtain⟨g,want⟩:=gw
    obtain⟨e,he,hb,hej⟩:=hgd him g want hg
    have hy:yielded ops a.tmps g=yielded ops (laid ops f a0 (List.range m)).tmps g:=by
     unfold yielded
     cases ht:(ops[g]?).bind (·.dst) with
     | none=>rfl
     | some t=>
      obtain⟨p,hp1,hp2⟩:=Option.bind_eq_some_iff.1 ht
      have hgl:=hdep e he hb
      rw[hej] at hgl
      have e1:=hl.new g p t hgl hp1 hp2
      have e2:=hfull.new g p t (by have:=hlt e he hb;simp;omega) hp1 hp2
      simp only[Option.bind_some,e1,e2]
    simp only[hy]
  have hnext:wpOp P ops Q i (fun a' w'=>∃ v,a'=a.put o.dst v∧G i v w'∧R w w') a w:=by
   unfold wpOp
   simp only[ho]
   rw[hwn]
   rcases hst with ⟨hwt,hst⟩|⟨hwt,hst⟩
   ·rw[if_pos hwt]
    exact Or.inl (ae.wp (T:=fun v w'=>G i v w'∧R w w') (by unfold ae at hst ⊢;rw[hex];exact hst) fun v w' h=>⟨v,rfl,h⟩)
   ·rw[if_neg (by rw[hwt];simp)]
    exact⟨undef,rfl,hst⟩
  refine wpOp_mono (fun a' w' ⟨v,ha',hv,hr⟩=>?_) hnext
  subst ha'
  have hnew:∀ j,(listed.setIfInBounds i true).getD j false=(j==i || listed.getD j false):=fun j=>by
   by_cases h:j=i
   ·subst h;simp[hil]
   ·rw[getD_set_ne false (Ne.symm h)];simp[h]
  refine ih (listed.setIfInBounds i true) (fun j=>if j=i then v else f j) _ w' (by simpa using hs) ?_ (fun j hj=>?_) ?_ ?_ (htrans _ _ _ hR hr) ?_
  ·intro j p hp' hj e he hb
   rw[hnew] at hj ⊢
   by_cases h:j=i
   ·subst h
    rw[ho] at hp';cases hp'
    rw[hdep e he hb,Bool.or_true]
   ·rw[hcl j p hp' (by simpa [h] using hj) e he hb,Bool.or_true]
  ·rw[hnew] at hj
   by_cases h:j=i
   ·omega
   ·exact hlm j (by simpa [h] using hj)
  ·have hlt:(List.range m).countP (fun j=>!(listed.setIfInBounds i true).getD j false)<(List.range m).countP (fun j=>!listed.getD j false):=by
    have hmem:=List.mem_range.2 him
    generalize List.range m=l at hmem
    induction l with
    | nil=>cases hmem
    | cons x xs ihx=>
     rw[List.countP_cons,List.countP_cons]
     have hle:xs.countP (fun j=>!(listed.setIfInBounds i true).getD j false)≤xs.countP (fun j=>!listed.getD j false):=
      List.countP_mono_left fun j _ hj=>by rw[hnew] at hj;simp at hj ⊢;exact hj.2
     by_cases hx:x=i
     ·subst hx
      rw[hnew,huf];simp only[beq_self_eq_true,Bool.true_or,Bool.not_true,Bool.not_false,if_true,Bool.false_eq_true,if_false]
      omega
     ·rcases List.mem_cons.1 hmem with h|h
      ·exact absurd h.symm hx
      ·have:=ihx h
       rw[hnew];simp only[beq_false_of_ne hx,Bool.false_or]
       omega
   omega
  ·exact (hl.put (v:=v) hp him ho huf hlm).congr (fun j _ _=>(hnew j).symm) (fun _ _=>rfl)
  ·intro j hj
   rw[hnew] at hj
   by_cases h:j=i
   ·subst h;simpa using hv
   ·simp only[if_neg h]
    exact hG _ _ _ _ (hGs j (by simpa [h] using hj)) hr
theorem ku {id:Nat} {a0:Act} {w0:World} (hm:P.follows .mixedOrders=true) (R:World→World→Prop) (hrefl:∀ w,R w w) (htrans:∀ u v w,R u v→R v w→R u w)
  (G:Nat→Value→World→Prop) (hG:∀ i v w w',G i v w→R w w'→G i v w') (m:Nat) (hmn:m≤ops.size)
  (hp:iR ops m a0.tmps.size=true) (hw:gd .any ops m=true) (ht:oh .any ops m=true)
  (step:∀ (i:Nat) (o:Oper),i<m→ops[i]?=some o→∀ (f:Nat→Value) (w:World),R { w0 with drawn:=w0.drawn+1 } w→(∀ e∈o.after,Region.binds .any e=true→G e.on (f e.on) w) →
   mB P ops (laid ops f a0 (List.range m)) o w fun v w'=>G i v w'∧R w w')
  (fin:∀ (f:Nat→Value) (w:World),R { w0 with drawn:=w0.drawn+1 } w→(∀ i,i<m→G i (f i) w)→wpList P ops Q (ops.toList.drop m) (laid ops f a0 (List.range m)) w) :
  (Code.region id ops true).wp P Q a0 w0:=
 wp_region_any hm (BG R htrans G hG m hmn hp hw ht step fin ops.size (Array.replicate ops.size false) (fun _=>undef) a0 { w0 with drawn:=w0.drawn+1 } (by simp) (fun _ _ _ h=>by simp[Array.getD] at h)
  (fun j h=>by simp[Array.getD] at h)
  (by have:=List.countP_le_length (p:=fun j=>!(Array.replicate ops.size false).getD j false) (l:=List.range m);rw[List.length_range] at this;omega) ((Laid.none (f:=fun _=>undef)).congr (fun j o ho=>by simp[Array.getD]) (fun _ h=>by simp[Array.getD] at h)) (hrefl _)
  (fun j hj=>by simp[Array.getD] at hj))
end
end Go.Proofs.YtjbcmmaniphkkaaGreatDoor
namespace Go.Proofs.YtjbcmmaniphkkaaGreatDoor
open Go.RowKit LimbNum
theorem Kept.rfl' (w:World):Kept w w:=Below.refl _ _
theorem Kept.comp (u v w:World) (h1:Kept u v) (h2:Kept v w):Kept u w:=h1.trans (h2.mono h1.size)
theorem Kept.lj {w w':World} (h:Kept w.drew w'):Kept w w':=Kept.comp w w.drew w' (Below.drew (Below.refl _ _)) h
def Whole (w:World) (v:Value) (n:Int):Prop:=∃ l,v=.agg #[.bool (decide (n<0)),l]∧Lim w l n.natAbs
theorem Whole.kept {w w':World} {v:Value} {n:Int} (h:Whole w v n) (k:Kept w w'):Whole w' v n:=by
 obtain⟨l,rfl,h⟩:=h
 exact⟨l,rfl,h.kept k⟩
def Blk (w:World) (b:Nat) (t:TypeId) (cs:List Value):Prop:=w.heap[b]?=some (.cells cs.toArray t (0,0))
theorem Blk.lt {w:World} {b:Nat} {t:TypeId} {cs:List Value} (h:Blk w b t cs):b<w.heap.size:=by
 rcases Nat.lt_or_ge b w.heap.size with h'|h'
 ·exact h'
 ·unfold Blk at h;simp[h'] at h
theorem Blk.kept {w w':World} {b:Nat} {t:TypeId} {cs:List Value} (h:Blk w b t cs) (k:Kept w w'):Blk w' b t cs:=(k.block b h.lt).trans h
theorem Blk.cell {w:World} {b:Nat} {t:TypeId} {cs:List Value} (h:Blk w b t cs) (i:Nat) {u:Value} (hu:cs[i]?=some u):w.cell? ⟨b,i,none⟩=some u:=by
 unfold World.cell?;rw[h];simpa using hu
theorem Blk.free {w:World} {b:Nat} {t:TypeId} {cs:List Value} (h:Blk w b t cs) (i:Nat):w.frozen? ⟨b,i,none⟩=false:=by unfold World.frozen?;rw[h];simp
theorem aJ (w:World) (t:TypeId) (cs:List Value):Blk (w.alloc (.cells cs.toArray t)) w.heap.size t cs:=by
 show (w.heap.push _)[w.heap.size]?=_
 simp
theorem ak (w:World) (o:Obj):Kept w (w.alloc o):=(Below.refl w.heap.size w).alloc (K6 _) o
inductive Spec where
 | is (v:Value)
 | lim (n:Nat)
 | int (n:Int)
 | new (base:Nat) (t:TypeId) (cs:List Value)
 | any
def af (s:Option Spec) (v:Value) (w:World):Prop:=
 match s with
 | some (.is u)=>v=u
 | some (.lim n)=>Lim w v n
 | some (.int n)=>Whole w v n
 | some (.new base t cs)=>∃ b,v=.pointer (some ⟨b,0,none⟩)∧base≤b∧Blk w b t cs
 | _=>True
theorem af.kept (s:Option Spec) (v:Value) (w w':World) (h:af s v w) (k:Kept w w'):af s v w':=by
 unfold af at *
 split
 ·exact h
 ·exact Lim.kept h k
 ·exact Whole.kept h k
 ·obtain⟨b,e,hb,hB⟩:=h
  exact⟨b,e,hb,hB.kept k⟩
 ·trivial
theorem ae.call {P:Program} {ρ:Operand→Value} {o:Oper} {w:World} {T:Value→World→Prop} (g:FuncId) (args:Array Value)
  (h:(execOp ρ o).run P w=.ok (.enter g args) w) (hc:Calls P g args w fun e w''=>∃ v,e=.returned v∧T v w''):ae P ρ o w T:=by
 unfold ae;rw[h];exact hc
theorem ae.value {P:Program} {ρ:Operand→Value} {o:Oper} {w:World} {T:Value→World→Prop} (v:Value)
  (h:(execOp ρ o).run P w=.ok (.value v) w) (hT:T v w):ae P ρ o w T:=by
 unfold ae;rw[h];exact hT
theorem aa {u v:Value} {w:World} (h:v=u):af (some (.is u)) v w∧Kept w w:=⟨h,Kept.rfl' w⟩
def Plain (ops:Array Oper) (m:Nat):Bool:=(List.range m).all fun i=>match ops[i]? with|some o=>o.guard.isNone|none=>true
theorem cJ {P:Program} {ops:Array Oper} {Q:Exit→Act→World→Prop} {id:Nat} {a0:Act} {w0:World} (m:Nat) (specs:List Spec) (rs:List Nat) {A:(Nat→Value)→Act} (hm:P.follows .mixedOrders=true)
  (hmn:Nat.ble m ops.size=true) (hrs:List.range m=rs) (hp:iR ops m a0.tmps.size=true) (hw:gd .any ops m=true) (ht:oh .any ops m=true) (hA:∀ f,laid ops f a0 rs=A f)
  (step:∀ (i:Nat) (o:Oper),i<m→ops[i]?=some o→∀ (f:Nat→Value) (w:World),Kept w0 w→(∀ e∈o.after,Region.binds .any e=true→af specs[e.on]? (f e.on) w) →
   mB P ops (A f) o w fun v w'=>af specs[i]? v w'∧Kept w w')
  (fin:∀ (f:Nat→Value) (w:World),Kept w0 w→(∀ i,i<m→af specs[i]? (f i) w)→wpList P ops Q (ops.toList.drop m) (A f) w) :
  (Code.region id ops true).wp P Q a0 w0:=
 ku hm Kept Kept.rfl' Kept.comp (fun i v w=>af specs[i]? v w) (fun _=>af.kept _) m (Nat.le_of_ble_eq_true hmn) hp hw ht
  (fun i o him ho f w hk=>by rw[hrs,hA];exact step i o him ho f w (Kept.lj hk)) (fun f w hk=>by rw[hrs,hA];exact fin f w (Kept.lj hk))
theorem aj {P:Program} {ops:Array Oper} {Q:Exit→Act→World→Prop} {id:Nat} {a0:Act} {w0:World} (m:Nat) (specs:List Spec) (rs:List Nat) {A:(Nat→Value)→Act} (hm:P.follows .mixedOrders=true)
  (hmn:Nat.ble m ops.size=true) (hrs:List.range m=rs) (hp:(iR ops m a0.tmps.size&&Plain ops m)=true) (hw:gd .any ops m=true) (ht:oh .any ops m=true) (hA:∀ f,laid ops f a0 rs=A f)
  (step:∀ (i:Nat) (o:Oper),i<m→ops[i]?=some o→∀ (f:Nat→Value) (w:World),Kept w0 w→(∀ e∈o.after,Region.binds .any e=true→af specs[e.on]? (f e.on) w) →
   ae P (A f).eval o w fun v w'=>af specs[i]? v w'∧Kept w w')
  (fin:∀ (f:Nat→Value) (w:World),Kept w0 w→(∀ i,i<m→af specs[i]? (f i) w)→wpList P ops Q (ops.toList.drop m) (A f) w) :
  (Code.region id ops true).wp P Q a0 w0:=by
 rw[Bool.and_eq_true] at hp
 refine cJ m specs rs hm hmn hrs hp.1 hw ht hA (fun i o him ho f w hk hd=>Or.inl ⟨?_,step i o him ho f w hk hd⟩) fin
 have h1:=List.all_eq_true.1 hp.2 i (List.mem_range.2 him)
 simp only[ho,Option.isNone_iff_eq_none] at h1
 simp only[Region.wanted,h1]
theorem pd (w:World) (vs:Array Value) (t:TypeId) (k:Nat) (u:Value) (hu:vs[k]?=some u):(w.alloc (.cells vs t)).cell? ⟨w.heap.size,k,none⟩=some u:=by
 have h:(w.alloc (.cells vs t)).heap[w.heap.size]?=some (.cells vs t):=by
  show (w.heap.push _)[w.heap.size]?=_
  simp
 unfold World.cell?
 rw[h]
 exact hu
theorem wJ (w:World) (o:Obj):w.heap.size<(w.alloc o).heap.size:=by
 show w.heap.size<(w.heap.push o).size
 simp
end Go.Proofs.YtjbcmmaniphkkaaGreatDoor
namespace Go.Proofs.YtjbcmmaniphkkaaGreatDoor
open Go.RowKit LimbNum
theorem lW {x f:Nat} (hf:f<LimbNum.B):size (x*f)≤size x+1:=by
 refine size_le ?_
 rw[Nat.pow_succ]
 rcases Nat.eq_zero_or_pos f with h|h
 ·subst h;rw[Nat.mul_zero];exact Nat.mul_pos (Nat.pow_pos aA) aA
 ·exact Nat.lt_of_lt_of_le (Nat.mul_lt_mul_of_pos_right (lt_size x) h) (Nat.mul_le_mul_left _ (by omega))
theorem nX (va vb:Value) (x y:Nat) (w:World) (ha:Lim w va x) (hb:Lim w vb y) (hx:size x≤268435456) (hy2:2≤size y) (hle:y≤x) :
  Calls Tryz.prog 209 #[va,vb] w fun e w'=>∃ v1 v2 a b,e=.returned (.tuple #[v1,v2])∧Lim w' v1 a∧Lim w' v2 b∧Hid (b≤a∧b<y∧a≤y∧Nat.gcd a b=Nat.gcd x y)∧Kept w w':=by
 have hyx:=aK hle
 have heu:=K7 (xc va vb x y w ha hb (by omega) (by omega) hy2 hle)
 have hy0:y≠0:=by intro h;subst h;simp[bW] at hy2
 have hdv:=K7 fun w' (hk:Kept w w')=>iV va vb x y w' (ha.kept hk) (hb.kept hk) (by omega) hy0
 have Ha:=K7 fun w' (hk:Kept w w')=>ha.kept hk
 have Hb:=K7 fun w' (hk:Kept w w')=>hb.kept hk
 clear ha hb
 go_enter Tryz.func209,Tryz.ntmps209
 go_wp2_with fail
 refine (heu.out).mono ?_
 rintro e w1 ⟨x0,y0,x1,y1,rfl,hp,hk1⟩
 by_cases h0:y0=0
 ·subst h0
  rw[show ((0:Nat):Int)=0 from rfl]
  go_wp2_with fail
  have hka:Kept w1 (w1.alloc (Obj.cells #[Value.int .u64 (x0:Int),Value.int .u64 0,Value.int .u64 (x1:Int),Value.int .u64 (y1:Int)] 269)):=(Below.refl _ _).alloc (K6 _) _
  have hk2:=hk1.trans (hka.mono hk1.size)
  refine (hdv.out _ hk2).mono ?_
  rintro e w2 ⟨v,r,rfl,hv,hr,hk3⟩
  go_wp2
  go_ret2
  have hk4:=hk2.trans (hk3.mono hk2.size)
  exact⟨vb,r,y,x%y,rfl,Hb.out _ hk4,hr,K7 ⟨Nat.le_of_lt (Nat.mod_lt _ (by omega)),Nat.mod_lt _ (by omega),K6 _,by rw[Nat.gcd_comm,←Nat.gcd_rec,Nat.gcd_comm]⟩,hk4⟩
 ·have hne:((y0:Int)==0)=false:=by rw[beq_eq_false_iff_ne];omega
  go_wp2_with fail
  have hcell:∀ k u,(#[Value.int .u64 (x0:Int),Value.int .u64 (y0:Int),Value.int .u64 (x1:Int),Value.int .u64 (y1:Int)]:Array Value)[k]?=some u→∀ w',Kept (w1.alloc (Obj.cells #[Value.int .u64 (x0:Int),Value.int .u64 (y0:Int),Value.int .u64 (x1:Int),Value.int .u64 (y1:Int)] 269)) w'→w'.cell? ⟨w1.heap.size,k,none⟩=some u:=by
   intro k u hu w' hk
   exact (Below.cell hk (wJ _ _)).trans (pd _ _ _ _ _ hu)
  refine aj 20 [.is va,.is (.pointer (some ⟨w1.heap.size,0,none⟩)),.is (.int .u64 x0),.lim (x*x0),
   .is vb,.is (.pointer (some ⟨w1.heap.size,1,none⟩)),.is (.int .u64 y0),.lim (y*y0),.lim (jb (x*x0) (y*y0)),
   .is va,.is (.pointer (some ⟨w1.heap.size,2,none⟩)),.is (.int .u64 x1),.lim (x*x1),
   .is vb,.is (.pointer (some ⟨w1.heap.size,3,none⟩)),.is (.int .u64 y1),.lim (y*y1),.lim (jb (x*x1) (y*y1)),
   .lim (jb (x*x0) (y*y0)),.lim (jb (x*x1) (y*y1))] [0,1,2,3,4,5,6,7,8,9,10,11,12,13,14,15,16,17,18,19] (by kernel_rfl) (by kernel_rfl) (by kernel_rfl) (by kernel_rfl) (by kernel_rfl) (by kernel_rfl) (by intro f;simp only[laid,List.foldl_cons,List.foldl_nil,List.getElem?_toArray,K9,K8,Option.bind_some,Act.put,List.setIfInBounds_toArray,List.set_cons_zero,List.set_cons_succ];rfl) ?_ ?_
  ·intro i o him ho f w2 hk2 hdep
   have hcs:=fun k u hu=>hcell k u hu w2 hk2
   clear hcell
   have hkw:Kept w w2:=Kept.comp _ _ _ hk1 (Kept.comp _ _ _ ((Below.refl _ _).alloc (K6 _) _) hk2)
   have hax:=Ha.out w2 hkw
   have hby:=Hb.out w2 hkw
   obtain⟨_,hB0,hB1,hB2,hB3⟩:=hp.out
   have hma:=fun (v:Value) (z g:Nat) (hz:Lim w2 v z) (hs:size z≤1073741824) (hg:g<LimbNum.B)=>fh v z g 0 w2 hz hs hg aA
   rcases i with _|_|_|_|_|_|_|_|_|_|_|_|_|_|_|_|_|_|_|_|i
   ·cases so ho
    refine ae.value va ?_ (aa rfl)
    go_simp
   ·cases so ho
    refine ae.value (.pointer (some ⟨w1.heap.size,0,none⟩)) ?_ (aa rfl)
    go_simp
   ·cases so ho
    have d1:=hdep ⟨1,.data⟩ (by simp) rfl
    simp only[af,K9,K8] at d1
    have hc:=hcs 0 _ rfl
    refine ae.value (.int .u64 x0) ?_ (aa rfl)
    go_simp
   ·cases so ho
    have d0:=hdep ⟨0,.data⟩ (by simp) rfl
    have d2:=hdep ⟨2,.data⟩ (by simp) rfl
    simp only[af,K9,K8] at d0 d2
    refine ae.call 207 #[va,.int .u64 x0,.int .u64 0] (by go_simp) ((hma va x x0 hax (by omega) hB0).mono ?_)
    rintro e w3 ⟨u,rfl,hu,hk3⟩
    exact⟨u,rfl,hu,hk3⟩
   ·cases so ho
    refine ae.value vb ?_ (aa rfl)
    go_simp
   ·cases so ho
    refine ae.value (.pointer (some ⟨w1.heap.size,1,none⟩)) ?_ (aa rfl)
    go_simp
   ·cases so ho
    have d5:=hdep ⟨5,.data⟩ (by simp) rfl
    simp only[af,K9,K8] at d5
    have hc:=hcs 1 _ rfl
    refine ae.value (.int .u64 y0) ?_ (aa rfl)
    go_simp
   ·cases so ho
    have d4:=hdep ⟨4,.data⟩ (by simp) rfl
    have d6:=hdep ⟨6,.data⟩ (by simp) rfl
    simp only[af,K9,K8] at d4 d6
    refine ae.call 207 #[vb,.int .u64 y0,.int .u64 0] (by go_simp) ((hma vb y y0 hby (by omega) hB1).mono ?_)
    rintro e w3 ⟨u,rfl,hu,hk3⟩
    exact⟨u,rfl,hu,hk3⟩
   ·cases so ho
    have d3:=hdep ⟨3,.data⟩ (by simp) rfl
    have d7:=hdep ⟨7,.data⟩ (by simp) rfl
    simp only[af,K9,K8] at d3 d7
    have s1:=lW (x:=x) hB0
    have s2:=lW (x:=y) hB1
    refine ae.call 245 #[f 3,f 7] (by go_simp) ((lJ (f 3) (f 7) (x*x0) (y*y0) w2 d3 d7 (by omega) (by omega)).mono ?_)
    rintro e w3 ⟨u,rfl,hu,hk3⟩
    exact⟨u,rfl,hu,hk3⟩
   ·cases so ho
    refine ae.value va ?_ (aa rfl)
    go_simp
   ·cases so ho
    refine ae.value (.pointer (some ⟨w1.heap.size,2,none⟩)) ?_ (aa rfl)
    go_simp
   ·cases so ho
    have d10:=hdep ⟨10,.data⟩ (by simp) rfl
    simp only[af,K9,K8] at d10
    have hc:=hcs 2 _ rfl
    refine ae.value (.int .u64 x1) ?_ (aa rfl)
    go_simp
   ·cases so ho
    have d9:=hdep ⟨9,.data⟩ (by simp) rfl
    have d11:=hdep ⟨11,.data⟩ (by simp) rfl
    simp only[af,K9,K8] at d9 d11
    refine ae.call 207 #[va,.int .u64 x1,.int .u64 0] (by go_simp) ((hma va x x1 hax (by omega) hB2).mono ?_)
    rintro e w3 ⟨u,rfl,hu,hk3⟩
    exact⟨u,rfl,hu,hk3⟩
   ·cases so ho
    refine ae.value vb ?_ (aa rfl)
    go_simp
   ·cases so ho
    refine ae.value (.pointer (some ⟨w1.heap.size,3,none⟩)) ?_ (aa rfl)
    go_simp
   ·cases so ho
    have d14:=hdep ⟨14,.data⟩ (by simp) rfl
    simp only[af,K9,K8] at d14
    have hc:=hcs 3 _ rfl
    refine ae.value (.int .u64 y1) ?_ (aa rfl)
    go_simp
   ·cases so ho
    have d13:=hdep ⟨13,.data⟩ (by simp) rfl
    have d15:=hdep ⟨15,.data⟩ (by simp) rfl
    simp only[af,K9,K8] at d13 d15
    refine ae.call 207 #[vb,.int .u64 y1,.int .u64 0] (by go_simp) ((hma vb y y1 hby (by omega) hB3).mono ?_)
    rintro e w3 ⟨u,rfl,hu,hk3⟩
    exact⟨u,rfl,hu,hk3⟩
   ·cases so ho
    have d12:=hdep ⟨12,.data⟩ (by simp) rfl
    have d16:=hdep ⟨16,.data⟩ (by simp) rfl
    simp only[af,K9,K8] at d12 d16
    have s1:=lW (x:=x) hB2
    have s2:=lW (x:=y) hB3
    refine ae.call 245 #[f 12,f 16] (by go_simp) ((lJ (f 12) (f 16) (x*x1) (y*y1) w2 d12 d16 (by omega) (by omega)).mono ?_)
    rintro e w3 ⟨u,rfl,hu,hk3⟩
    exact⟨u,rfl,hu,hk3⟩
   ·cases so ho
    have d8:=hdep ⟨8,.data⟩ (by simp) rfl
    simp only[af,K9,K8] at d8
    refine ae.value (f 8) (by go_simp) ⟨d8,Kept.rfl' _⟩
   ·cases so ho
    have d17:=hdep ⟨17,.data⟩ (by simp) rfl
    simp only[af,K9,K8] at d17
    refine ae.value (f 17) (by go_simp) ⟨d17,Kept.rfl' _⟩
   ·cases (show none=some o from ho)
  ·intro f w2 hk2 hall
   have h1:=hall 18 (by decide)
   have h2:=hall 19 (by decide)
   simp only[af,K9,K8] at h1 h2
   have hkw:Kept w w2:=Kept.comp _ _ _ hk1 (Kept.comp _ _ _ ((Below.refl _ _).alloc (K6 _) _) hk2)
   clear hall hcell
   refine wpList_nil ?_
   go_wp2
   go_ret2
   obtain⟨g1,g2,g3⟩:=mE.nat hp.out.1 h0
   exact⟨f 18,f 19,_,_,rfl,h1,h2,K7 ⟨Nat.le_of_lt g1,by omega,g2,g3⟩,hkw⟩
end Go.Proofs.YtjbcmmaniphkkaaGreatDoor
namespace Go.Proofs.YtjbcmmaniphkkaaGreatDoor
open Go
section
variable {P : Program} {ops : Array Oper} {Q : Exit → Act → World → Prop} {md : Region.Mode}
theorem yi {a0:Act} {w0:World} (R:World→World→Prop) (htrans:∀ u v w,R u v→R v w→R u w)
  (G:Nat→Value→World→Prop) (hG:∀ i v w w',G i v w→R w w'→G i v w') (D:Nat→Nat→Value→Value→Prop) (m:Nat) (hm:m≤ops.size)
  (hp:iR ops m a0.tmps.size=true) (hw:gd md ops m=true) (ht:oh md ops m=true)
  (step:∀ (i:Nat) (o:Oper),i<m→ops[i]?=some o→∀ (f:Nat→Value) (w:World),R w0 w→(∀ e∈o.after,Region.binds md e=true→G e.on (f e.on) w) →
   mB P ops (laid ops f a0 (List.range m)) o w fun v w'=>G i v w'∧R w w'∧∀ j u,j≠i→G j u w→D i j v u∧D j i u v)
  (fin:∀ (f:Nat→Value) (w:World),R w0 w→(∀ i,i<m→G i (f i) w)→(∀ i j,i<m→j<m→i≠j→D i j (f i) (f j))→wpList P ops Q (ops.toList.drop m) (laid ops f a0 (List.range m)) w) :
  ∀ (fuel:Nat) (listed:Array Bool) (f:Nat→Value) (a:Act) (w:World),listed.size=ops.size→oZ md ops listed→(∀ j,listed.getD j false=true→j<m) →
   ops.size-m+(List.range m).countP (fun j=>!listed.getD j false)≤fuel →
   Laid ops f a0 (fun j=>listed.getD j false) a→R w0 w→(∀ j,listed.getD j false=true→G j (f j) w)→(∀ i j,listed.getD i false=true→listed.getD j false=true→i≠j→D i j (f i) (f j))→wpAny P md ops Q fuel listed a w:=by
 have hend:∀ (fuel:Nat) (listed:Array Bool) (f:Nat→Value) (a:Act) (w:World),listed.size=ops.size→(∀ j,listed.getD j false=true→j<m)→ops.size-m≤fuel →
   Laid ops f a0 (fun j=>listed.getD j false) a→R w0 w →
   (∀ j,listed.getD j false=true→G j (f j) w)→(∀ i j,listed.getD i false=true→listed.getD j false=true→i≠j→D i j (f i) (f j))→(∀ j,j<m→listed.getD j false=true)→wpAny P md ops Q fuel listed a w:=by
  intro fuel listed f a w hs hlm hf hl hR hGs hDs hall
  have hlj:∀ j,listed.getD j false=decide (j<m):=fun j=>by
   rw[Bool.eq_iff_iff,decide_eq_true_iff]
   exact⟨hlm j,hall j⟩
  have e:listed=dC ops.size m:=by
   apply Array.ext (by rw[hs,nL])
   intro j h1 h2
   have a1:=hlj j
   have a2:=dc ops.size m j false (by omega)
   simp only[Array.getD,h1,h2,dif_pos] at a1 a2
   exact a1.trans a2.symm
  have ea:=hl.ext (gY (f:=f) hp m (K6 _) hm) (fun j _ _=>hlj j)
  rw[e,ea]
  exact qW ht hw (ops.size-m) m (by omega) (K6 _) fuel hf _ w (fin f w hR (fun i hi=>hGs i (hall i hi)) fun i j hi hj=>hDs i j (hall i hi) (hall j hj))
 intro fuel
 induction fuel with
 | zero=>
  intro listed f a w hs _ hlm hc hl hR hGs hDs
  refine hend 0 listed f a w hs hlm (by omega) hl hR hGs hDs fun j hj=>?_
  have:=List.countP_eq_zero.1 (by omega:(List.range m).countP (fun j=>!listed.getD j false)=0) j (List.mem_range.2 hj)
  simpa using this
 | succ fuel ih=>
  intro listed f a w hs hcl hlm hc hl hR hGs hDs
  by_cases hall:∀ j,j<m→listed.getD j false=true
  ·exact hend (fuel+1) listed f a w hs hlm (by omega) hl hR hGs hDs hall
  have hex:∃ n,n<m∧listed.getD n false=false:=by
   rcases Classical.em (∃ n,n<m∧listed.getD n false=false) with h|h
   ·exact h
   ·exact absurd (fun j hj=>by
     rcases Bool.eq_false_or_eq_true (listed.getD j false) with h'|h'
     ·exact h'
     ·exact absurd ⟨j,hj,h'⟩ h) hall
  obtain⟨n,⟨hnm,hnf⟩,hmin⟩:=exists_least hex
  have hnr:n∈Region.ready md ops listed:=by
   have ho:ops[n]?=some ops[n]:=Array.getElem?_eq_getElem (by omega)
   rw[mem_ready]
   refine ⟨?_,_,ho,fun e he hb=>?_⟩
   ·have hl:n<listed.size:=by omega
    simp only[Array.getD,hl,dif_pos] at hnf ⊢
    exact hnf
   ·have hle:=(iu hw ho).1 e he hb
    rcases Bool.eq_false_or_eq_true (listed.getD e.on false) with h|h
    ·exact h
    ·exact absurd ⟨by omega,h⟩ (hmin e.on hle)
  refine ⟨fun hr=>(by rw[hr] at hnr;cases hnr),fun i hi=>?_⟩
  obtain⟨hu,o,ho,hdep⟩:=mem_ready.1 hi
  have hi':i<ops.size:=(Array.getElem?_eq_some_iff.1 ho).1
  have him:i<m:=by
   rcases Nat.lt_or_ge i m with h|h
   ·exact h
   ·have:=tail_at ht h ho hcl hdep n (by omega)
    rw[hnf] at this;cases this
  have hil:i<listed.size:=by omega
  have huf:listed.getD i false=false:=by simp only[Array.getD,hil,dif_pos] at hu ⊢;exact hu
  obtain⟨hsel,hd⟩:=qm hp him ho
  obtain⟨hlt,hop,hgd⟩:=iu hw ho
  have hst:=step i o him ho f w hR fun e he hb=>hGs e.on (hdep e he hb)
  have hfull:=gY (f:=f) hp m (K6 _) hm
  have hex:execOp a.eval o=execOp (laid ops f a0 (List.range m)).eval o:=by
   refine execOp_congr o hsel fun x hx=>hl.eval hfull fun t hxt j p hpj hpd=>?_
   subst hxt
   rcases Nat.lt_or_ge j m with hjm|hjm
   ·obtain⟨e,he,hb,hej⟩:=hop him t hx j p hjm hpj hpd
    subst hej
    rw[hdep e he hb,decide_eq_true hjm]
   ·rw[decide_eq_false (by omega)]
    rcases Bool.eq_false_or_eq_true (listed.getD j false) with h|h
    ·have:=hlm j h;omega
    ·exact h
  have hwn:Region.wanted o (yielded ops a.tmps)=Region.wanted o (yielded ops (laid ops f a0 (List.range m)).tmps):=by
   unfold Region.wanted
   cases hg:o.guard with
   | none=>rfl
   | some gw=>
    obtain⟨g,want⟩:=gw
    obtain⟨e,he,hb,hej⟩:=hgd him g want hg
    have hy:yielded ops a.tmps g=yielded ops (laid ops f a0 (List.range m)).tmps g:=by
     unfold yielded
     cases ht:(ops[g]?).bind (·.dst) with
     | none=>rfl
     | some t=>
      obtain⟨p,hp1,hp2⟩:=Option.bind_eq_some_iff.1 ht
      have hgl:=hdep e he hb
      rw[hej] at hgl
      have e1:=hl.new g p t hgl hp1 hp2
      have e2:=hfull.new g p t (by have:=hlt e he hb;simp;omega) hp1 hp2
      simp only[Option.bind_some,e1,e2]
    simp only[hy]
  have hnext:wpOp P ops Q i (fun a' w'=>∃ v,a'=a.put o.dst v∧G i v w'∧R w w'∧∀ j u,j≠i→G j u w→D i j v u∧D j i u v) a w:=by
   unfold wpOp
   simp only[ho]
   rw[hwn]
   rcases hst with ⟨hwt,hst⟩|⟨hwt,hst⟩
   ·rw[if_pos hwt]
    exact Or.inl (ae.wp (T:=fun v w'=>G i v w'∧R w w'∧∀ j u,j≠i→G j u w→D i j v u∧D j i u v) (by unfold ae at hst ⊢;rw[hex];exact hst) fun v w' h=>⟨v,rfl,h⟩)
   ·rw[if_neg (by rw[hwt];simp)]
    exact⟨undef,rfl,hst⟩
  refine wpOp_mono (fun a' w' ⟨v,ha',hv,hr,hdd⟩=>?_) hnext
  subst ha'
  have hnew:∀ j,(listed.setIfInBounds i true).getD j false=(j==i || listed.getD j false):=fun j=>by
   by_cases h:j=i
   ·subst h;simp[hil]
   ·rw[getD_set_ne false (Ne.symm h)];simp[h]
  refine ih (listed.setIfInBounds i true) (fun j=>if j=i then v else f j) _ w' (by simpa using hs) ?_ (fun j hj=>?_) ?_ ?_ (htrans _ _ _ hR hr) ?_ ?_
  ·intro j p hp' hj e he hb
   rw[hnew] at hj ⊢
   by_cases h:j=i
   ·subst h
    rw[ho] at hp';cases hp'
    rw[hdep e he hb,Bool.or_true]
   ·rw[hcl j p hp' (by simpa [h] using hj) e he hb,Bool.or_true]
  ·rw[hnew] at hj
   by_cases h:j=i
   ·omega
   ·exact hlm j (by simpa [h] using hj)
  ·have hlt:(List.range m).countP (fun j=>!(listed.setIfInBounds i true).getD j false)<(List.range m).countP (fun j=>!listed.getD j false):=by
    have hmem:=List.mem_range.2 him
    generalize List.range m=l at hmem
    induction l with
    | nil=>cases hmem
    | cons x xs ihx=>
     rw[List.countP_cons,List.countP_cons]
     have hle:xs.countP (fun j=>!(listed.setIfInBounds i true).getD j false)≤xs.countP (fun j=>!listed.getD j false):=
      List.countP_mono_left fun j _ hj=>by rw[hnew] at hj;simp at hj ⊢;exact hj.2
     by_cases hx:x=i
     ·subst hx
      rw[hnew,huf];simp only[beq_self_eq_true,Bool.true_or,Bool.not_true,Bool.not_false,if_true,Bool.false_eq_true,if_false]
      omega
     ·rcases List.mem_cons.1 hmem with h|h
      ·exact absurd h.symm hx
      ·have:=ihx h
       rw[hnew];simp only[beq_false_of_ne hx,Bool.false_or]
       omega
   omega
  ·exact (hl.put (v:=v) hp him ho huf hlm).congr (fun j _ _=>(hnew j).symm) (fun _ _=>rfl)
  ·intro j hj
   rw[hnew] at hj
   by_cases h:j=i
   ·subst h;simpa using hv
   ·simp only[if_neg h]
    exact hG _ _ _ _ (hGs j (by simpa [h] using hj)) hr
  ·intro p q hp1 hq1 hne
   rw[hnew] at hp1 hq1
   by_cases h1:p=i
   ·subst h1
    have hq2:q≠p:=fun h=>hne h.symm
    simp only[if_neg hq2,if_true]
    exact (hdd q (f q) hq2 (hGs q (by simpa [hq2] using hq1))).1
   ·by_cases h2:q=i
    ·subst h2
     simp only[if_neg h1,if_true]
     exact (hdd p (f p) h1 (hGs p (by simpa [h1] using hp1))).2
    ·simp only[if_neg h1,if_neg h2]
     exact hDs p q (by simpa [h1] using hp1) (by simpa [h2] using hq1) hne
theorem qX {id:Nat} {a0:Act} {w0:World} (hm:P.follows .mixedOrders=true) (R:World→World→Prop) (hrefl:∀ w,R w w) (htrans:∀ u v w,R u v→R v w→R u w)
  (G:Nat→Value→World→Prop) (hG:∀ i v w w',G i v w→R w w'→G i v w') (D:Nat→Nat→Value→Value→Prop) (m:Nat) (hmn:m≤ops.size)
  (hp:iR ops m a0.tmps.size=true) (hw:gd .any ops m=true) (ht:oh .any ops m=true)
  (step:∀ (i:Nat) (o:Oper),i<m→ops[i]?=some o→∀ (f:Nat→Value) (w:World),R { w0 with drawn:=w0.drawn+1 } w→(∀ e∈o.after,Region.binds .any e=true→G e.on (f e.on) w) →
   mB P ops (laid ops f a0 (List.range m)) o w fun v w'=>G i v w'∧R w w'∧∀ j u,j≠i→G j u w→D i j v u∧D j i u v)
  (fin:∀ (f:Nat→Value) (w:World),R { w0 with drawn:=w0.drawn+1 } w→(∀ i,i<m→G i (f i) w)→(∀ i j,i<m→j<m→i≠j→D i j (f i) (f j))→wpList P ops Q (ops.toList.drop m) (laid ops f a0 (List.range m)) w) :
  (Code.region id ops true).wp P Q a0 w0:=
 wp_region_any hm (yi R htrans G hG D m hmn hp hw ht step fin ops.size (Array.replicate ops.size false) (fun _=>undef) a0 { w0 with drawn:=w0.drawn+1 } (by simp) (fun _ _ _ h=>by simp[Array.getD] at h)
  (fun j h=>by simp[Array.getD] at h)
  (by have:=List.countP_le_length (p:=fun j=>!(Array.replicate ops.size false).getD j false) (l:=List.range m);rw[List.length_range] at this;omega) ((Laid.none (f:=fun _=>undef)).congr (fun j o ho=>by simp[Array.getD]) (fun _ h=>by simp[Array.getD] at h)) (hrefl _)
  (fun j hj=>by simp[Array.getD] at hj) (fun i j h=>by simp[Array.getD] at h))
end
end Go.Proofs.YtjbcmmaniphkkaaGreatDoor
