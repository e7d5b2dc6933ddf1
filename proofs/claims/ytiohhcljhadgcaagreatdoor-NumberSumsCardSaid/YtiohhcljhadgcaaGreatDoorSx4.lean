import Derived.Orders
import Derived.Scope
import Derived.LoopN
import Derived.Test.YtiohhcljhadgcaaGreatDoorSx3
set_option linter.unusedSectionVars false
set_option linter.unusedVariables false
set_option linter.unusedSimpArgs false
namespace Go.Sx
open LimbNum
variable [Glob]
mutual
def dE:AV→AV→Bool
 | .bool a,.bool b=>a==b
 | .int k a,.int l b=>decide (k=l)&&decide (a=b)
 | .float k a,.float l b=>decide (k=l)&&Nat.beq a b
 | .str a,.str b=>a==b
 | .nilp,.nilp=>true
 | .ptr a b,.ptr c d=>Nat.beq a c&&Nat.beq b d
 | .nils,.nils=>true
 | .sl a b c d,.sl e f g h=>Nat.beq a e&&Nat.beq b f&&Nat.beq c g&&Nat.beq d h
 | .big a,.big b=>Nat.beq a b
 | .mp a,.mp b=>Nat.beq a b
 | .nilm,.nilm=>true
 | .gp a b,.gp c d=>Nat.beq a c&&Nat.beq b d
 | .fn f a,.fn g b=>Nat.beq f g&&fO a b
 | .nilf,.nilf=>true
 | .agg a,.agg b=>fO a b
 | .tup a,.tup b=>fO a b
 | _,_=>false
def fO:List AV→List AV→Bool
 | [],[]=>true
 | a::l,b::m=>dE a b&&fO l m
 | _,_=>false
end
mutual
theorem rF:∀ a b,dE a b=true→a=b
 | .bool a,b,h=>by cases b<;>simp_all [dE]
 | .int k a,b,h=>by cases b<;>simp_all [dE]
 | .float k a,b,h=>by cases b<;>simp_all [dE]
 | .str a,b,h=>by cases b<;>simp_all [dE]
 | .nilp,b,h=>by cases b<;>simp_all [dE]
 | .ptr a c,b,h=>by cases b<;>simp_all [dE]
 | .nils,b,h=>by cases b<;>simp_all [dE]
 | .sl a c d e,b,h=>by cases b<;>simp_all [dE]
 | .big a,b,h=>by cases b<;>simp_all [dE]
 | .mp a,b,h=>by cases b<;>simp_all [dE]
 | .nilm,b,h=>by cases b<;>simp_all [dE]
 | .gp a c,b,h=>by cases b<;>simp_all [dE]
 | .fn f a,b,h=>by
  cases b<;>simp only[dE,Bool.and_eq_true,Bool.false_eq_true] at h
  rw[eV _ _ h.2,Nat.eq_of_beq_eq_true h.1]
 | .nilf,b,h=>by cases b<;>simp_all [dE]
 | .agg a,b,h=>by
  cases b<;>simp only[dE,Bool.false_eq_true] at h
  rw[eV _ _ h]
 | .tup a,b,h=>by
  cases b<;>simp only[dE,Bool.false_eq_true] at h
  rw[eV _ _ h]
 | .dead,b,h=>by cases b<;>simp[dE] at h
theorem eV:∀ a b,fO a b=true→a=b
 | [],b,h=>by cases b<;>simp_all [fO]
 | x::l,b,h=>by
  cases b with
  | nil=>simp[fO] at h
  | cons y m=>
   simp only[fO,Bool.and_eq_true] at h
   rw[rF _ _ h.1,eV _ _ h.2]
end
def Br:Option (List AV)→Option (List AV)→Bool
 | none,none=>true
 | some a,some b=>fO a b
 | _,_=>false
theorem A2 {a b:Option (List AV)} (h:Br a b=true):a=b:=by
 cases a<;>cases b<;>simp_all [Br]
 exact eV _ _ h
def A1 (acc:List Nat) (o:Oper):Nat:=
 o.after.toList.foldl (fun s e=>if Region.binds .any e then s ||| 2^e.on ||| acc.getD e.on 0 else s) 0
def yi:List Oper→List Nat→List Nat
 | [],acc=>acc
 | o::l,acc=>yi l (acc++[A1 acc o])
theorem yj (acc:List Nat) (o:Oper) (j:Nat) (h:(A1 acc o).testBit j=true):∃ e∈o.after,Region.binds .any e=true∧(e.on=j∨(acc.getD e.on 0).testBit j=true):=by
 unfold A1 at h
 have key:∀ (l:List Edge) (s:Nat),(l.foldl (fun s e=>if Region.binds .any e then s ||| 2^e.on ||| acc.getD e.on 0 else s) s).testBit j=true →
   s.testBit j=true∨∃ e∈l,Region.binds .any e=true∧(e.on=j∨(acc.getD e.on 0).testBit j=true):=by
  intro l
  induction l with
  | nil=>intro s h;exact .inl h
  | cons e l ih=>
   intro s h
   rw[List.foldl_cons] at h
   rcases ih _ h with h1|⟨e',h1,h2⟩
   ·split at h1
    ·rename_i hb
     simp only[Nat.testBit_or,Bool.or_eq_true] at h1
     rcases h1 with (h1|h1)|h1
     ·exact .inl h1
     ·refine .inr ⟨e,by simp,hb,.inl ?_⟩
      rw[Nat.testBit_two_pow] at h1
      simpa using h1
     ·exact .inr ⟨e,by simp,hb,.inr h1⟩
    ·exact .inl h1
   ·exact .inr ⟨e',by simp[h1],h2⟩
 rcases key _ 0 h with h1|⟨e,h1,h2⟩
 ·simp at h1
 ·exact⟨e,by simpa using h1,h2⟩
theorem getD_none {α:Type} {l:List α} {i:Nat} {d:α} (h:l.length≤i):l.getD i d=d:=by
 rw[List.getD_eq_getElem?_getD,List.getElem?_eq_none h];rfl
theorem ld {α:Type} {l m:List α} {i:Nat} {d:α} (h:i<l.length):(l++m).getD i d=l.getD i d:=by
 rw[List.getD_eq_getElem?_getD,List.getD_eq_getElem?_getD,List.getElem?_append_left h]
theorem wH {α:Type} {l:List α} {x d:α}:(l++[x]).getD l.length d=x:=by
 rw[List.getD_eq_getElem?_getD,List.getElem?_append_right (Nat.le_refl _),Nat.sub_self];rfl
theorem rE:∀ (l:List Oper) (acc:List Nat) (ops:List Oper),ops.drop acc.length=l →
  (∀ i o j,i<acc.length→ops[i]?=some o→(acc.getD i 0).testBit j=true→∃ e∈o.after,Region.binds .any e=true∧(e.on=j∨(e.on<acc.length∧(acc.getD e.on 0).testBit j=true))) →
  ∀ i o j,ops[i]?=some o→((yi l acc).getD i 0).testBit j=true→∃ e∈o.after,Region.binds .any e=true∧(e.on=j∨((yi l acc).getD e.on 0).testBit j=true)
 | [],acc,ops,hd,hacc,i,o,j,ho,h=>by
  simp only[yi] at h ⊢
  have hi:i<acc.length:=by
   rcases Nat.lt_or_ge i acc.length with h'|h'
   ·exact h'
   ·rw[getD_none h'] at h;simp at h
  obtain⟨e,h1,h2,h3⟩:=hacc i o j hi ho h
  exact⟨e,h1,h2,h3.imp id (·.2)⟩
 | x::l,acc,ops,hd,hacc,i,o,j,ho,h=>by
  refine rE l (acc++[A1 acc x]) ops ?_ ?_ i o j ho h
  ·rw[List.length_append,List.length_singleton,←List.drop_drop,hd];rfl
  ·intro i o j hi ho h
   rw[List.length_append,List.length_singleton] at hi
   by_cases hia:i<acc.length
   ·rw[ld hia] at h
    obtain⟨e,h1,h2,h3⟩:=hacc i o j hia ho h
    exact⟨e,h1,h2,h3.imp id fun h=>⟨by simp;omega,by rw[ld h.1];exact h.2⟩⟩
   ·obtain rfl:i=acc.length:=by omega
    have hx:o=x:=by
     have:(ops.drop acc.length)[0]?=some x:=by rw[hd];rfl
     rw[List.getElem?_drop,Nat.add_zero,ho] at this
     simpa using this
    subst hx
    rw[wH] at h
    obtain⟨e,h1,h2,h3⟩:=yj acc o j h
    refine ⟨e,h1,h2,h3.imp id fun h3=>?_⟩
    have:e.on<acc.length:=by
     rcases Nat.lt_or_ge e.on acc.length with h'|h'
     ·exact h'
     ·rw[getD_none h'] at h3;simp at h3
    exact⟨by simp;omega,by rw[ld this];exact h3⟩
def bef (ops:Array Oper):List Nat:=yi ops.toList []
def rch (ops:Array Oper) (i j:Nat):Bool:=((bef ops).getD i 0).testBit j
theorem zr {ops:Array Oper} {i j:Nat} {o:Oper} (ho:ops[i]?=some o) (h:rch ops i j=true):∃ e∈o.after,Region.binds .any e=true∧(e.on=j∨rch ops e.on j=true):=
 rE ops.toList [] ops.toList rfl (fun i o j hi=>by simp at hi) i o j (by simpa using ho) h
def lX (ops:Array Oper) (o:Oper):List Nat:=
 (o.op.operands.toList.filterMap fun | .tmp t=>some t|_=>none)++(match o.guard with|some (g,_)=>((ops[g]?).bind (·.dst)).toList|none=>[])
def jY (ops:Array Oper) (oi oj:Oper):Bool:=
 (match oi.dst with|some d=>oj.dst==some d || (lX ops oj).contains d|none=>false) || (match oj.dst with|some d=>(lX ops oi).contains d|none=>false)
def fy:List Oper→Nat
 | []=>0
 | o::l=>if kd o.op=3 then 0 else fy l+1
def nB (ops:Array Oper):Bool:=
 let p:=fy ops.toList
 (List.range ops.size).all fun i=>match ops[i]? with
  | none=>true
  | some oi=>(oi.after.all fun e=>!Region.binds .any e || Nat.blt e.on i) &&
   (List.range i).all fun j=>match ops[j]? with
    | none=>true
    | some oj=>rch ops i j || (!jY ops oi oj&&(Nat.blt i p || (Nat.blt j p&&Nat.beq (kd oj.op) 0)))
end Go.Sx
namespace Go.Sx
open LimbNum
variable [Glob]
structure Ent where
 tm:Tr AV
 st:Hp
 st':Hp
 av:AV
 run:Bool
section
variable {P : Program} {E : Env} {β : Type} {r : β}
def opP (E:Env) (call:FuncId→List AV→Hp→Option (AV × Hp)) (ρ:Operand→AV) (st:Hp) (o:Oper) (k:AV→Hp→Option β):Option β:=
 opA E call ρ ⟨st.h,st.nx,st.nx⟩ o fun av st'=>if Nat.beq st'.lo st.nx then k av ⟨st'.h,st'.nx,st.lo⟩ else none
def opD (E:Env) (call:FuncId→List AV→Hp→Option (AV × Hp)):Nat→(Operand→AV)→Hp→Oper→(AV→Hp→Option β)→Option β
 | 0=>opA E call
 | _+1=>opP E call
def runT (E:Env) (call:FuncId→List AV→Hp→Option (AV × Hp)) (n:Nat) (ops:Array Oper):Nat→List Oper→Tr AV→Hp→(List Ent→Tr AV→Hp→Option β)→Option β
 | _,[],tm,st,k=>k [] tm st
 | p,o::l,tm,st,k=>match qh ops tm o with
  | some true=>opD E call p (evO tm) st o fun av st'=>xo n o.dst av tm fun tm'=>runT E call n ops (p-1) l tm' st' fun es tm2 st2=>k (⟨tm,st,st',av,true⟩::es) tm2 st2
  | some false=>xo n o.dst oV tm fun tm'=>runT E call n ops (p-1) l tm' st fun es tm2 st2=>k (⟨tm,st,st,oV,false⟩::es) tm2 st2
  | none=>none
structure StepE (P : Program) (n : Nat) (ops : Array Oper) (pre : Bool) (o : Oper) (tm : Tr AV) (st : Hp) (av : AV) (st' : Hp) (run : Bool) (tm' : Tr AV) : Prop where
 want:qh ops tm o=some run
 puts:zT n o.dst av tm tm'
 ko:Heaps st st'
 yR:kd o.op=0→st'.h=st.h∧st'.nx=st.nx∧(run=true→bc P (evO tm) st.h.get o av)
 acts:kd o.op≠0→run=true→C4 P (evO tm) st o av st'
 skip:run=false→av=oV∧st'=st
 pure:pre=true→∀ b,b<st.nx→st'.h.get b=st.h.get b
 rdlt:run=true→∀ b,gA (evO tm) o=some b→b<st.nx
theorem zg {call:FuncId→List AV→Hp→Option (AV × Hp)} {ρ:Operand→AV} {st:Hp} {o:Oper} {k:AV→Hp→Option β} (h:opA E call ρ st o k=some r):∀ b,gA ρ o=some b→b<st.nx:=by
 intro b hb
 unfold opA at h
 split at h
 ·rename_i ho
  unfold gA at hb
  rw[ho] at hb
  cases hb
 ·exact AF h hb
theorem BJ {call:FuncId→List AV→Hp→Option (AV × Hp)} {n:Nat} {ops:Array Oper} (hc:gJ P call) (hty:∀ t ti,E.ty.get t=some ti→TyOK P t ti) {p:Nat} {tm:Tr AV} {st:Hp} {o:Oper} {k:AV→Hp→Option β}
  (hw:qh ops tm o=some true) (h:opD E call p (evO tm) st o k=some r) :
  ∃ av st',k av st'=some r∧∀ tm',zT n o.dst av tm tm'→StepE P n ops (decide (0<p)) o tm st av st' true tm':=by
 cases p with
 | zero=>
  obtain⟨av,st',h1,h2⟩:=uo hc hty h
  have hh:Heaps st st':=by
   by_cases hk:kd o.op=0
   ·rw[(h2.1 hk).1];exact Heaps.rfl' _
   ·exact (h2.2 hk).1
  exact⟨av,st',h1,fun tm' hp=>⟨hw,hp,hh,fun hk=>(by obtain⟨rfl,q⟩:=h2.1 hk;exact⟨rfl,rfl,fun _=>q⟩),fun hk _=>(h2.2 hk).2,fun h=>(by cases h),fun h=>(by simp at h),fun _=>zg h⟩⟩
 | succ p=>
  have hlt:=zg (st:=⟨st.h,st.nx,st.nx⟩) h
  obtain⟨av,st',h1,h2⟩:=uo hc hty h
  split at h1
  ·rename_i hlo
   have hlo':st'.lo=st.nx:=Nat.eq_of_beq_eq_true hlo
   have hh:Heaps ⟨st.h,st.nx,st.nx⟩ st':=by
    by_cases hk:kd o.op=0
    ·rw[(h2.1 hk).1];exact Heaps.rfl' _
    ·exact (h2.2 hk).1
   have hp:∀ b,b<st.nx→st'.h.get b=st.h.get b:=fun b hb=>hh.old b (by rw[hlo'];exact hb) hb
   refine ⟨av,⟨st'.h,st'.nx,st.lo⟩,h1,fun tm' hpt=>⟨hw,hpt,⟨hh.nx,Nat.le_refl _,fun b _ hb=>hp b hb,hh.far⟩,fun hk=>?_,fun hk _=>?_,fun h=>(by cases h),fun _=>hp,fun _=>hlt⟩⟩
   ·obtain⟨e,q⟩:=h2.1 hk
    rw[e]
    exact⟨rfl,rfl,fun _=>q⟩
   ·have q:=(h2.2 hk).2
    intro a m w hO hs hd hf K Q hK
    exact q a m w hO hs hd hf K Q hK
  ·cases h1
structure Track (P : Program) (n : Nat) (ops : Array Oper) (p : Nat) (l : List Oper) (tms : Nat → Tr AV) (sts : Nat → Hp) (avs : Nat → AV) (rns : Nat → Bool) (es : List Ent) : Prop where
 step:∀ i o,l[i]?=some o→StepE P n ops (decide (i<p)) o (tms i) (sts i) (avs i) (sts (i+1)) (rns i) (tms (i+1))
 ent:∀ i,i<l.length→es[i]?=some ⟨tms i,sts i,sts (i+1),avs i,rns i⟩
theorem vz {call:FuncId→List AV→Hp→Option (AV × Hp)} {n:Nat} {ops:Array Oper} (hc:gJ P call) (hty:∀ t ti,E.ty.get t=some ti→TyOK P t ti) :
  ∀ (l:List Oper) (p:Nat) (tm:Tr AV) (st:Hp) (k:List Ent→Tr AV→Hp→Option β),runT E call n ops p l tm st k=some r →
   ∃ es tm' st',k es tm' st'=some r∧∃ tms sts avs rns,tms 0=tm∧sts 0=st∧tms l.length=tm'∧sts l.length=st'∧Track P n ops p l tms sts avs rns es
 | [],p,tm,st,k,h=>⟨[],tm,st,h,fun _=>tm,fun _=>st,fun _=>.dead,fun _=>false,rfl,rfl,rfl,rfl,⟨fun i o h=>by simp at h,fun i h=>by simp at h⟩⟩
 | o::l,p,tm,st,k,h=>by
  have glue:∀ (av:AV) (st1:Hp) (run:Bool) (tm1:Tr AV) (k':List Ent→Tr AV→Hp→Option β),StepE P n ops (decide (0<p)) o tm st av st1 run tm1 →
    runT E call n ops (p-1) l tm1 st1 (fun es tm2 st2=>k (⟨tm,st,st1,av,run⟩::es) tm2 st2)=some r →
    ∃ es tm' st',k es tm' st'=some r∧∃ tms sts avs rns,tms 0=tm∧sts 0=st∧tms (o::l).length=tm'∧sts (o::l).length=st'∧Track P n ops p (o::l) tms sts avs rns es:=by
   intro av st1 run tm1 _ hs h
   obtain⟨es,tm',st',h1,tms,sts,avs,rns,e1,e2,e3,e4,T⟩:=vz hc hty l (p-1) tm1 st1 _ h
   refine ⟨_,tm',st',h1,fun i=>match i with|0=>tm|i+1=>tms i,fun i=>match i with|0=>st|i+1=>sts i,fun i=>match i with|0=>av|i+1=>avs i,fun i=>match i with|0=>run|i+1=>rns i,rfl,rfl,e3,e4,
    ⟨fun i o' ho=>?_,fun i hi=>?_⟩⟩
   ·cases i with
    | zero=>
     simp only[List.getElem?_cons_zero,Option.some.injEq] at ho
     subst ho
     simp only[e1,e2]
     exact hs
    | succ i=>
     simp only[List.getElem?_cons_succ] at ho
     have:=T.step i o' ho
     have e:decide (i+1<p)=decide (i<p-1):=by
      by_cases h':i+1<p
      ·have:i<p-1:=by omega
       simp[h',this]
      ·have:¬i<p-1:=by omega
       simp[h',this]
     rw[e]
     exact this
   ·cases i with
    | zero=>simp[e2]
    | succ i=>simpa using T.ent i (by simpa using hi)
  rw[runT] at h
  split at h
  ·rename_i hw
   obtain⟨av,st1,h1,h2⟩:=BJ (n:=n) hc hty hw h
   obtain⟨tm1,h3,h4⟩:=j0 h1
   exact glue av st1 true tm1 k (h2 tm1 h4) h3
  ·rename_i hw
   obtain⟨tm1,h3,h4⟩:=j0 h
   refine glue oV st false tm1 k ⟨hw,h4,Heaps.rfl' _,fun _=>⟨rfl,rfl,fun h=>(by cases h)⟩,fun _ h=>(by cases h),fun _=>⟨rfl,rfl⟩,fun _ _ _=>rfl,fun h=>(by cases h)⟩ h3
  ·cases h
def mL:List Nat→(List Nat→β)→β
 | [],k=>k []
 | x::l,k=>aZ x fun x=>mL l fun l=>k (x::l)
theorem nN:∀ (l:List Nat) (k:List Nat→β),mL l k=k l
 | [],k=>rfl
 | x::l,k=>by rw[mL,aV,nN l]
def rK (ops:Array Oper) (B:List Nat) (p:Nat) (es:List Ent):Bool:=
 (List.range ops.size).all fun j=>Nat.blt j p || (List.range p).all fun i=>(B.getD j 0).testBit i || match ops[i]?,es[i]?,es[j]? with
  | some oi,some ei,some ej=>!ei.run || match gA (evO ei.tm) oi with
   | some b=>Br (ej.st.h.get b) (ej.st'.h.get b)
   | none=>true
  | _,_,_=>false
def yq (E:Env) (call:FuncId→List AV→Hp→Option (AV × Hp)) (n:Nat) (ops:Array Oper) (tm:Tr AV) (st:Hp):Option (Tr AV × Hp):=
 aZ (fy ops.toList) fun p=>runT E call n ops p ops.toList tm st fun es tm' st'=>
  if p=ops.size then some (tm',st') else mL (bef ops) fun B=>if rK ops B p es then some (tm',st') else none
end
end Go.Sx
namespace Go.Sx
open LimbNum
variable [Glob]
section
variable {P : Program} {n : Nat} {ops : Array Oper} {p : Nat} {tms : Nat → Tr AV} {sts : Nat → Hp} {avs : Nat → AV} {rns : Nat → Bool} {es : List Ent}
theorem Track.at (T:Track P n ops p ops.toList tms sts avs rns es) {i:Nat} {o:Oper} (ho:ops[i]?=some o):StepE P n ops (decide (i<p)) o (tms i) (sts i) (avs i) (sts (i+1)) (rns i) (tms (i+1)):=
 T.step i o (by simpa using ho)
theorem lV {i:Nat} (hi:i<ops.size):∃ o,ops[i]?=some o:=⟨ops[i],Array.getElem?_eq_getElem hi⟩
theorem fK {i:Nat} {o:Oper} (h:ops[i]?=some o):i<ops.size:=(Array.getElem?_eq_some_iff.1 h).1
theorem Track.tm (T:Track P n ops p ops.toList tms sts avs rns es) {t:Nat} {k:Nat}:∀ i,k≤i→i≤ops.size→(∀ j o,k≤j→j<i→ops[j]?=some o→o.dst≠some t)→(tms i).get t=(tms k).get t:=by
 intro i
 induction i with
 | zero=>intro hk _ _;rw[show k=0 by omega]
 | succ i ih=>
  intro hk hi h
  by_cases hki:k=i+1
  ·rw[hki]
  ·obtain⟨o,ho⟩:=lV (ops:=ops) (i:=i) (by omega)
   rw[(T.at ho).puts.2 t (h i o (by omega) (by omega) ho)]
   exact ih (by omega) (by omega) fun j o h1 h2=>h j o h1 (by omega)
theorem Track.nx (T:Track P n ops p ops.toList tms sts avs rns es) {i:Nat}:∀ j,i≤j→j≤ops.size→(sts i).nx≤(sts j).nx:=by
 intro j
 induction j with
 | zero=>intro h _;rw[show i=0 by omega];exact Nat.le_refl _
 | succ j ih=>
  intro h hj
  by_cases hij:i=j+1
  ·rw[hij];exact Nat.le_refl _
  ·obtain⟨o,ho⟩:=lV (ops:=ops) (i:=j) (by omega)
   exact Nat.le_trans (ih (by omega) (by omega)) (T.at ho).ko.nx
theorem Track.ko (T:Track P n ops p ops.toList tms sts avs rns es):∀ j,j≤ops.size→Heaps (sts 0) (sts j):=by
 intro j
 induction j with
 | zero=>intro _;exact Heaps.rfl' _
 | succ j ih=>
  intro hj
  obtain⟨o,ho⟩:=lV (ops:=ops) (i:=j) (by omega)
  exact (ih (by omega)).comp (T.at ho).ko
theorem Track.pure (T:Track P n ops p ops.toList tms sts avs rns es) (hp:p≤ops.size) {i b:Nat} (hb:b<(sts i).nx):∀ j,i≤j→j≤p→(sts j).h.get b=(sts i).h.get b:=by
 intro j
 induction j with
 | zero=>intro h _;rw[show i=0 by omega]
 | succ j ih=>
  intro h hj
  by_cases hij:i=j+1
  ·rw[hij]
  ·obtain⟨o,ho⟩:=lV (ops:=ops) (i:=j) (by omega)
   rw[(T.at ho).pure (by simp;omega) b (Nat.lt_of_lt_of_le hb (T.nx j (by omega) (by omega)))]
   exact ih (by omega) (by omega)
structure Stat (ops : Array Oper) (p : Nat) : Prop where
 le:p≤ops.size
 back:∀ i o,ops[i]?=some o→∀ e∈o.after,Region.binds .any e=true→e.on<i
 pair:∀ i oi j oj,ops[i]?=some oi→ops[j]?=some oj→j<i→rch ops i j=true∨(jY ops oi oj=false∧(i<p∨(j<p∧kd oj.op=0)))
theorem vv:∀ l:List Oper,fy l≤l.length
 | []=>Nat.le_refl _
 | o::l=>by
  rw[fy]
  split
  ·exact Nat.zero_le _
  ·simp only[List.length_cons];have:=vv l;omega
theorem A5 (h:nB ops=true):Stat ops (fy ops.toList):=by
 unfold nB at h
 have key:∀ i oi,ops[i]?=some oi→(oi.after.all fun e=>!Region.binds .any e || Nat.blt e.on i)=true∧∀ j oj,j<i→ops[j]?=some oj →
   (rch ops i j || (!jY ops oi oj&&(Nat.blt i (fy ops.toList) || (Nat.blt j (fy ops.toList)&&Nat.beq (kd oj.op) 0))))=true:=by
  intro i oi ho
  have h1:=List.all_eq_true.1 h i (List.mem_range.2 (fK ho))
  simp only[ho,Bool.and_eq_true] at h1
  refine ⟨h1.1,fun j oj hj hoj=>?_⟩
  have h2:=List.all_eq_true.1 h1.2 j (List.mem_range.2 hj)
  simpa only[hoj] using h2
 refine ⟨by have:=vv ops.toList;simpa using this,fun i o ho e he hb=>?_,fun i oi j oj hi hj hlt=>?_⟩
 ·have h1:=Array.all_eq_true_iff_forall_mem.1 (key i o ho).1 e he
  simpa [hb,Nat.blt_eq] using h1
 ·have h2:=(key i oi hi).2 j oj hlt hj
  simp only[Bool.or_eq_true,Bool.and_eq_true,Bool.not_eq_true',Nat.blt_eq] at h2
  rcases h2 with h2|⟨h2,h3⟩
  ·exact .inl h2
  ·exact .inr ⟨h2,h3.imp id fun h=>⟨h.1,Nat.eq_of_beq_eq_true h.2⟩⟩
def Cl (ops:Array Oper) (L:Nat→Bool):Prop:=∀ i o,L i=true→ops[i]?=some o→∀ e∈o.after,Region.binds .any e=true→L e.on=true
theorem Cl.rch {L:Nat→Bool} (S:Stat ops p) (hc:Cl ops L):∀ (i:Nat) (o:Oper),ops[i]?=some o→(∀ e∈o.after,Region.binds .any e=true→L e.on=true)→∀ j,rch ops i j=true→L j=true:=by
 intro i
 induction i using Nat.strongRecOn with
 | ind i ih=>
  intro o ho hd j hr
  obtain⟨e,he,hb,h⟩:=zr ho hr
  rcases h with rfl|h
  ·exact hd e he hb
  ·have hlt:=S.back i o ho e he hb
   obtain⟨o',ho'⟩:=lV (ops:=ops) (i:=e.on) (by have:=fK ho;omega)
   exact ih e.on hlt o' ho' (hc e.on o' (hd e he hb) ho') j h
def Val (ops:Array Oper) (tms:Nat→Tr AV) (avs:Nat→AV) (L:Nat→Bool) (t:Nat) (av:AV):Prop:=
 (∃ j o,L j=true∧ops[j]?=some o∧o.dst=some t∧avs j=av∧∀ j' o',j<j'→L j'=true→ops[j']?=some o'→o'.dst≠some t) ∨
 ((∀ j o,L j=true→ops[j]?=some o→o.dst≠some t)∧(tms 0).get t=some av)
theorem iG (ops:Array Oper) (t:Nat):∀ i:Nat,(∀ (j:Nat) (o:Oper),j<i→ops[j]?=some o→o.dst≠some t)∨∃ (j:Nat) (o:Oper),j<i∧ops[j]?=some o∧o.dst=some t∧∀ (j':Nat) (o':Oper),j<j'→j'<i→ops[j']?=some o'→o'.dst≠some t
 | 0=>.inl fun j o h=>by omega
 | i+1=>by
  by_cases hx:∃ o,ops[i]?=some o∧o.dst=some t
  ·obtain⟨o,h1,h2⟩:=hx
   exact .inr ⟨i,o,by omega,h1,h2,fun j' o' h3 h4=>by omega⟩
  ·have hi:∀ o,ops[i]?=some o→o.dst≠some t:=fun o h1 h2=>hx ⟨o,h1,h2⟩
   rcases iG ops t i with h|⟨j,o,h1,h2,h3,h4⟩
   ·refine .inl fun j o hj ho=>?_
    by_cases hji:j=i
    ·subst hji;exact hi o ho
    ·exact h j o (by omega) ho
   ·refine .inr ⟨j,o,by omega,h2,h3,fun j' o' h5 h6 ho'=>?_⟩
    by_cases hji:j'=i
    ·subst hji;exact hi o' ho'
    ·exact h4 j' o' h5 (by omega) ho'
theorem tI {oi oj:Oper} {t:Nat} (h1:oi.dst=some t) (h2:t∈lX ops oj):jY ops oi oj=true:=by
 unfold jY
 simp only[h1,Bool.or_eq_true]
 exact .inl (.inr (by simpa using h2))
theorem rO {oi oj:Oper} {t:Nat} (h1:oj.dst=some t) (h2:t∈lX ops oi):jY ops oi oj=true:=by
 unfold jY
 simp only[h1,Bool.or_eq_true]
 exact .inr (by simpa using h2)
theorem tH {oi oj:Oper} {t:Nat} (h1:oi.dst=some t) (h2:oj.dst=some t):jY ops oi oj=true:=by
 unfold jY
 simp[h1,h2]
theorem sQ (T:Track P n ops p ops.toList tms sts avs rns es) (S:Stat ops p) {L:Nat→Bool} (hc:Cl ops L) {i:Nat} {o:Oper} (ho:ops[i]?=some o) (hu:L i=false)
  (hd:∀ e∈o.after,Region.binds .any e=true→L e.on=true) {t:Nat} (ht:t∈lX ops o) {av:AV} (h:(tms i).get t=some av):Val ops tms avs L t av:=by
 have hdep:=hc.rch S i o ho hd
 have late:∀ j oj,i<j→L j=true→ops[j]?=some oj→oj.dst≠some t:=fun j oj hij hj hoj hdst=>by
  rcases S.pair j oj i o hoj ho hij with h1|⟨h1,_⟩
  ·rw[hc.rch S j oj hoj (hc j oj hj hoj) i h1] at hu;cases hu
  ·rw[tI hdst ht] at h1;cases h1
 rcases iG ops t i with h1|⟨j,oj,h1,h2,h3,h4⟩
 ·refine .inr ⟨fun j oj hj hoj=>?_,?_⟩
  ·rcases Nat.lt_trichotomy j i with h5|h5|h5
   ·exact h1 j oj h5 hoj
   ·subst h5;rw[hj] at hu;cases hu
   ·exact late j oj h5 hj hoj
  ·rw[←h]
   exact (T.tm (k:=0) i (Nat.zero_le _) (Nat.le_of_lt (fK ho)) fun j o _ h5=>h1 j o h5).symm
 ·have hj:L j=true:=by
   rcases S.pair i o j oj ho h2 h1 with h5|⟨h5,_⟩
   ·exact hdep j h5
   ·rw[rO h3 ht] at h5;cases h5
  refine .inl ⟨j,oj,hj,h2,h3,?_,fun j' o' h5 h6 h7=>?_⟩
  ·have e:=T.tm (t:=t) (k:=j+1) i (by omega) (Nat.le_of_lt (fK ho)) fun j' o' h5 h6 h7=>h4 j' o' (by omega) h6 h7
   rw[((T.at h2).puts.1 t h3).2,h] at e
   simpa using e.symm
  ·rcases Nat.lt_trichotomy j' i with h8|h8|h8
   ·exact h4 j' o' h5 h8 h7
   ·subst h8;rw[h6] at hu;cases hu
   ·exact late j' o' h8 h6 h7
theorem yG (T:Track P n ops p ops.toList tms sts avs rns es) {L:Nat→Bool} (hall:∀ i,i<ops.size→L i=true) {t:Nat} {av:AV} (h:(tms ops.size).get t=some av):Val ops tms avs L t av:=by
 rcases iG ops t ops.size with h1|⟨j,oj,h1,h2,h3,h4⟩
 ·refine .inr ⟨fun j oj _ hoj=>h1 j oj (fK hoj) hoj,?_⟩
  rw[←h]
  exact (T.tm (k:=0) ops.size (Nat.zero_le _) (Nat.le_refl _) fun j o _ h5=>h1 j o h5).symm
 ·refine .inl ⟨j,oj,hall j h1,h2,h3,?_,fun j' o' h5 _ h7=>h4 j' o' h5 (fK h7) h7⟩
  have e:=T.tm (t:=t) (k:=j+1) ops.size (by omega) (Nat.le_refl _) fun j' o' h5 h6 h7=>h4 j' o' (by omega) h6 h7
  rw[((T.at h2).puts.1 t h3).2,h] at e
  simpa using e.symm
theorem AP (S:Stat ops p) {L L':Nat→Bool} {i:Nat} (hL:∀ j,L' j=(j==i || L j)) (hc:Cl ops L) {o:Oper} (ho:ops[i]?=some o) (hu:L i=false) {a:Act} {m m':Nm} {w w':World} {v:Value} (hn:a.tmps.size=n)
  (hd:∀ t,o.dst=some t→t<n) (h:∀ t av,Val ops tms avs L t av→∃ v,a.tmps[t]?=some v∧RV m w av v) (hk:∀ av v,RV m w av v→RV m' w' av v) (hv:RV m' w' (avs i) v) :
  ∀ t av,Val ops tms avs L' t av→∃ u,(a.put o.dst v).tmps[t]?=some u∧RV m' w' av u:=by
 intro t av hV
 rw[vw]
 by_cases hdst:o.dst=some t
 ·rw[if_pos ⟨hdst,by have:=hd t hdst;exact Nat.lt_of_lt_of_eq this hn.symm⟩]
  have:avs i=av:=by
   rcases hV with ⟨j,oj,h1,h2,h3,h4,h5⟩|⟨h1,_⟩
   ·by_cases hji:j=i
    ·subst hji;exact h4
    ·have hj:L j=true:=by simpa [hL,hji] using h1
     rcases Nat.lt_or_ge j i with h6|h6
     ·exact absurd hdst (h5 i o h6 (by simp[hL]) ho)
     ·rcases S.pair j oj i o h2 ho (by omega) with h7|⟨h7,_⟩
      ·rw[hc.rch S j oj h2 (hc j oj hj h2) i h7] at hu;cases hu
      ·rw[tH h3 hdst] at h7;cases h7
   ·exact absurd hdst (h1 i o (by simp[hL]) ho)
  exact⟨v,rfl,this ▸ hv⟩
 ·rw[if_neg fun h=>hdst h.1]
  have hV':Val ops tms avs L t av:=by
   rcases hV with ⟨j,oj,h1,h2,h3,h4,h5⟩|⟨h1,h2⟩
   ·have hji:j≠i:=fun e=>by subst e;rw[ho] at h2;cases h2;exact hdst h3
    exact .inl ⟨j,oj,by simpa [hL,hji] using h1,h2,h3,h4,fun j' o' h6 h7=>h5 j' o' h6 (by simp[hL,h7])⟩
   ·exact .inr ⟨fun j oj hj=>h1 j oj (by simp[hL,hj]),h2⟩
  obtain⟨u,h1,h2⟩:=h t av hV'
  exact⟨u,h1,hk _ _ h2⟩
end
end Go.Sx
namespace Go.Sx
open LimbNum
variable [Glob]
section
variable {P : Program} {n : Nat} {ops : Array Oper} {p : Nat} {tms : Nat → Tr AV} {sts : Nat → Hp} {avs : Nat → AV} {rns : Nat → Bool} {es : List Ent}
structure Jn (ops : Array Oper) (p n : Nat) (tms : Nat → Tr AV) (sts : Nat → Hp) (avs : Nat → AV) (a0 : Act) (m0 : Nm) (w0 : World) (L : Nat → Bool) (q : Nat) (m : Nm) (a : Act) (w : World) : Prop where
 cl:Cl ops L
 q1:p≤q
 q2:q≤ops.size
 tail:∀ j,p≤j→j<ops.size→(L j=true↔j<q)
 heavy:p<q→∀ j o,j<p→ops[j]?=some o→kd o.op≠0→L j=true
 size:a.tmps.size=n
 defers:a.defers=a0.defers
 vals:∀ t av,Val ops tms avs L t av→∃ v,a.tmps[t]?=some v∧RV m w av v
 rs:RS m w (sts q).h.get
 names:∀ b,m b≠none→b<(sts 0).nx∨(sts ops.size).nx≤b∨∃ j,j<ops.size∧L j=true∧(sts j).nx≤b∧b<(sts (j+1)).nx
 to:To m0 (sts 0).h.get w0 m (sts q).h.get w
 same:∀ b,b<(sts 0).nx∨(sts ops.size).nx≤b→m b=m0 b
theorem Jn.fresh (T:Track P n ops p ops.toList tms sts avs rns es) {a0:Act} {m0:Nm} {w0:World} {L:Nat→Bool} {q:Nat} {m:Nm} {a:Act} {w:World} (J:Jn ops p n tms sts avs a0 m0 w0 L q m a w)
  {i:Nat} (hi:i<ops.size) (hu:L i=false):ep m (sts i).nx (sts (i+1)).nx:=by
 intro b h1 h2
 cases hb:m b with
 | none=>rfl
 | some x=>
  exfalso
  rcases J.names b (by rw[hb];simp) with h3|h3|⟨j,h3,h4,h5,h6⟩
  ·have:=T.nx (i:=0) i (Nat.zero_le _) (Nat.le_of_lt hi);omega
  ·have:=T.nx (i:=i+1) ops.size hi (Nat.le_refl _);omega
  ·rcases Nat.lt_trichotomy j i with h7|h7|h7
   ·have:=T.nx (i:=j+1) i (by omega) (Nat.le_of_lt hi);omega
   ·subst h7;rw[h4] at hu;cases hu
   ·have:=T.nx (i:=i+1) j (by omega) (Nat.le_of_lt h3);omega
theorem wQ (T:Track P n ops p ops.toList tms sts avs rns es) (S:Stat ops p) (hD:p=ops.size∨rK ops (bef ops) p es=true) {a0:Act} {m0:Nm} {w0:World} {L:Nat→Bool} {q:Nat} {m:Nm} {a:Act} {w:World}
  (J:Jn ops p n tms sts avs a0 m0 w0 L q m a w) {i:Nat} {o:Oper} (ho:ops[i]?=some o) (hip:i<p) (hu:L i=false) (hrun:rns i=true) {b:Nat} (hb:gA (evO (tms i)) o=some b) (hlt:b<(sts i).nx) :
  ∀ j,p≤j→j≤q→(sts j).h.get b=(sts i).h.get b:=by
 intro j
 induction j with
 | zero=>intro h _;omega
 | succ j ih=>
  intro h1 h2
  by_cases hj:p=j+1
  ·rw[←hj];exact T.pure S.le hlt p (Nat.le_of_lt hip) (Nat.le_refl _)
  ·rw[←ih (by omega) (by omega)]
   have hjs:j<ops.size:=by have:=J.q2;omega
   have hLj:L j=true:=(J.tail j (by omega) hjs).2 (by omega)
   obtain⟨oj,hoj⟩:=lV hjs
   have hr:rch ops j i=false:=by
    cases hr:rch ops j i with
    | false=>rfl
    | true=>rw[J.cl.rch S j oj hoj (J.cl j oj hLj hoj) i hr] at hu;cases hu
   have hc:rK ops (bef ops) p es=true:=hD.resolve_left (by omega)
   unfold rK at hc
   have h3:=List.all_eq_true.1 hc j (List.mem_range.2 hjs)
   have h4:Nat.blt j p=false:=by
    cases h:Nat.blt j p with
    | false=>rfl
    | true=>rw[Nat.blt_eq] at h;omega
   simp only[h4,Bool.false_or] at h3
   have h5:=List.all_eq_true.1 h3 i (List.mem_range.2 hip)
   have h6:((bef ops).getD j 0).testBit i=false:=hr
   have e1:=T.ent i (by simpa using fK ho)
   have e2:=T.ent j (by simpa using hjs)
   simp only[h6,Bool.false_or,ho,e1,e2,hrun,Bool.not_true,hb] at h5
   exact (A2 h5).symm
theorem Jn.yR (T:Track P n ops p ops.toList tms sts avs rns es) (S:Stat ops p) (hD:p=ops.size∨rK ops (bef ops) p es=true) {a0:Act} {m0:Nm} {w0:World} {L:Nat→Bool} {q:Nat} {m:Nm} {a:Act} {w:World}
  (J:Jn ops p n tms sts avs a0 m0 w0 L q m a w) {i:Nat} {o:Oper} (ho:ops[i]?=some o) (hu:L i=false) (hrun:rns i=true) (hq:p≤i→i=q):RS m w (only (gA (evO (tms i)) o) (sts i).h.get):=by
 by_cases hip:i<p
 ·refine (J.rs.sub fun b c hb=>?_).1
  unfold only at hb
  split at hb
  ·rename_i hr
   rw[wQ T S hD J ho hip hu hrun hr.symm ((T.at ho).rdlt hrun b hr.symm) q J.q1 (Nat.le_refl _)]
   exact hb
  ·cases hb
 ·obtain rfl:=hq (by omega)
  exact (J.rs.sub (sK _ _)).1
theorem yx (T:Track P n ops p ops.toList tms sts avs rns es) (S:Stat ops p) (hdom:Dom (sts 0)) {i:Nat} {o:Oper} (ho:ops[i]?=some o) (hip:i<p) {m m':Nm} {w w':World} (hs:RS m w (sts p).h.get)
  (h1:RS m' w' (sts (i+1)).h.get) (h2:To m (sts i).h.get w m' (sts (i+1)).h.get w') (h3:dS m m' (sts i).nx (sts (i+1)).nx) :
  RS m' w' (sts p).h.get∧To m (sts p).h.get w m' (sts p).h.get w':=by
 have hi:=fK ho
 have hnx:=(T.at ho).ko.nx
 have dom:∀ j,j≤ops.size→Dom (sts j):=fun j hj=>(T.ko j hj).dom hdom
 have hlow:∀ b,b<(sts (i+1)).nx→(sts p).h.get b=(sts (i+1)).h.get b:=fun b hb=>T.pure S.le hb p (by omega) (Nat.le_refl _)
 have hin:∀ b,(sts i).h.get b≠none→b<(sts i).nx∧(sts p).h.get b≠none:=fun b hb=>by
  have hb':b<(sts i).nx:=by
   rcases Nat.lt_or_ge b (sts i).nx with h|h
   ·exact h
   ·exact absurd (dom i (Nat.le_of_lt hi) b h) hb
  exact⟨hb',by rw[T.pure S.le hb' p (Nat.le_of_lt hip) (Nat.le_refl _)];exact hb⟩
 have hfar:∀ b x,(sts (i+1)).nx≤b→(sts p).h.get b≠none→m b=some x→∀ b0,(sts i).h.get b0≠none→m b0≠some x:=fun b x hb hne hm b0 hb0 hm0=>by
  obtain⟨g1,g2⟩:=hin b0 hb0
  have:=hs.inj b0 b x g2 hne hm0 hm
  omega
 have hto:To m (sts p).h.get w m' (sts p).h.get w':=⟨h2.ext,h2.grow,h2.u64,h2.env,fun rb hr hn=>h2.keep rb hr fun b hb=>hn b (hin b hb).2,fun b rb hb hm=>by
  by_cases hlt:b<(sts (i+1)).nx
  ·rcases h2.img b rb (by rw[←hlow b hlt];exact hb) hm with h4|⟨b0,h4,h5⟩
   ·exact .inl h4
   ·exact .inr ⟨b0,(hin b0 h4).2,h5⟩
  ·rw[h3 b (by omega)] at hm
   exact .inr ⟨b,hb,hm⟩⟩
 refine ⟨⟨fun b cells rb hb hm=>?_,fun b b' x hb hb' hm hm'=>?_,hs.glob.to hto⟩,hto⟩
 ·by_cases hlt:b<(sts (i+1)).nx
  ·exact h1.obj b cells rb (by rw[←hlow b hlt];exact hb) hm
  ·rw[h3 b (by omega)] at hm
   obtain⟨o,q1,q2⟩:=hs.obj b cells rb hb hm
   refine ⟨o,?_,q2.to hto⟩
   rw[h2.keep rb (iW q1) (hfar b rb (by omega) (by rw[hb];simp) hm)]
   exact q1
 ·have mixed:∀ b b',b<(sts (i+1)).nx→(sts (i+1)).nx≤b'→(sts p).h.get b≠none→(sts p).h.get b'≠none→m' b=some x→m' b'=some x→False:=fun b b' g1 g2 g3 g4 g5 g6=>by
   rw[h3 b' (by omega)] at g6
   rcases h2.img b x (by rw[←hlow b g1];exact g3) g5 with g7|⟨b0,g7,g8⟩
   ·have:=hs.lt g4 g6;omega
   ·exact hfar b' x g2 g4 g6 b0 g7 g8
  rcases Nat.lt_or_ge b (sts (i+1)).nx with g1|g1<;>rcases Nat.lt_or_ge b' (sts (i+1)).nx with g2|g2
  ·exact h1.inj b b' x (by rw[←hlow b g1];exact hb) (by rw[←hlow b' g2];exact hb') hm hm'
  ·exact (mixed b b' g1 g2 hb hb' hm hm').elim
  ·exact (mixed b' b g2 g1 hb' hb hm' hm).elim
  ·rw[h3 b (by omega)] at hm
   rw[h3 b' (by omega)] at hm'
   exact hs.inj b b' x hb hb' hm hm'
theorem Jn.next (T:Track P n ops p ops.toList tms sts avs rns es) (S:Stat ops p) {a0:Act} {m0:Nm} {w0:World} {L L':Nat→Bool} {q q':Nat} {m m':Nm} {a:Act} {w w':World} {v:Value}
  (J:Jn ops p n tms sts avs a0 m0 w0 L q m a w) {i:Nat} {o:Oper} (ho:ops[i]?=some o) (hu:L i=false) (hL:∀ j,L' j=(j==i || L j)) (hd:∀ e∈o.after,Region.binds .any e=true→L e.on=true)
  (hq:(i<p∧q'=q)∨(p≤i∧i=q∧q'=q+1)) (hv:RV m' w' (avs i) v) (hs:RS m' w' (sts q').h.get) (ht:To m (sts q).h.get w m' (sts q').h.get w') (hm:dS m m' (sts i).nx (sts (i+1)).nx) :
  Jn ops p n tms sts avs a0 m0 w0 L' q' m' (a.put o.dst v) w':=by
 have hi:=fK ho
 have hdep:=J.cl.rch S i o ho hd
 refine ⟨fun j oj hj hoj e he hb=>?_,?_,?_,fun j hj hjs=>?_,fun hpq j oj hjp hoj hk=>?_,by rw[oF];exact J.size,by rw[put_defers];exact J.defers,?_,hs,fun b hb=>?_,J.to.comp ht,fun b hb=>?_⟩
 ·rw[hL] at hj ⊢
  by_cases hji:j=i
  ·subst hji
   rw[ho] at hoj;cases hoj
   rw[hd e he hb,Bool.or_true]
  ·rw[J.cl j oj (by simpa [hji] using hj) hoj e he hb,Bool.or_true]
 ·have:=J.q1;omega
 ·rcases hq with ⟨_,rfl⟩|⟨_,h2,rfl⟩
  ·exact J.q2
  ·omega
 ·rw[hL]
  rcases hq with ⟨h1,rfl⟩|⟨h1,h2,rfl⟩
  ·have:(j==i)=false:=by rw[beq_eq_false_iff_ne];omega
   rw[this,Bool.false_or]
   exact J.tail j hj hjs
  ·by_cases hji:j=i
   ·subst hji;simp;omega
   ·have:(j==i)=false:=by rw[beq_eq_false_iff_ne];exact hji
    rw[this,Bool.false_or,J.tail j hj hjs]
    omega
 ·rw[hL]
  rcases hq with ⟨h1,rfl⟩|⟨h1,h2,rfl⟩
  ·rw[J.heavy hpq j oj hjp hoj hk,Bool.or_true]
  ·have:L j=true:=by
    rcases S.pair i o j oj ho hoj (by omega) with h3|⟨_,h3|h3⟩
    ·exact hdep j h3
    ·omega
    ·exact absurd h3.2 hk
   rw[this,Bool.or_true]
 ·exact AP S hL J.cl ho hu J.size (fun t h=>((T.at ho).puts.1 t h).1) J.vals (fun _ _ h=>ht.rv h) hv
 ·by_cases hbn:b<(sts i).nx∨(sts (i+1)).nx≤b
  ·rw[hm b hbn] at hb
   rcases J.names b hb with h1|h1|⟨j,h1,h2,h3⟩
   ·exact .inl h1
   ·exact .inr (.inl h1)
   ·exact .inr (.inr ⟨j,h1,by rw[hL,h2,Bool.or_true],h3⟩)
  ·exact .inr (.inr ⟨i,hi,by rw[hL];simp,by omega,by omega⟩)
 ·have h1:=T.nx (i:=0) i (Nat.zero_le _) (Nat.le_of_lt hi)
  have h2:=T.nx (i:=i+1) ops.size hi (Nat.le_refl _)
  rw[hm b (by omega)]
  exact J.same b hb
end
end Go.Sx
namespace Go.Sx
open LimbNum
variable [Glob]
inductive Ex where
 | nrm
 | ext (id:Nat)
 | ret
def yB:Ex→Exit
 | .nrm=>.normal
 | .ext id=>.exit id
 | .ret=>.ret
section
variable {P : Program} {E : Env} {β : Type} {r : β}
def v8 (step:Tr AV→Hp→Option (Ex × Tr AV × Hp)):Nat→Tr AV→Hp→Option (Ex × Tr AV × Hp)
 | 0,_,_=>none
 | f+1,tm,st=>match step tm st with
  | some (.nrm,tm,st)=>v8 step f tm st
  | r=>r
def dG (reg:Array Oper→Bool→Tr AV→Hp→Option (Tr AV × Hp)) (fuel:Nat):Code→Tr AV→Hp→Option (Ex × Tr AV × Hp)
 | .skip,tm,st=>some (.nrm,tm,st)
 | .label _,tm,st=>some (.nrm,tm,st)
 | .region _ ops draw,tm,st=>match reg ops draw tm st with
  | some (tm,st)=>some (.nrm,tm,st)
  | none=>none
 | .seq a b,tm,st=>match dG reg fuel a tm st with
  | some (.nrm,tm,st)=>dG reg fuel b tm st
  | r=>r
 | .cond c a b,tm,st=>match evO tm c with
  | .bool true=>dG reg fuel a tm st
  | .bool false=>dG reg fuel b tm st
  | _=>none
 | .block id body,tm,st=>match dG reg fuel body tm st with
  | some (.ext i,tm,st)=>if i=id then some (.nrm,tm,st) else some (.ext i,tm,st)
  | r=>r
 | .loop body,tm,st=>v8 (dG reg fuel body) fuel tm st
 | .exit id,tm,st=>some (.ext id,tm,st)
 | .scope body,tm,st=>dG reg fuel body tm st
 | .ret,tm,st=>some (.ret,tm,st)
 | _,_,_=>none
def eM (chk:Array Oper→Bool):Code→Bool
 | .region _ ops draw=>!draw || chk ops
 | .seq a b=>eM chk a&&eM chk b
 | .cond _ a b=>eM chk a&&eM chk b
 | .block _ b=>eM chk b
 | .loop b=>eM chk b
 | .scope b=>eM chk b
 | _=>true
def xV (P:Program) (chk:Array Oper→Bool) (n:Nat) (reg:Array Oper→Bool→Tr AV→Hp→Option (Tr AV × Hp)):Prop:=
 ∀ ops draw tm st tm' st',(!draw || chk ops)=true→reg ops draw tm st=some (tm',st')→Heaps st st'∧rj n tm st tm' st' fun a w K=>∀ id Q,(∀ a w,K a w→Q .normal a w)→(Code.region id ops draw).wp P Q a w
def kM (P:Program) (n:Nat) (c:Code) (tm:Tr AV) (st:Hp) (x:Ex) (tm':Tr AV) (st':Hp):Prop:=
 Heaps st st'∧rj n tm st tm' st' fun a w K=>∀ Q:Exit→Act→World→Prop,(∀ a w,K a w→Q (yB x) a w)→c.wp P Q a w
theorem iS {n:Nat} {c:Code} {tm:Tr AV} {st:Hp} {x:Ex} (h:∀ Q:Exit→Act→World→Prop,∀ a w,Q (yB x) a w→c.wp P Q a w):kM P n c tm st x tm st:=
 ⟨Heaps.rfl' _,fun a m w hT hs _ hn _ _ hK Q hQ=>h Q a w (hQ a w (hK a m w hT hs hn rfl To.rfl' (dS.rfl' _ _ _)))⟩
theorem vd {n:Nat} {body:Code} {step:Tr AV→Hp→Option (Ex × Tr AV × Hp)} (hb:∀ tm st x tm' st',step tm st=some (x,tm',st')→kM P n body tm st x tm' st') :
  ∀ (f:Nat) (tm:Tr AV) (st:Hp) (x:Ex) (tm':Tr AV) (st':Hp),v8 step f tm st=some (x,tm',st')→x≠.nrm∧Heaps st st' ∧
   rj n tm st tm' st' fun a w K=>∀ Q:Exit→Act→World→Prop,(∀ a w,K a w→Q (yB x) a w)→Code.rounds P body Q f a w
 | 0,tm,st,x,tm',st',h=>by cases h
 | f+1,tm,st,x,tm',st',h=>by
  rw[v8] at h
  split at h
  ·rename_i tm1 st1 h1
   obtain⟨h2,h3⟩:=hb _ _ _ _ _ h1
   obtain⟨h4,h5,h6⟩:=vd hb f tm1 st1 x tm' st' h
   refine ⟨h4,h2.comp h5,fun a m w hT hs hd hn hf K hK Q hQ=>?_⟩
   rw[rounds_succ]
   refine h3 a m w hT hs hd hn (hf.left h5.nx) (fun a w=>Code.rounds P body Q f a w) (fun a' m' w' q1 q2 q3 q4 q5 q6=>?_) _ fun a w h=>h
   exact h6 a' m' w' q1 q2 (h2.dom hd) q3 (hf.right h2.nx q6) K (fun a2 m2 w2 r1 r2 r3 r4 r5 r6=>hK a2 m2 w2 r1 r2 r3 (r4.trans q4) (q5.comp r5) (q6.comp r6 h2.nx h5.nx)) Q hQ
  ·rename_i hne
   obtain⟨h2,h3⟩:=hb _ _ _ _ _ h
   have hx:x≠.nrm:=fun hx=>by subst hx;exact hne _ _ h
   refine ⟨hx,h2,fun a m w hT hs hd hn hf K hK Q hQ=>?_⟩
   rw[rounds_succ]
   refine h3 a m w hT hs hd hn hf K hK _ fun a w hk=>?_
   have:=hQ a w hk
   cases x with
   | nrm=>exact absurd rfl hx
   | ext id=>exact this
   | ret=>exact this
theorem Aa {reg:Array Oper→Bool→Tr AV→Hp→Option (Tr AV × Hp)} {chk:Array Oper→Bool} {n fuel:Nat} (hr:xV P chk n reg) :
  ∀ (c:Code),eM chk c=true→∀ (tm:Tr AV) (st:Hp) (x:Ex) (tm':Tr AV) (st':Hp),dG reg fuel c tm st=some (x,tm',st')→kM P n c tm st x tm' st':=by
 intro c
 induction c with
 | skip=>
  intro hg tm st x tm' st' h
  simp only[dG,Option.some.injEq,Prod.mk.injEq] at h
  obtain⟨rfl,rfl,rfl⟩:=h
  exact iS fun Q a w h=>wp_skip h
 | label l=>
  intro hg tm st x tm' st' h
  simp only[dG,Option.some.injEq,Prod.mk.injEq] at h
  obtain⟨rfl,rfl,rfl⟩:=h
  exact iS fun Q a w h=>wp_label h
 | exit id=>
  intro hg tm st x tm' st' h
  simp only[dG,Option.some.injEq,Prod.mk.injEq] at h
  obtain⟨rfl,rfl,rfl⟩:=h
  exact iS fun Q a w h=>wp_exit h
 | ret=>
  intro hg tm st x tm' st' h
  simp only[dG,Option.some.injEq,Prod.mk.injEq] at h
  obtain⟨rfl,rfl,rfl⟩:=h
  exact iS fun Q a w h=>wp_ret h
 | goto l=>intro _ tm st x tm' st' h;cases h
 | refuse s=>intro _ tm st x tm' st' h;cases h
 | rangeFunc f p a b=>intro _ tm st x tm' st' h;cases h
 | region id ops draw=>
  intro hg tm st x tm' st' h
  rw[dG] at h
  split at h
  ·rename_i tm1 st1 h1
   simp only[Option.some.injEq,Prod.mk.injEq] at h
   obtain⟨rfl,rfl,rfl⟩:=h
   obtain⟨h2,h3⟩:=hr _ _ _ _ _ _ hg h1
   exact⟨h2,fun a m w hT hs hd hn hf K hK Q hQ=>h3 a m w hT hs hd hn hf K hK id Q hQ⟩
  ·cases h
 | seq c1 c2 ih1 ih2=>
  intro hg tm st x tm' st' h
  rw[dG] at h
  split at h
  ·rename_i tm1 st1 h1
   obtain⟨h2,h3⟩:=ih1 (by simp only[eM,Bool.and_eq_true] at hg;exact hg.1) _ _ _ _ _ h1
   obtain⟨h4,h5⟩:=ih2 (by simp only[eM,Bool.and_eq_true] at hg;exact hg.2) _ _ _ _ _ h
   refine ⟨h2.comp h4,fun a m w hT hs hd hn hf K hK Q hQ=>wp_seq ?_⟩
   refine h3 a m w hT hs hd hn (hf.left h4.nx) (fun a w=>c2.wp P Q a w) (fun a' m' w' q1 q2 q3 q4 q5 q6=>?_) _ fun a w h=>h
   exact h5 a' m' w' q1 q2 (h2.dom hd) q3 (hf.right h2.nx q6) K (fun a2 m2 w2 r1 r2 r3 r4 r5 r6=>hK a2 m2 w2 r1 r2 r3 (r4.trans q4) (q5.comp r5) (q6.comp r6 h2.nx h4.nx)) Q hQ
  ·rename_i hne
   obtain⟨h2,h3⟩:=ih1 (by simp only[eM,Bool.and_eq_true] at hg;exact hg.1) _ _ _ _ _ h
   have hx:x≠.nrm:=fun hx=>by subst hx;exact hne _ _ h
   refine ⟨h2,fun a m w hT hs hd hn hf K hK Q hQ=>wp_seq ?_⟩
   refine h3 a m w hT hs hd hn hf K hK _ fun a w hk=>?_
   have:=hQ a w hk
   cases x with
   | nrm=>exact absurd rfl hx
   | ext id=>exact this
   | ret=>exact this
 | cond c c1 c2 ih1 ih2=>
  intro hg tm st x tm' st' h
  rw[dG] at h
  split at h
  ·rename_i hc
   obtain⟨h2,h3⟩:=ih1 (by simp only[eM,Bool.and_eq_true] at hg;exact hg.1) _ _ _ _ _ h
   exact⟨h2,fun a m w hT hs hd hn hf K hK Q hQ=>wp_cond_true (by have:=uU hT c;rwa [hc,RV] at this) (h3 a m w hT hs hd hn hf K hK Q hQ)⟩
  ·rename_i hc
   obtain⟨h2,h3⟩:=ih2 (by simp only[eM,Bool.and_eq_true] at hg;exact hg.2) _ _ _ _ _ h
   exact⟨h2,fun a m w hT hs hd hn hf K hK Q hQ=>wp_cond_false (by have:=uU hT c;rwa [hc,RV] at this) (h3 a m w hT hs hd hn hf K hK Q hQ)⟩
  ·cases h
 | block id c ih=>
  intro hg tm st x tm' st' h
  rw[dG] at h
  split at h
  ·rename_i i tm1 st1 h1
   obtain⟨h2,h3⟩:=ih hg _ _ _ _ _ h1
   split at h
   ·rename_i hid
    simp only[Option.some.injEq,Prod.mk.injEq] at h
    obtain⟨rfl,rfl,rfl⟩:=h
    refine ⟨h2,fun a m w hT hs hd hn hf K hK Q hQ=>wp_block (h3 a m w hT hs hd hn hf K hK _ fun a w hk=>?_)⟩
    simp only[yB,Exit.inBlock,hid,if_true]
    exact hQ a w hk
   ·rename_i hid
    simp only[Option.some.injEq,Prod.mk.injEq] at h
    obtain⟨rfl,rfl,rfl⟩:=h
    refine ⟨h2,fun a m w hT hs hd hn hf K hK Q hQ=>wp_block (h3 a m w hT hs hd hn hf K hK _ fun a w hk=>?_)⟩
    simp only[yB,Exit.inBlock,hid,if_false]
    exact hQ a w hk
  ·rename_i hne
   obtain⟨h2,h3⟩:=ih hg _ _ _ _ _ h
   refine ⟨h2,fun a m w hT hs hd hn hf K hK Q hQ=>wp_block (h3 a m w hT hs hd hn hf K hK _ fun a w hk=>?_)⟩
   have:=hQ a w hk
   cases x with
   | nrm=>exact this
   | ext i=>exact absurd h (hne _ _ _)
   | ret=>exact this
 | loop c ih=>
  intro hg tm st x tm' st' h
  rw[dG] at h
  obtain⟨h1,h2,h3⟩:=vd (P:=P) (n:=n) (body:=c) (fun tm st x tm' st' h=>ih hg tm st x tm' st' h) fuel tm st x tm' st' h
  exact⟨h2,fun a m w hT hs hd hn hf K hK Q hQ=>wp_loop_rounds fuel (h3 a m w hT hs hd hn hf K hK Q hQ)⟩
 | scope c ih=>
  intro hg tm st x tm' st' h
  rw[dG] at h
  obtain⟨h2,h3⟩:=ih hg _ _ _ _ _ h
  refine ⟨h2,fun a m w hT hs hd hn hf K hK Q hQ=>wp_scope_straight (h3 a m w hT hs hd hn hf K hK _ fun a w hk=>?_)⟩
  have:=hQ a w hk
  cases x<;>exact this
def qQ (E:Env) (tm:Tr AV) (st:Hp):List ResultVar→(List AV→Option β)→Option β
 | [],k=>k []
 | .tmp t::l,k=>qQ E tm st l fun vs=>k ((tm.get t).getD .dead::vs)
 | .cell t ty::l,k=>match E.ty.get ty,tm.get t with
  | some ti,some (.ptr b o)=>match ti.agg with
   | true=>mA st b o ti.size fun cs=>qQ E tm st l fun vs=>k (.agg cs::vs)
   | false=>mA st b o 1 fun cs=>match cs with
    | [v]=>qQ E tm st l fun vs=>k (v::vs)
    | _=>none
  | _,_=>none
def uH:List AV→AV
 | [v]=>v
 | vs=>.tup vs
end
end Go.Sx
namespace Go.Sx
open LimbNum Go.RowKit
variable [Glob]
section
variable {P : Program} {E : Env} {β : Type} {r : β}
def xu (tmps:Array Value):ResultVar→Sem Value
 | .tmp t=>pure (tmps.getD t undef)
 | .cell a t=>do loadVar t (←asAddr (tmps.getD a undef))
theorem uy (fn:Func) (tmps:Array Value):results fn tmps=(do
  let vs ←fn.results.mapM (xu tmps)
  pure (if h:vs.size=1 then vs[0] else .tuple vs)):=by
 unfold results
 congr 1
theorem mP (hty:∀ t ti,E.ty.get t=some ti→TyOK P t ti) {tm:Tr AV} {st:Hp}:∀ (l:List ResultVar) (k:List AV→Option β),qQ E tm st l k=some r →
  ∃ avs,k avs=some r∧avs.length=l.length∧∀ (a:Act) (m:Nm) (w:World),RT m w tm a→RS m w st.h.get→∃ vs,(l.mapM (xu a.tmps)).run P w=.ok vs w∧RVs m w avs vs
 | [],k,h=>⟨[],h,rfl,fun a m w _ _=>⟨[],by simp,by rw[RVs]⟩⟩
 | .tmp t::l,k,h=>by
  rw[qQ] at h
  obtain⟨avs,h1,h2,h3⟩:=mP hty l _ h
  refine ⟨_,h1,by simp[h2],fun a m w hT hs=>?_⟩
  obtain⟨vs,q1,q2⟩:=h3 a m w hT hs
  refine ⟨a.tmps.getD t undef::vs,?_,?_⟩
  ·simp[List.mapM_cons,xu,q1]
  ·rw[RVs]
   exact⟨_,_,rfl,uU hT (.tmp t),q2⟩
 | .cell t ty::l,k,h=>by
  rw[qQ] at h
  split at h
  ·rename_i ti b off hti htm
   obtain⟨i,d,z,h1,h2,h3,h4,h5,h6,h7,_⟩:=(hty _ _ hti).ex
   have hagg:=fun w=>j4 h2 w
   rw[←h7] at hagg
   split at h
   ·rename_i hag
    rw[hag] at hagg
    obtain⟨cells,g1,g2,g3⟩:=gg h
    obtain⟨avs,e1,e2,e3⟩:=mP hty l _ g3
    refine ⟨_,e1,by simp[e2],fun a m w hT hs=>?_⟩
    obtain⟨vs,q1,q2⟩:=e3 a m w hT hs
    obtain⟨v,hv1,hv2⟩:=hT t _ htm
    rw[RV] at hv2
    obtain⟨rb,hm,rfl⟩:=hv2
    obtain⟨us,u1,u2,_⟩:=lh (P:=P) hs g1 hm g2
    rw[h4] at u1
    refine ⟨.agg us.toArray::vs,?_,?_⟩
    ·simp[List.mapM_cons,xu,Array.getD_eq_getD_getElem?,hv1,asAddr,loadVar,hagg,bO h1,u1,q1]
    ·rw[RVs]
     exact⟨_,_,rfl,by rw[RV];exact⟨us,rfl,u2⟩,q2⟩
   ·rename_i hag
    rw[hag] at hagg
    obtain⟨cells,g1,g2,g3⟩:=gg h
    split at g3
    ·rename_i av hcs
     obtain⟨avs,e1,e2,e3⟩:=mP hty l _ g3
     refine ⟨_,e1,by simp[e2],fun a m w hT hs=>?_⟩
     obtain⟨vs,q1,q2⟩:=e3 a m w hT hs
     obtain⟨v,hv1,hv2⟩:=hT t _ htm
     rw[RV] at hv2
     obtain⟨rb,hm,rfl⟩:=hv2
     obtain⟨us,u1,u2,u3⟩:=lh (P:=P) hs g1 hm g2
     obtain⟨u,rfl,u4⟩:=u3 rfl
     rw[hcs,RVs] at u2
     obtain⟨u',l',x1,x2,_⟩:=u2
     simp only[List.cons.injEq] at x1
     obtain⟨rfl,_⟩:=x1
     refine ⟨u::vs,?_,?_⟩
     ·simp[List.mapM_cons,xu,Array.getD_eq_getD_getElem?,hv1,asAddr,loadVar,hagg,load,Sem.run,u4,q1]
     ·rw[RVs]
      exact⟨_,_,rfl,x2,q2⟩
    ·cases g3
  ·cases h
theorem uz {fn:Func} {a:Act} {m:Nm} {w:World} {avs:List AV} {vs:List Value} (h:(fn.results.toList.mapM (xu a.tmps)).run P w=.ok vs w) (hv:RVs m w avs vs) :
  ∃ v,(results fn a.tmps).run P w=.ok v w∧RV m w (uH avs) v:=by
 refine ⟨match vs with|[v]=>v|vs=>.tuple vs.toArray,?_,?_⟩
 ·rw[uy,Array.mapM_eq_mapM_toList]
  simp only[Sem.run_bind,Sem.run_map,h,Result.andThen_ok]
  match vs with
  | []=>simp
  | [v]=>simp
  | v::u::l=>simp
 ·match avs,vs,hv with
  | [],vs,hv=>rw[RVs] at hv;subst hv;simp only[uH];rw[RV];exact⟨[],rfl,by rw[RVs]⟩
  | [x],vs,hv=>
   rw[RVs] at hv
   obtain⟨v,l,rfl,h2,h3⟩:=hv
   rw[RVs] at h3
   subst h3
   exact h2
  | x::y::l,vs,hv=>
   have hlen:=hv.length
   match vs,hv,hlen with
   | [],hv,hlen=>simp at hlen
   | [v],hv,hlen=>simp at hlen
   | v::u::l',hv,_=>simp only[uH];rw[RV];exact⟨_,rfl,hv⟩
def yK:List AV→Nat→Tr AV→(Tr AV→Option β)→Option β
 | [],_,tm,k=>k tm
 | a::l,i,tm,k=>Tr.jL Tr.depth tm i (some a) fun tm=>yK l (i+1) tm k
theorem nS:∀ (l:List AV) (i:Nat) (tm:Tr AV) (k:Tr AV→Option β),yK l i tm k=some r→∃ tm',k tm'=some r∧∀ t,tm'.get t=if i≤t∧t<i+l.length then l[t-i]? else tm.get t
 | [],i,tm,k,h=>⟨tm,h,fun t=>by rw[if_neg (by simp only[List.length_nil];omega)]⟩
 | a::l,i,tm,k,h=>by
  obtain⟨t1,h1,h2,h3⟩:=Tr.eh _ _ _ _ _ _ h
  obtain⟨tm',h4,h5⟩:=nS l (i+1) t1 k h1
  refine ⟨tm',h4,fun t=>?_⟩
  rw[h5]
  simp only[List.length_cons]
  by_cases ht:t=i
  ·subst ht
   rw[if_neg (by omega),if_pos (by omega),h2]
   simp
  ·by_cases h6:i+1≤t∧t<i+1+l.length
   ·rw[if_pos h6,if_pos (by omega),show t-i=(t-(i+1))+1 by omega]
    simp
   ·rw[if_neg h6,if_neg (by omega),h3 t ht]
def rI (E:Env) (fuel:Nat) (reg:(FuncId→List AV→Hp→Option (AV × Hp))→Nat→Array Oper→Bool→Tr AV→Hp→Option (Tr AV × Hp)):Nat→FuncId→List AV→Hp→Option (AV × Hp)
 | 0,_,_,_=>none
 | d+1,f,args,st=>match E.ext f args with
  | some av=>fH av fun av=>some (av,st)
  | none=>match E.fn.get f with
  | none=>none
  | some (n,res,code)=>match E.prim f st.h args with
   | some av=>fH av fun av=>some (av,st)
   | none=>if args.length≤n then yK args 0 .lf fun tm=>match dG (reg (rI E fuel reg d) n) fuel code tm st with
     | some (.nrm,tm,st)=>qQ E tm st res fun vs=>some (uH vs,st)
     | some (.ret,tm,st)=>qQ E tm st res fun vs=>some (uH vs,st)
     | _=>none
    else none
def vP (P:Program) (E:Env) (chk:Array Oper→Bool):Prop:=
 ∀ f n res code, E.fn.get f = some (n, res, code) → ∃ fn, P.funcs[f]? = some fn ∧ fn.body = some code ∧ fn.ntmps = n ∧ fn.results.toList = res ∧ (fn.name == "runtime.NumGoroutine") = false ∧ eM chk code = true
def jl (P:Program) (E:Env):Prop:=
 (∀ f args av,E.ext f args=some av→(∃ fn,P.funcs[f]?=some fn∧fn.body=none)∧∀ (m:Nm) (w:World) (vals:List Value),RVs m w args vals→∃ v,(callFunc f vals.toArray).run P w=.ok (.value v) w∧RV m w av v) ∧
 ∀ f h args av,E.prim f h args=some av→∀ (m:Nm) (w:World) (vals:List Value),RVs m w args vals→RS m w h.get →
  Calls P f vals.toArray w fun e w'=>∃ v,e=.returned v∧RV m w' av v∧Below w.heap.size w w'
theorem yk {m:Nm} {w w':World} {h:Hf} (hs:RS m w h) (hb:Below w.heap.size w w'):RS m w' h∧To m h w m h w':=by
 have hold:∀ (b:Nat) (o:Obj),w.heap[b]?=some o→w'.heap[b]?=some o:=fun b o ho=>by rw[hb.block b (iW ho)];exact ho
 have hto:To m h w m h w':=⟨Ext.rfl' _,⟨hb.size,fun b c e f hx=>⟨c,f,hold b _ hx,rfl⟩⟩,fun a n ha=>by
  unfold World.cell? at ha ⊢
  cases hx:w.heap[a.block]? with
  | none=>rw[hx] at ha;cases ha
  | some o=>rw[hold _ _ hx];rw[hx] at ha;exact ha,⟨hb.os,hb.tape,hb.output⟩,fun rb hr _=>hb.block rb hr,fun b rb h1 h2=>.inr ⟨b,h1,h2⟩⟩
 exact⟨⟨fun b cells rb h1 h2=>by
  obtain⟨o,q1,q2⟩:=hs.obj b cells rb h1 h2
  exact⟨o,hold _ _ q1,q2.to hto⟩,hs.inj,hs.glob.to hto⟩,hto⟩
theorem rJ {fuel:Nat} {reg:(FuncId→List AV→Hp→Option (AV × Hp))→Nat→Array Oper→Bool→Tr AV→Hp→Option (Tr AV × Hp)} (hty:∀ t ti,E.ty.get t=some ti→TyOK P t ti) {chk:Array Oper→Bool} (hfn:vP P E chk) (hpr:jl P E)
  (hreg:∀ call n,gJ P call→xV P chk n (reg call n)):∀ d,gJ P (rI E fuel reg d)
 | 0=>fun g args st av st' h=>by cases h
 | d+1=>fun g args st av st' h=>by
  have ih:=rJ (fuel:=fuel) hty hfn hpr hreg d
  rw[rI] at h
  split at h
  ·rename_i av' hx
   rw[jw] at h
   simp only[Option.some.injEq,Prod.mk.injEq] at h
   obtain⟨rfl,rfl⟩:=h
   exact .inr ⟨rfl,(hpr.1 _ _ _ hx).1,fun m w vals hv=>(hpr.1 _ _ _ hx).2 m w vals hv⟩
  refine .inl ?_
  split at h
  ·cases h
  ·rename_i n res code hf
   obtain⟨fn,f1,f2,f3,f4,f5,f6⟩:=hfn _ _ _ _ hf
   split at h
   ·rename_i av' hp
    rw[jw] at h
    simp only[Option.some.injEq,Prod.mk.injEq] at h
    obtain⟨rfl,rfl⟩:=h
    refine ⟨Heaps.rfl' _,⟨fn,f1,by rw[f2];rfl,f5⟩,fun m w vals hv hs _ _=>?_⟩
    refine (hpr.2 _ _ _ _ hp m w vals hv hs).mono ?_
    rintro e w' ⟨v,rfl,q1,q2⟩
    obtain⟨q3,q4⟩:=yk hs q2
    exact⟨v,m,rfl,q1,q3,q4,dS.rfl' _ _ _⟩
   ·split at h
    ·rename_i hle
     obtain⟨tm,h1,h2⟩:=nS _ _ _ _ h
     have main:∀ (x:Ex) (tm':Tr AV) (st1:Hp),dG (reg (rI E fuel reg d) n) fuel code tm st=some (x,tm',st1)→(x=.nrm∨x=.ret)→(qQ E tm' st1 res fun vs=>some (uH vs,st1))=some (av,st') →
       Heaps st st' ∧ (∃ fn, P.funcs[g]? = some fn ∧ fn.body.isNone = false ∧ (fn.name == "runtime.NumGoroutine") = false) ∧
       ∀ (m:Nm) (w:World) (vals:List Value),RVs m w args vals→RS m w st.h.get→Dom st→ep m st.nx st'.nx →
        Calls P g vals.toArray w fun e w'=>∃ v m',e=.returned v∧RV m' w' av v∧RS m' w' st'.h.get∧To m st.h.get w m' st'.h.get w'∧dS m m' st.nx st'.nx:=by
      intro x tm' st1 hcode hx hres
      obtain⟨g1,g2⟩:=Aa (hreg _ n ih) code f6 tm st x tm' st1 hcode
      obtain⟨avs,e1,e2,e3⟩:=mP hty res _ hres
      simp only[Option.some.injEq,Prod.mk.injEq] at e1
      obtain⟨rfl,rfl⟩:=e1
      refine ⟨g1,⟨fn,f1,by rw[f2];rfl,f5⟩,fun m w vals hv hs hd hfr=>?_⟩
      have hlen:=hv.length
      refine calls_of_wp f1 f2 ?_
      rw[f3]
      have hT:RT m w tm { tmps:=vals.toArray++Array.replicate (n-vals.toArray.size) undef,defers:=[] }:=fun t a ht=>by
       rw[h2] at ht
       split at ht
       ·rename_i htl
        rw[Nat.sub_zero] at ht
        obtain⟨v,q1,q2⟩:=hv.get ht
        refine ⟨v,?_,q2⟩
        have:t<vals.length:=(List.getElem?_eq_some_iff.1 q1).1
        show (vals.toArray++_)[t]?=_
        rw[Array.getElem?_append_left (by simpa using this)]
        simpa using q1
       ·rw[Tr.jx] at ht;cases ht
      refine g2 _ m w hT hs hd (by simp;omega) hfr (fun a' w'=>a'.defers=[]∧∃ v,(results fn a'.tmps).run P w'=.ok v w'∧∃ m',RV m' w' (uH avs) v∧RS m' w' st1.h.get∧To m st.h.get w m' st1.h.get w'∧dS m m' st.nx st1.nx)
       (fun a' m' w' q1 q2 q3 q4 q5 q6=>?_) _ fun a' w' hk=>?_
      ·obtain⟨vs,u1,u2⟩:=e3 a' m' w' q1 q2
       rw[←f4] at u1
       obtain⟨v,u3,u4⟩:=uz u1 u2
       exact⟨q4,v,u3,m',u4,q2,q5,q6⟩
      ·obtain⟨k1,v,k2,m',k3,k4,k5,k6⟩:=hk
       rcases hx with rfl|rfl
       ·exact⟨k1,v,k2,v,m',rfl,k3,k4,k5,k6⟩
       ·exact⟨k1,v,k2,v,m',rfl,k3,k4,k5,k6⟩
     split at h1
     ·exact main _ _ _ ‹_› (.inl rfl) h1
     ·exact main _ _ _ ‹_› (.inr rfl) h1
     ·cases h1
    ·cases h
end
end Go.Sx
