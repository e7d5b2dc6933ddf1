import Derived.Orders
import Derived.Scope
import Derived.Test.YtjbcmmaniphkkaaGreatDoorSx3
set_option linter.unusedSectionVars false
set_option linter.unusedVariables false
set_option linter.unusedSimpArgs false
namespace Go.Sx
open LimbNum
variable [Unk] [Glob]
def Sy.eq:Sy→Sy→Bool
 | .nc a i,.nc b j=>SE.eq a b&&Nat.beq i j
 | .ss a,.ss b=>SE.eq a b
 | .st i,.st j=>Nat.beq i j
 | .junk,.junk=>true
 | .si i,.si j=>Nat.beq i j
 | _,_=>false
theorem Sy.eq_eq {a b:Sy} (h:Sy.eq a b=true):a=b:=by
 cases a<;>cases b<;>simp only[Sy.eq,Bool.and_eq_true,Bool.false_eq_true] at h
 ·rw[SE.eq_eq _ _ h.1,Nat.eq_of_beq_eq_true h.2]
 ·rw[SE.eq_eq _ _ h]
 ·rw[Nat.eq_of_beq_eq_true h]
 ·rfl
 ·rw[Nat.eq_of_beq_eq_true h]
mutual
def da:AV→AV→Bool
 | .bool a,.bool b=>a==b
 | .int k a,.int l b=>decide (k=l)&&decide (a=b)
 | .float k a,.float l b=>decide (k=l)&&Nat.beq a b
 | .str a,.str b=>a==b
 | .nilp,.nilp=>true
 | .ptr a b,.ptr c d=>Nat.beq a c&&Nat.beq b d
 | .nils,.nils=>true
 | .sl a b c d,.sl e f g h=>Nat.beq a e&&Nat.beq b f&&Nat.beq c g&&Nat.beq d h
 | .big a,.big b=>Nat.beq a b
 | .mp a,.mp b=>Nat.beq a b
 | .nilm,.nilm=>true
 | .gp a b,.gp c d=>Nat.beq a c&&Nat.beq b d
 | .fn f a,.fn g b=>Nat.beq f g&&gG a b
 | .nilf,.nilf=>true
 | .agg a,.agg b=>gG a b
 | .tup a,.tup b=>gG a b
 | .sym a,.sym b=>Sy.eq a b
 | _,_=>false
def gG:List AV→List AV→Bool
 | [],[]=>true
 | a::l,b::m=>da a b&&gG l m
 | _,_=>false
end
mutual
theorem lB:∀ a b,da a b=true→a=b
 | .bool a,b,h=>by cases b<;>simp_all [da]
 | .int k a,b,h=>by cases b<;>simp_all [da]
 | .float k a,b,h=>by cases b<;>simp_all [da]
 | .str a,b,h=>by cases b<;>simp_all [da]
 | .nilp,b,h=>by cases b<;>simp_all [da]
 | .ptr a c,b,h=>by cases b<;>simp_all [da]
 | .nils,b,h=>by cases b<;>simp_all [da]
 | .sl a c d e,b,h=>by cases b<;>simp_all [da]
 | .big a,b,h=>by cases b<;>simp_all [da]
 | .mp a,b,h=>by cases b<;>simp_all [da]
 | .nilm,b,h=>by cases b<;>simp_all [da]
 | .gp a c,b,h=>by cases b<;>simp_all [da]
 | .fn f a,b,h=>by
  cases b<;>simp only[da,Bool.and_eq_true,Bool.false_eq_true] at h
  rw[fx _ _ h.2,Nat.eq_of_beq_eq_true h.1]
 | .nilf,b,h=>by cases b<;>simp_all [da]
 | .agg a,b,h=>by
  cases b<;>simp only[da,Bool.false_eq_true] at h
  rw[fx _ _ h]
 | .tup a,b,h=>by
  cases b<;>simp only[da,Bool.false_eq_true] at h
  rw[fx _ _ h]
 | .dead,b,h=>by cases b<;>simp[da] at h
 | .sym a,b,h=>by
  cases b<;>simp only[da,Bool.false_eq_true] at h
  rw[Sy.eq_eq h]
theorem fx:∀ a b,gG a b=true→a=b
 | [],b,h=>by cases b<;>simp_all [gG]
 | x::l,b,h=>by
  cases b with
  | nil=>simp[gG] at h
  | cons y m=>
   simp only[gG,Bool.and_eq_true] at h
   rw[lB _ _ h.1,fx _ _ h.2]
end
def Jd:Option (List AV)→Option (List AV)→Bool
 | none,none=>true
 | some a,some b=>gG a b
 | _,_=>false
theorem FC {a b:Option (List AV)} (h:Jd a b=true):a=b:=by
 cases a<;>cases b<;>simp_all [Jd]
 exact fx _ _ h
theorem Cw (acc:List Nat) (o:Oper) (j:Nat) (h:(FB acc o).testBit j=true):∃ e∈o.after,Region.binds .any e=true∧(e.on=j∨(acc.getD e.on 0).testBit j=true):=by
 unfold FB at h
 have key:∀ (l:List Edge) (s:Nat),(l.foldl (fun s e=>if Region.binds .any e then s ||| 2^e.on ||| acc.getD e.on 0 else s) s).testBit j=true →
   s.testBit j=true∨∃ e∈l,Region.binds .any e=true∧(e.on=j∨(acc.getD e.on 0).testBit j=true):=by
  intro l
  induction l with
  | nil=>intro s h;exact .inl h
  | cons e l ih=>
   intro s h
   rw[List.foldl_cons] at h
   rcases ih _ h with h1|⟨e',h1,h2⟩
   ·split at h1
    ·rename_i hb
     simp only[Nat.testBit_or,Bool.or_eq_true] at h1
     rcases h1 with (h1|h1)|h1
     ·exact .inl h1
     ·refine .inr ⟨e,by simp,hb,.inl ?_⟩
      rw[Nat.testBit_two_pow] at h1
      simpa using h1
     ·exact .inr ⟨e,by simp,hb,.inr h1⟩
    ·exact .inl h1
   ·exact .inr ⟨e',by simp[h1],h2⟩
 rcases key _ 0 h with h1|⟨e,h1,h2⟩
 ·simp at h1
 ·exact⟨e,by simpa using h1,h2⟩
theorem getD_none {α:Type} {l:List α} {i:Nat} {d:α} (h:l.length≤i):l.getD i d=d:=by
 rw[List.getD_eq_getElem?_getD,List.getElem?_eq_none h];rfl
theorem mT {α:Type} {l m:List α} {i:Nat} {d:α} (h:i<l.length):(l++m).getD i d=l.getD i d:=by
 rw[List.getD_eq_getElem?_getD,List.getD_eq_getElem?_getD,List.getElem?_append_left h]
theorem Au {α:Type} {l:List α} {x d:α}:(l++[x]).getD l.length d=x:=by
 rw[List.getD_eq_getElem?_getD,List.getElem?_append_right (K6 _),Nat.sub_self];rfl
theorem um:∀ (l:List Oper) (acc:List Nat) (ops:List Oper),ops.drop acc.length=l →
  (∀ i o j,i<acc.length→ops[i]?=some o→(acc.getD i 0).testBit j=true→∃ e∈o.after,Region.binds .any e=true∧(e.on=j∨(e.on<acc.length∧(acc.getD e.on 0).testBit j=true))) →
  ∀ i o j,ops[i]?=some o→((Cv l acc).getD i 0).testBit j=true→∃ e∈o.after,Region.binds .any e=true∧(e.on=j∨((Cv l acc).getD e.on 0).testBit j=true)
 | [],acc,ops,hd,hacc,i,o,j,ho,h=>by
  simp only[Cv] at h ⊢
  have hi:i<acc.length:=by
   rcases Nat.lt_or_ge i acc.length with h'|h'
   ·exact h'
   ·rw[getD_none h'] at h;simp at h
  obtain⟨e,h1,h2,h3⟩:=hacc i o j hi ho h
  exact⟨e,h1,h2,h3.imp id (·.2)⟩
 | x::l,acc,ops,hd,hacc,i,o,j,ho,h=>by
  refine um l (acc++[FB acc x]) ops ?_ ?_ i o j ho h
  ·rw[List.length_append,List.length_singleton,←List.drop_drop,hd];rfl
  ·intro i o j hi ho h
   rw[List.length_append,List.length_singleton] at hi
   by_cases hia:i<acc.length
   ·rw[mT hia] at h
    obtain⟨e,h1,h2,h3⟩:=hacc i o j hia ho h
    exact⟨e,h1,h2,h3.imp id fun h=>⟨by simp;omega,by rw[mT h.1];exact h.2⟩⟩
   ·obtain rfl:i=acc.length:=by omega
    have hx:o=x:=by
     have:(ops.drop acc.length)[0]?=some x:=by rw[hd];rfl
     rw[List.getElem?_drop,Nat.add_zero,ho] at this
     simpa using this
    subst hx
    rw[Au] at h
    obtain⟨e,h1,h2,h3⟩:=Cw acc o j h
    refine ⟨e,h1,h2,h3.imp id fun h3=>?_⟩
    have:e.on<acc.length:=by
     rcases Nat.lt_or_ge e.on acc.length with h'|h'
     ·exact h'
     ·rw[getD_none h'] at h3;simp at h3
    exact⟨by simp;omega,by rw[mT this];exact h3⟩
theorem Ek {ops:Array Oper} {i j:Nat} {o:Oper} (ho:ops[i]?=some o) (h:rch ops i j=true):∃ e∈o.after,Region.binds .any e=true∧(e.on=j∨rch ops e.on j=true):=
 um ops.toList [] ops.toList rfl (fun i o j hi=>by simp at hi) i o j (by simpa using ho) h
end Go.Sx
namespace Go.Sx
open LimbNum
variable [Unk] [Glob]
structure Ent where
 tm:Tr AV
 st:Hp
 st':Hp
 av:AV
 run:Bool
section
variable {P : Program} {E : Env} {β : Type} {r : β}
def opP (E:Env) (call:FuncId→List AV→Hp→Option (AV × Hp)) (ρ:Operand→AV) (st:Hp) (o:Oper) (k:AV→Hp→Option β):Option β:=
 opA E call ρ ⟨st.h,st.nx,st.nx⟩ o fun av st'=>if Nat.beq st'.lo st.nx then k av ⟨st'.h,st'.nx,st.lo⟩ else none
def opD (E:Env) (call:FuncId→List AV→Hp→Option (AV × Hp)):Nat→(Operand→AV)→Hp→Oper→(AV→Hp→Option β)→Option β
 | 0=>opA E call
 | _+1=>opP E call
def runT (E:Env) (call:FuncId→List AV→Hp→Option (AV × Hp)) (n:Nat) (ops:Array Oper):Nat→List Oper→Tr AV→Hp→(List Ent→Tr AV→Hp→Option β)→Option β
 | _,[],tm,st,k=>k [] tm st
 | p,o::l,tm,st,k=>match sJ ops tm o with
  | some true=>opD E call p (evO tm) st o fun av st'=>xM n o.dst av tm fun tm'=>runT E call n ops (p-1) l tm' st' fun es tm2 st2=>k (⟨tm,st,st',av,true⟩::es) tm2 st2
  | some false=>xM n o.dst qL tm fun tm'=>runT E call n ops (p-1) l tm' st fun es tm2 st2=>k (⟨tm,st,st,qL,false⟩::es) tm2 st2
  | none=>none
structure StepE (P : Program) (n : Nat) (ops : Array Oper) (pre : Bool) (o : Oper) (tm : Tr AV) (st : Hp) (av : AV) (st' : Hp) (run : Bool) (tm' : Tr AV) : Prop where
 want:sJ ops tm o=some run
 puts:Fq n o.dst av tm tm'
 lQ:Heaps st st'
 Dq:kd o.op=0→st'.h=st.h∧st'.nx=st.nx∧(run=true→aY P (evO tm) st.h.get o av)
 acts:kd o.op≠0→run=true→Kq P (evO tm) st o av st'
 skip:run=false→av=qL∧st'=st
 pure:pre=true→∀ b,b<st.nx→st'.h.get b=st.h.get b
 rdlt:run=true→∀ b,ie (evO tm) o=some b→b<st.nx
 ndf:run=true→∀ c,o.op≠.defer c
theorem DT {call:FuncId→List AV→Hp→Option (AV × Hp)} {ρ:Operand→AV} {st:Hp} {o:Oper} {k:AV→Hp→Option β} (h:opA E call ρ st o k=some r):∀ b,ie ρ o=some b→b<st.nx:=by
 intro b hb
 unfold opA at h
 split at h
 ·rename_i ho
  unfold ie at hb
  rw[ho] at hb
  cases hb
 ·exact GD h hb
theorem JI {call:FuncId→List AV→Hp→Option (AV × Hp)} {n:Nat} {ops:Array Oper} (hc:fE P call) (hty:∀ t ti,E.ty.get t=some ti→TyOK P t ti) {p:Nat} {tm:Tr AV} {st:Hp} {o:Oper} {k:AV→Hp→Option β}
  (hw:sJ ops tm o=some true) (h:opD E call p (evO tm) st o k=some r) :
  ∃ av st',k av st'=some r∧∀ tm',Fq n o.dst av tm tm'→StepE P n ops (decide (0<p)) o tm st av st' true tm':=by
 cases p with
 | zero=>
  obtain⟨av,st',h1,h2⟩:=xH hc hty h
  have hh:Heaps st st':=by
   by_cases hk:kd o.op=0
   ·rw[(h2.1 hk).1];exact Heaps.rfl' _
   ·exact (h2.2 hk).1
  exact⟨av,st',h1,fun tm' hp=>⟨hw,hp,hh,fun hk=>(by obtain⟨rfl,q⟩:=h2.1 hk;exact⟨rfl,rfl,fun _=>q⟩),fun hk _=>(h2.2 hk).2,fun h=>(by cases h),fun h=>(by simp at h),fun _=>DT h,fun _=>np h⟩⟩
 | succ p=>
  have hlt:=DT (st:=⟨st.h,st.nx,st.nx⟩) h
  have hnd:=np (st:=⟨st.h,st.nx,st.nx⟩) h
  obtain⟨av,st',h1,h2⟩:=xH hc hty h
  split at h1
  ·rename_i hlo
   have hlo':st'.lo=st.nx:=Nat.eq_of_beq_eq_true hlo
   have hh:Heaps ⟨st.h,st.nx,st.nx⟩ st':=by
    by_cases hk:kd o.op=0
    ·rw[(h2.1 hk).1];exact Heaps.rfl' _
    ·exact (h2.2 hk).1
   have hp:∀ b,b<st.nx→st'.h.get b=st.h.get b:=fun b hb=>hh.old b (by rw[hlo'];exact hb) hb
   refine ⟨av,⟨st'.h,st'.nx,st.lo⟩,h1,fun tm' hpt=>⟨hw,hpt,⟨hh.nx,K6 _,fun b _ hb=>hp b hb,hh.far⟩,fun hk=>?_,fun hk _=>?_,fun h=>(by cases h),fun _=>hp,fun _=>hlt,fun _=>hnd⟩⟩
   ·obtain⟨e,q⟩:=h2.1 hk
    rw[e]
    exact⟨rfl,rfl,fun _=>q⟩
   ·have q:=(h2.2 hk).2
    intro ro a m w hnd hO hs hd hf K Q hK
    exact q ro a m w hnd hO hs hd hf K Q hK
  ·cases h1
structure Track (P : Program) (n : Nat) (ops : Array Oper) (p : Nat) (l : List Oper) (tms : Nat → Tr AV) (sts : Nat → Hp) (avs : Nat → AV) (rns : Nat → Bool) (es : List Ent) : Prop where
 step:∀ i o,l[i]?=some o→StepE P n ops (decide (i<p)) o (tms i) (sts i) (avs i) (sts (i+1)) (rns i) (tms (i+1))
 ent:∀ i,i<l.length→es[i]?=some ⟨tms i,sts i,sts (i+1),avs i,rns i⟩
theorem zl {call:FuncId→List AV→Hp→Option (AV × Hp)} {n:Nat} {ops:Array Oper} (hc:fE P call) (hty:∀ t ti,E.ty.get t=some ti→TyOK P t ti) :
  ∀ (l:List Oper) (p:Nat) (tm:Tr AV) (st:Hp) (k:List Ent→Tr AV→Hp→Option β),runT E call n ops p l tm st k=some r →
   ∃ es tm' st',k es tm' st'=some r∧∃ tms sts avs rns,tms 0=tm∧sts 0=st∧tms l.length=tm'∧sts l.length=st'∧Track P n ops p l tms sts avs rns es
 | [],p,tm,st,k,h=>⟨[],tm,st,h,fun _=>tm,fun _=>st,fun _=>.dead,fun _=>false,rfl,rfl,rfl,rfl,⟨fun i o h=>by simp at h,fun i h=>by simp at h⟩⟩
 | o::l,p,tm,st,k,h=>by
  have glue:∀ (av:AV) (st1:Hp) (run:Bool) (tm1:Tr AV) (k':List Ent→Tr AV→Hp→Option β),StepE P n ops (decide (0<p)) o tm st av st1 run tm1 →
    runT E call n ops (p-1) l tm1 st1 (fun es tm2 st2=>k (⟨tm,st,st1,av,run⟩::es) tm2 st2)=some r →
    ∃ es tm' st',k es tm' st'=some r∧∃ tms sts avs rns,tms 0=tm∧sts 0=st∧tms (o::l).length=tm'∧sts (o::l).length=st'∧Track P n ops p (o::l) tms sts avs rns es:=by
   intro av st1 run tm1 _ hs h
   obtain⟨es,tm',st',h1,tms,sts,avs,rns,e1,e2,e3,e4,T⟩:=zl hc hty l (p-1) tm1 st1 _ h
   refine ⟨_,tm',st',h1,fun i=>match i with|0=>tm|i+1=>tms i,fun i=>match i with|0=>st|i+1=>sts i,fun i=>match i with|0=>av|i+1=>avs i,fun i=>match i with|0=>run|i+1=>rns i,rfl,rfl,e3,e4,
    ⟨fun i o' ho=>?_,fun i hi=>?_⟩⟩
   ·cases i with
    | zero=>
     simp only[K9,K5] at ho
     subst ho
     simp only[e1,e2]
     exact hs
    | succ i=>
     simp only[K8] at ho
     have:=T.step i o' ho
     have e:decide (i+1<p)=decide (i<p-1):=by
      by_cases h':i+1<p
      ·have:i<p-1:=by omega
       simp[h',this]
      ·have:¬i<p-1:=by omega
       simp[h',this]
     rw[e]
     exact this
   ·cases i with
    | zero=>simp[e2]
    | succ i=>simpa using T.ent i (by simpa using hi)
  rw[runT] at h
  split at h
  ·rename_i hw
   obtain⟨av,st1,h1,h2⟩:=JI (n:=n) hc hty hw h
   obtain⟨tm1,h3,h4⟩:=ic h1
   exact glue av st1 true tm1 k (h2 tm1 h4) h3
  ·rename_i hw
   obtain⟨tm1,h3,h4⟩:=ic h
   refine glue qL st false tm1 k ⟨hw,h4,Heaps.rfl' _,fun _=>⟨rfl,rfl,fun h=>(by cases h)⟩,fun _ h=>(by cases h),fun _=>⟨rfl,rfl⟩,fun _ _ _=>rfl,fun h=>(by cases h),fun h=>(by cases h)⟩ h3
  ·cases h
def oK:List Nat→(List Nat→β)→β
 | [],k=>k []
 | x::l,k=>aW x fun x=>oK l fun l=>k (x::l)
theorem pA:∀ (l:List Nat) (k:List Nat→β),oK l k=k l
 | [],k=>rfl
 | x::l,k=>by rw[oK,aT,pA l]
def uv (ops:Array Oper) (B:List Nat) (p:Nat) (es:List Ent):Bool:=
 (List.range ops.size).all fun j=>Nat.blt j p || (List.range p).all fun i=>(B.getD j 0).testBit i || match ops[i]?,es[i]?,es[j]? with
  | some oi,some ei,some ej=>!ei.run || match ie (evO ei.tm) oi with
   | some b=>Jd (ej.st.h.get b) (ej.st'.h.get b)
   | none=>true
  | _,_,_=>false
def CH (E:Env) (call:FuncId→List AV→Hp→Option (AV × Hp)) (n:Nat) (ops:Array Oper) (tm:Tr AV) (st:Hp):Option (Tr AV × Hp):=
 aW (fX ops.toList) fun p=>runT E call n ops p ops.toList tm st fun es tm' st'=>
  if p=ops.size then some (tm',st') else oK (bef ops) fun B=>if uv ops B p es then some (tm',st') else none
end
end Go.Sx
namespace Go.Sx
open LimbNum
variable [Unk] [Glob]
section
variable {P : Program} {n : Nat} {ops : Array Oper} {p : Nat} {tms : Nat → Tr AV} {sts : Nat → Hp} {avs : Nat → AV} {rns : Nat → Bool} {es : List Ent}
theorem Track.at (T:Track P n ops p ops.toList tms sts avs rns es) {i:Nat} {o:Oper} (ho:ops[i]?=some o):StepE P n ops (decide (i<p)) o (tms i) (sts i) (avs i) (sts (i+1)) (rns i) (tms (i+1)):=
 T.step i o (by simpa using ho)
theorem nU {i:Nat} (hi:i<ops.size):∃ o,ops[i]?=some o:=⟨ops[i],Array.getElem?_eq_getElem hi⟩
theorem gA {i:Nat} {o:Oper} (h:ops[i]?=some o):i<ops.size:=(Array.getElem?_eq_some_iff.1 h).1
theorem Track.tm (T:Track P n ops p ops.toList tms sts avs rns es) {t:Nat} {k:Nat}:∀ i,k≤i→i≤ops.size→(∀ j o,k≤j→j<i→ops[j]?=some o→o.dst≠some t)→(tms i).get t=(tms k).get t:=by
 intro i
 induction i with
 | zero=>intro hk _ _;rw[show k=0 by omega]
 | succ i ih=>
  intro hk hi h
  by_cases hki:k=i+1
  ·rw[hki]
  ·obtain⟨o,ho⟩:=nU (ops:=ops) (i:=i) (by omega)
   rw[(T.at ho).puts.2 t (h i o (by omega) (by omega) ho)]
   exact ih (by omega) (by omega) fun j o h1 h2=>h j o h1 (by omega)
theorem Track.nx (T:Track P n ops p ops.toList tms sts avs rns es) {i:Nat}:∀ j,i≤j→j≤ops.size→(sts i).nx≤(sts j).nx:=by
 intro j
 induction j with
 | zero=>intro h _;rw[show i=0 by omega];exact K6 _
 | succ j ih=>
  intro h hj
  by_cases hij:i=j+1
  ·rw[hij];exact K6 _
  ·obtain⟨o,ho⟩:=nU (ops:=ops) (i:=j) (by omega)
   exact Nat.le_trans (ih (by omega) (by omega)) (T.at ho).lQ.nx
theorem Track.lQ (T:Track P n ops p ops.toList tms sts avs rns es):∀ j,j≤ops.size→Heaps (sts 0) (sts j):=by
 intro j
 induction j with
 | zero=>intro _;exact Heaps.rfl' _
 | succ j ih=>
  intro hj
  obtain⟨o,ho⟩:=nU (ops:=ops) (i:=j) (by omega)
  exact (ih (by omega)).comp (T.at ho).lQ
theorem Track.pure (T:Track P n ops p ops.toList tms sts avs rns es) (hp:p≤ops.size) {i b:Nat} (hb:b<(sts i).nx):∀ j,i≤j→j≤p→(sts j).h.get b=(sts i).h.get b:=by
 intro j
 induction j with
 | zero=>intro h _;rw[show i=0 by omega]
 | succ j ih=>
  intro h hj
  by_cases hij:i=j+1
  ·rw[hij]
  ·obtain⟨o,ho⟩:=nU (ops:=ops) (i:=j) (by omega)
   rw[(T.at ho).pure (by simp;omega) b (Nat.lt_of_lt_of_le hb (T.nx j (by omega) (by omega)))]
   exact ih (by omega) (by omega)
structure Stat (ops : Array Oper) (p : Nat) : Prop where
 le:p≤ops.size
 back:∀ i o,ops[i]?=some o→∀ e∈o.after,Region.binds .any e=true→e.on<i
 pair:∀ i oi j oj,ops[i]?=some oi→ops[j]?=some oj→j<i→rch ops i j=true∨(lE ops oi oj=false∧(i<p∨(j<p∧kd oj.op=0)))
theorem ze:∀ l:List Oper,fX l≤l.length
 | []=>K6 _
 | o::l=>by
  rw[fX]
  split
  ·exact Nat.zero_le _
  ·simp only[List.length_cons];have:=ze l;omega
theorem FH (h:ff ops=true):Stat ops (fX ops.toList):=by
 unfold ff at h
 have key:∀ i oi,ops[i]?=some oi→(oi.after.all fun e=>!Region.binds .any e || Nat.blt e.on i)=true∧∀ j oj,j<i→ops[j]?=some oj →
   (rch ops i j || (!lE ops oi oj&&(Nat.blt i (fX ops.toList) || (Nat.blt j (fX ops.toList)&&Nat.beq (kd oj.op) 0))))=true:=by
  intro i oi ho
  have h1:=List.all_eq_true.1 h i (List.mem_range.2 (gA ho))
  simp only[ho,Bool.and_eq_true] at h1
  refine ⟨h1.1,fun j oj hj hoj=>?_⟩
  have h2:=List.all_eq_true.1 h1.2 j (List.mem_range.2 hj)
  simpa only[hoj] using h2
 refine ⟨by have:=ze ops.toList;simpa using this,fun i o ho e he hb=>?_,fun i oi j oj hi hj hlt=>?_⟩
 ·have h1:=Array.all_eq_true_iff_forall_mem.1 (key i o ho).1 e he
  simpa [hb,Nat.blt_eq] using h1
 ·have h2:=(key i oi hi).2 j oj hlt hj
  simp only[Bool.or_eq_true,Bool.and_eq_true,Bool.not_eq_true',Nat.blt_eq] at h2
  rcases h2 with h2|⟨h2,h3⟩
  ·exact .inl h2
  ·exact .inr ⟨h2,h3.imp id fun h=>⟨h.1,Nat.eq_of_beq_eq_true h.2⟩⟩
def Cl (ops:Array Oper) (L:Nat→Bool):Prop:=∀ i o,L i=true→ops[i]?=some o→∀ e∈o.after,Region.binds .any e=true→L e.on=true
theorem Cl.rch {L:Nat→Bool} (S:Stat ops p) (hc:Cl ops L):∀ (i:Nat) (o:Oper),ops[i]?=some o→(∀ e∈o.after,Region.binds .any e=true→L e.on=true)→∀ j,rch ops i j=true→L j=true:=by
 intro i
 induction i using Nat.strongRecOn with
 | ind i ih=>
  intro o ho hd j hr
  obtain⟨e,he,hb,h⟩:=Ek ho hr
  rcases h with rfl|h
  ·exact hd e he hb
  ·have hlt:=S.back i o ho e he hb
   obtain⟨o',ho'⟩:=nU (ops:=ops) (i:=e.on) (by have:=gA ho;omega)
   exact ih e.on hlt o' ho' (hc e.on o' (hd e he hb) ho') j h
def Val (ops:Array Oper) (tms:Nat→Tr AV) (avs:Nat→AV) (L:Nat→Bool) (t:Nat) (av:AV):Prop:=
 (∃ j o,L j=true∧ops[j]?=some o∧o.dst=some t∧avs j=av∧∀ j' o',j<j'→L j'=true→ops[j']?=some o'→o'.dst≠some t) ∨
 ((∀ j o,L j=true→ops[j]?=some o→o.dst≠some t)∧(tms 0).get t=some av)
theorem jw (ops:Array Oper) (t:Nat):∀ i:Nat,(∀ (j:Nat) (o:Oper),j<i→ops[j]?=some o→o.dst≠some t)∨∃ (j:Nat) (o:Oper),j<i∧ops[j]?=some o∧o.dst=some t∧∀ (j':Nat) (o':Oper),j<j'→j'<i→ops[j']?=some o'→o'.dst≠some t
 | 0=>.inl fun j o h=>by omega
 | i+1=>by
  by_cases hx:∃ o,ops[i]?=some o∧o.dst=some t
  ·obtain⟨o,h1,h2⟩:=hx
   exact .inr ⟨i,o,by omega,h1,h2,fun j' o' h3 h4=>by omega⟩
  ·have hi:∀ o,ops[i]?=some o→o.dst≠some t:=fun o h1 h2=>hx ⟨o,h1,h2⟩
   rcases jw ops t i with h|⟨j,o,h1,h2,h3,h4⟩
   ·refine .inl fun j o hj ho=>?_
    by_cases hji:j=i
    ·subst hji;exact hi o ho
    ·exact h j o (by omega) ho
   ·refine .inr ⟨j,o,by omega,h2,h3,fun j' o' h5 h6 ho'=>?_⟩
    by_cases hji:j'=i
    ·subst hji;exact hi o' ho'
    ·exact h4 j' o' h5 (by omega) ho'
theorem wU {oi oj:Oper} {t:Nat} (h1:oi.dst=some t) (h2:t∈nW ops oj):lE ops oi oj=true:=by
 unfold lE
 simp only[h1,Bool.or_eq_true]
 exact .inl (.inr (by simpa using h2))
theorem uy {oi oj:Oper} {t:Nat} (h1:oj.dst=some t) (h2:t∈nW ops oi):lE ops oi oj=true:=by
 unfold lE
 simp only[h1,Bool.or_eq_true]
 exact .inr (by simpa using h2)
theorem wT {oi oj:Oper} {t:Nat} (h1:oi.dst=some t) (h2:oj.dst=some t):lE ops oi oj=true:=by
 unfold lE
 simp[h1,h2]
theorem vL (T:Track P n ops p ops.toList tms sts avs rns es) (S:Stat ops p) {L:Nat→Bool} (hc:Cl ops L) {i:Nat} {o:Oper} (ho:ops[i]?=some o) (hu:L i=false)
  (hd:∀ e∈o.after,Region.binds .any e=true→L e.on=true) {t:Nat} (ht:t∈nW ops o) {av:AV} (h:(tms i).get t=some av):Val ops tms avs L t av:=by
 have hdep:=hc.rch S i o ho hd
 have late:∀ j oj,i<j→L j=true→ops[j]?=some oj→oj.dst≠some t:=fun j oj hij hj hoj hdst=>by
  rcases S.pair j oj i o hoj ho hij with h1|⟨h1,_⟩
  ·rw[hc.rch S j oj hoj (hc j oj hj hoj) i h1] at hu;cases hu
  ·rw[wU hdst ht] at h1;cases h1
 rcases jw ops t i with h1|⟨j,oj,h1,h2,h3,h4⟩
 ·refine .inr ⟨fun j oj hj hoj=>?_,?_⟩
  ·rcases Nat.lt_trichotomy j i with h5|h5|h5
   ·exact h1 j oj h5 hoj
   ·subst h5;rw[hj] at hu;cases hu
   ·exact late j oj h5 hj hoj
  ·rw[←h]
   exact (T.tm (k:=0) i (Nat.zero_le _) (Nat.le_of_lt (gA ho)) fun j o _ h5=>h1 j o h5).symm
 ·have hj:L j=true:=by
   rcases S.pair i o j oj ho h2 h1 with h5|⟨h5,_⟩
   ·exact hdep j h5
   ·rw[uy h3 ht] at h5;cases h5
  refine .inl ⟨j,oj,hj,h2,h3,?_,fun j' o' h5 h6 h7=>?_⟩
  ·have e:=T.tm (t:=t) (k:=j+1) i (by omega) (Nat.le_of_lt (gA ho)) fun j' o' h5 h6 h7=>h4 j' o' (by omega) h6 h7
   rw[((T.at h2).puts.1 t h3).2,h] at e
   simpa using e.symm
  ·rcases Nat.lt_trichotomy j' i with h8|h8|h8
   ·exact h4 j' o' h5 h8 h7
   ·subst h8;rw[h6] at hu;cases hu
   ·exact late j' o' h8 h6 h7
theorem CX (T:Track P n ops p ops.toList tms sts avs rns es) {L:Nat→Bool} (hall:∀ i,i<ops.size→L i=true) {t:Nat} {av:AV} (h:(tms ops.size).get t=some av):Val ops tms avs L t av:=by
 rcases jw ops t ops.size with h1|⟨j,oj,h1,h2,h3,h4⟩
 ·refine .inr ⟨fun j oj _ hoj=>h1 j oj (gA hoj) hoj,?_⟩
  rw[←h]
  exact (T.tm (k:=0) ops.size (Nat.zero_le _) (K6 _) fun j o _ h5=>h1 j o h5).symm
 ·refine .inl ⟨j,oj,hall j h1,h2,h3,?_,fun j' o' h5 _ h7=>h4 j' o' h5 (gA h7) h7⟩
  have e:=T.tm (t:=t) (k:=j+1) ops.size (by omega) (K6 _) fun j' o' h5 h6 h7=>h4 j' o' (by omega) h6 h7
  rw[((T.at h2).puts.1 t h3).2,h] at e
  simpa using e.symm
theorem GP (S:Stat ops p) {L L':Nat→Bool} {i:Nat} (hL:∀ j,L' j=(j==i || L j)) (hc:Cl ops L) {o:Oper} (ho:ops[i]?=some o) (hu:L i=false) {a:Act} {m m':Nm} {w w':World} {v:Value} (hn:a.tmps.size=n)
  (hd:∀ t,o.dst=some t→t<n) (h:∀ t av,Val ops tms avs L t av→∃ v,a.tmps[t]?=some v∧RV m w av v) (hk:∀ av v,RV m w av v→RV m' w' av v) (hv:RV m' w' (avs i) v) :
  ∀ t av,Val ops tms avs L' t av→∃ u,(a.put o.dst v).tmps[t]?=some u∧RV m' w' av u:=by
 intro t av hV
 rw[zg]
 by_cases hdst:o.dst=some t
 ·rw[if_pos ⟨hdst,by have:=hd t hdst;exact Nat.lt_of_lt_of_eq this hn.symm⟩]
  have:avs i=av:=by
   rcases hV with ⟨j,oj,h1,h2,h3,h4,h5⟩|⟨h1,_⟩
   ·by_cases hji:j=i
    ·subst hji;exact h4
    ·have hj:L j=true:=by simpa [hL,hji] using h1
     rcases Nat.lt_or_ge j i with h6|h6
     ·exact absurd hdst (h5 i o h6 (by simp[hL]) ho)
     ·rcases S.pair j oj i o h2 ho (by omega) with h7|⟨h7,_⟩
      ·rw[hc.rch S j oj h2 (hc j oj hj h2) i h7] at hu;cases hu
      ·rw[wT h3 hdst] at h7;cases h7
   ·exact absurd hdst (h1 i o (by simp[hL]) ho)
  exact⟨v,rfl,this ▸ hv⟩
 ·rw[if_neg fun h=>hdst h.1]
  have hV':Val ops tms avs L t av:=by
   rcases hV with ⟨j,oj,h1,h2,h3,h4,h5⟩|⟨h1,h2⟩
   ·have hji:j≠i:=fun e=>by subst e;rw[ho] at h2;cases h2;exact hdst h3
    exact .inl ⟨j,oj,by simpa [hL,hji] using h1,h2,h3,h4,fun j' o' h6 h7=>h5 j' o' h6 (by simp[hL,h7])⟩
   ·exact .inr ⟨fun j oj hj=>h1 j oj (by simp[hL,hj]),h2⟩
  obtain⟨u,h1,h2⟩:=h t av hV'
  exact⟨u,h1,hk _ _ h2⟩
end
end Go.Sx
namespace Go.Sx
open LimbNum
variable [Unk] [Glob]
section
variable {P : Program} {n : Nat} {ops : Array Oper} {p : Nat} {tms : Nat → Tr AV} {sts : Nat → Hp} {avs : Nat → AV} {rns : Nat → Bool} {es : List Ent}
structure Jn (ops : Array Oper) (p n : Nat) (tms : Nat → Tr AV) (sts : Nat → Hp) (avs : Nat → AV) (a0 : Act) (m0 : Nm) (w0 : World) (L : Nat → Bool) (q : Nat) (m : Nm) (a : Act) (w : World) : Prop where
 cl:Cl ops L
 q1:p≤q
 q2:q≤ops.size
 tail:∀ j,p≤j→j<ops.size→(L j=true↔j<q)
 heavy:p<q→∀ j o,j<p→ops[j]?=some o→kd o.op≠0→L j=true
 size:a.tmps.size=n
 defers:a.defers=a0.defers
 vals:∀ t av,Val ops tms avs L t av→∃ v,a.tmps[t]?=some v∧RV m w av v
 rs:RS m w (sts q).h.get
 names:∀ b,m b≠none→b<(sts 0).nx∨(sts ops.size).nx≤b∨∃ j,j<ops.size∧L j=true∧(sts j).nx≤b∧b<(sts (j+1)).nx
 to:To m0 (sts 0).h.get w0 m (sts q).h.get w
 same:∀ b,b<(sts 0).nx∨(sts ops.size).nx≤b→m b=m0 b
theorem Jn.fresh (T:Track P n ops p ops.toList tms sts avs rns es) {a0:Act} {m0:Nm} {w0:World} {L:Nat→Bool} {q:Nat} {m:Nm} {a:Act} {w:World} (J:Jn ops p n tms sts avs a0 m0 w0 L q m a w)
  {i:Nat} (hi:i<ops.size) (hu:L i=false):dA m (sts i).nx (sts (i+1)).nx:=by
 intro b h1 h2
 cases hb:m b with
 | none=>rfl
 | some x=>
  exfalso
  rcases J.names b (by rw[hb];simp) with h3|h3|⟨j,h3,h4,h5,h6⟩
  ·have:=T.nx (i:=0) i (Nat.zero_le _) (Nat.le_of_lt hi);omega
  ·have:=T.nx (i:=i+1) ops.size hi (K6 _);omega
  ·rcases Nat.lt_trichotomy j i with h7|h7|h7
   ·have:=T.nx (i:=j+1) i (by omega) (Nat.le_of_lt hi);omega
   ·subst h7;rw[h4] at hu;cases hu
   ·have:=T.nx (i:=i+1) j (by omega) (Nat.le_of_lt h3);omega
theorem AF (T:Track P n ops p ops.toList tms sts avs rns es) (S:Stat ops p) (hD:p=ops.size∨uv ops (bef ops) p es=true) {a0:Act} {m0:Nm} {w0:World} {L:Nat→Bool} {q:Nat} {m:Nm} {a:Act} {w:World}
  (J:Jn ops p n tms sts avs a0 m0 w0 L q m a w) {i:Nat} {o:Oper} (ho:ops[i]?=some o) (hip:i<p) (hu:L i=false) (hrun:rns i=true) {b:Nat} (hb:ie (evO (tms i)) o=some b) (hlt:b<(sts i).nx) :
  ∀ j,p≤j→j≤q→(sts j).h.get b=(sts i).h.get b:=by
 intro j
 induction j with
 | zero=>intro h _;omega
 | succ j ih=>
  intro h1 h2
  by_cases hj:p=j+1
  ·rw[←hj];exact T.pure S.le hlt p (Nat.le_of_lt hip) (K6 _)
  ·rw[←ih (by omega) (by omega)]
   have hjs:j<ops.size:=by have:=J.q2;omega
   have hLj:L j=true:=(J.tail j (by omega) hjs).2 (by omega)
   obtain⟨oj,hoj⟩:=nU hjs
   have hr:rch ops j i=false:=by
    cases hr:rch ops j i with
    | false=>rfl
    | true=>rw[J.cl.rch S j oj hoj (J.cl j oj hLj hoj) i hr] at hu;cases hu
   have hc:uv ops (bef ops) p es=true:=hD.resolve_left (by omega)
   unfold uv at hc
   have h3:=List.all_eq_true.1 hc j (List.mem_range.2 hjs)
   have h4:Nat.blt j p=false:=by
    cases h:Nat.blt j p with
    | false=>rfl
    | true=>rw[Nat.blt_eq] at h;omega
   simp only[h4,Bool.false_or] at h3
   have h5:=List.all_eq_true.1 h3 i (List.mem_range.2 hip)
   have h6:((bef ops).getD j 0).testBit i=false:=hr
   have e1:=T.ent i (by simpa using gA ho)
   have e2:=T.ent j (by simpa using hjs)
   simp only[h6,Bool.false_or,ho,e1,e2,hrun,Bool.not_true,hb] at h5
   exact (FC h5).symm
theorem Jn.Dq (T:Track P n ops p ops.toList tms sts avs rns es) (S:Stat ops p) (hD:p=ops.size∨uv ops (bef ops) p es=true) {a0:Act} {m0:Nm} {w0:World} {L:Nat→Bool} {q:Nat} {m:Nm} {a:Act} {w:World}
  (J:Jn ops p n tms sts avs a0 m0 w0 L q m a w) {i:Nat} {o:Oper} (ho:ops[i]?=some o) (hu:L i=false) (hrun:rns i=true) (hq:p≤i→i=q):RS m w (only (ie (evO (tms i)) o) (sts i).h.get):=by
 by_cases hip:i<p
 ·refine (J.rs.sub fun b c hb=>?_).1
  unfold only at hb
  split at hb
  ·rename_i hr
   rw[AF T S hD J ho hip hu hrun hr.symm ((T.at ho).rdlt hrun b hr.symm) q J.q1 (K6 _)]
   exact hb
  ·cases hb
 ·obtain rfl:=hq (by omega)
  exact (J.rs.sub (vD _ _)).1
theorem CO (T:Track P n ops p ops.toList tms sts avs rns es) (S:Stat ops p) (hdom:Dom (sts 0)) {i:Nat} {o:Oper} (ho:ops[i]?=some o) (hip:i<p) {m m':Nm} {w w':World} (hs:RS m w (sts p).h.get)
  (h1:RS m' w' (sts (i+1)).h.get) (h2:To m (sts i).h.get w m' (sts (i+1)).h.get w') (h3:dp m m' (sts i).nx (sts (i+1)).nx) :
  RS m' w' (sts p).h.get∧To m (sts p).h.get w m' (sts p).h.get w':=by
 have hi:=gA ho
 have hnx:=(T.at ho).lQ.nx
 have dom:∀ j,j≤ops.size→Dom (sts j):=fun j hj=>(T.lQ j hj).dom hdom
 have hlow:∀ b,b<(sts (i+1)).nx→(sts p).h.get b=(sts (i+1)).h.get b:=fun b hb=>T.pure S.le hb p (by omega) (K6 _)
 have hin:∀ b,(sts i).h.get b≠none→b<(sts i).nx∧(sts p).h.get b≠none:=fun b hb=>by
  have hb':b<(sts i).nx:=by
   rcases Nat.lt_or_ge b (sts i).nx with h|h
   ·exact h
   ·exact absurd (dom i (Nat.le_of_lt hi) b h) hb
  exact⟨hb',by rw[T.pure S.le hb' p (Nat.le_of_lt hip) (K6 _)];exact hb⟩
 have hfar:∀ b x,(sts (i+1)).nx≤b→(sts p).h.get b≠none→m b=some x→∀ b0,(sts i).h.get b0≠none→m b0≠some x:=fun b x hb hne hm b0 hb0 hm0=>by
  obtain⟨g1,g2⟩:=hin b0 hb0
  have:=hs.inj b0 b x g2 hne hm0 hm
  omega
 have hto:To m (sts p).h.get w m' (sts p).h.get w':=⟨h2.ext,h2.grow,h2.u64,h2.env,fun rb hr hn=>h2.keep rb hr fun b hb=>hn b (hin b hb).2,fun b rb hb hm=>by
  by_cases hlt:b<(sts (i+1)).nx
  ·rcases h2.img b rb (by rw[←hlow b hlt];exact hb) hm with h4|⟨b0,h4,h5⟩
   ·exact .inl h4
   ·exact .inr ⟨b0,(hin b0 h4).2,h5⟩
  ·rw[h3 b (by omega)] at hm
   exact .inr ⟨b,hb,hm⟩⟩
 refine ⟨⟨fun b cells rb hb hm=>?_,fun b b' x hb hb' hm hm'=>?_,hs.glob.to hto⟩,hto⟩
 ·by_cases hlt:b<(sts (i+1)).nx
  ·exact h1.obj b cells rb (by rw[←hlow b hlt];exact hb) hm
  ·rw[h3 b (by omega)] at hm
   obtain⟨o,q1,q2⟩:=hs.obj b cells rb hb hm
   refine ⟨o,?_,q2.to hto⟩
   rw[h2.keep rb (eR q1) (hfar b rb (by omega) (by rw[hb];simp) hm)]
   exact q1
 ·have mixed:∀ b b',b<(sts (i+1)).nx→(sts (i+1)).nx≤b'→(sts p).h.get b≠none→(sts p).h.get b'≠none→m' b=some x→m' b'=some x→False:=fun b b' g1 g2 g3 g4 g5 g6=>by
   rw[h3 b' (by omega)] at g6
   rcases h2.img b x (by rw[←hlow b g1];exact g3) g5 with g7|⟨b0,g7,g8⟩
   ·have:=hs.lt g4 g6;omega
   ·exact hfar b' x g2 g4 g6 b0 g7 g8
  rcases Nat.lt_or_ge b (sts (i+1)).nx with g1|g1<;>rcases Nat.lt_or_ge b' (sts (i+1)).nx with g2|g2
  ·exact h1.inj b b' x (by rw[←hlow b g1];exact hb) (by rw[←hlow b' g2];exact hb') hm hm'
  ·exact (mixed b b' g1 g2 hb hb' hm hm').elim
  ·exact (mixed b' b g2 g1 hb' hb hm' hm).elim
  ·rw[h3 b (by omega)] at hm
   rw[h3 b' (by omega)] at hm'
   exact hs.inj b b' x hb hb' hm hm'
theorem Jn.next (T:Track P n ops p ops.toList tms sts avs rns es) (S:Stat ops p) {a0:Act} {m0:Nm} {w0:World} {L L':Nat→Bool} {q q':Nat} {m m':Nm} {a:Act} {w w':World} {v:Value}
  (J:Jn ops p n tms sts avs a0 m0 w0 L q m a w) {i:Nat} {o:Oper} (ho:ops[i]?=some o) (hu:L i=false) (hL:∀ j,L' j=(j==i || L j)) (hd:∀ e∈o.after,Region.binds .any e=true→L e.on=true)
  (hq:(i<p∧q'=q)∨(p≤i∧i=q∧q'=q+1)) (hv:RV m' w' (avs i) v) (hs:RS m' w' (sts q').h.get) (ht:To m (sts q).h.get w m' (sts q').h.get w') (hm:dp m m' (sts i).nx (sts (i+1)).nx) :
  Jn ops p n tms sts avs a0 m0 w0 L' q' m' (a.put o.dst v) w':=by
 have hi:=gA ho
 have hdep:=J.cl.rch S i o ho hd
 refine ⟨fun j oj hj hoj e he hb=>?_,?_,?_,fun j hj hjs=>?_,fun hpq j oj hjp hoj hk=>?_,by rw[qq];exact J.size,by rw[put_defers];exact J.defers,?_,hs,fun b hb=>?_,J.to.comp ht,fun b hb=>?_⟩
 ·rw[hL] at hj ⊢
  by_cases hji:j=i
  ·subst hji
   rw[ho] at hoj;cases hoj
   rw[hd e he hb,Bool.or_true]
  ·rw[J.cl j oj (by simpa [hji] using hj) hoj e he hb,Bool.or_true]
 ·have:=J.q1;omega
 ·rcases hq with ⟨_,rfl⟩|⟨_,h2,rfl⟩
  ·exact J.q2
  ·omega
 ·rw[hL]
  rcases hq with ⟨h1,rfl⟩|⟨h1,h2,rfl⟩
  ·have:(j==i)=false:=by rw[beq_eq_false_iff_ne];omega
   rw[this,Bool.false_or]
   exact J.tail j hj hjs
  ·by_cases hji:j=i
   ·subst hji;simp;omega
   ·have:(j==i)=false:=by rw[beq_eq_false_iff_ne];exact hji
    rw[this,Bool.false_or,J.tail j hj hjs]
    omega
 ·rw[hL]
  rcases hq with ⟨h1,rfl⟩|⟨h1,h2,rfl⟩
  ·rw[J.heavy hpq j oj hjp hoj hk,Bool.or_true]
  ·have:L j=true:=by
    rcases S.pair i o j oj ho hoj (by omega) with h3|⟨_,h3|h3⟩
    ·exact hdep j h3
    ·omega
    ·exact absurd h3.2 hk
   rw[this,Bool.or_true]
 ·exact GP S hL J.cl ho hu J.size (fun t h=>((T.at ho).puts.1 t h).1) J.vals (fun _ _ h=>ht.rv h) hv
 ·by_cases hbn:b<(sts i).nx∨(sts (i+1)).nx≤b
  ·rw[hm b hbn] at hb
   rcases J.names b hb with h1|h1|⟨j,h1,h2,h3⟩
   ·exact .inl h1
   ·exact .inr (.inl h1)
   ·exact .inr (.inr ⟨j,h1,by rw[hL,h2,Bool.or_true],h3⟩)
  ·exact .inr (.inr ⟨i,hi,by rw[hL];simp,by omega,by omega⟩)
 ·have h1:=T.nx (i:=0) i (Nat.zero_le _) (Nat.le_of_lt hi)
  have h2:=T.nx (i:=i+1) ops.size hi (K6 _)
  rw[hm b (by omega)]
  exact J.same b hb
end
end Go.Sx
namespace Go.Sx
open LimbNum Go.RowKit
variable [Unk] [Glob]
inductive Ex where
 | nrm
 | ext (id:Nat)
 | ret
def xf:Ex→Exit
 | .nrm=>.normal
 | .ext id=>.exit id
 | .ret=>.ret
theorem jY {P:Program} {F:Fence} {n:Nat} {a:Act} {w:World} {Q:Exit→Act→World→Prop} {c:Code} (h:c.wpIn F n P (Exit.noGoto Q) a w):(Code.scope c).wpIn F n P Q a w:=by
 intro b k cs hro hb hr
 obtain⟨e,a₁,w₁,hq,harr⟩:=h b (.inScope c::k) cs hro hb hr
 have s0:step P (lone (b.atR a (.code (.scope c)::k)) cs w)=.next (lone (b.atR a (.code c :: .inScope c::k)) cs w):=step_lone_go (by simp[stepG,stepG.exec,Frame.atR])
 have s1:step P (lone (b.atR a₁ (.inScope c::k)) cs w₁)=.next (lone (b.atR a₁ k) cs w₁):=step_lone_go (by simp[stepG,stepG.exec,Frame.atR])
 have i0:StepsIn (Machine.fenced P F) P (lone (b.atR a (.code (.scope c)::k)) cs w) (lone (b.atR a (.code c :: .inScope c::k)) cs w):=.one (fenced_calm (fr:=b.atR a (.code (.scope c)::k)) hb hr rfl) s0
 cases e with
 | normal=>exact⟨.normal,a₁,w₁,hq,.of_steps i0 (StepsIn.trans harr (.one (fenced_calm (fr:=b.atR a₁ (.inScope c::k)) hb hr rfl) s1))⟩
 | exit id=>exact⟨.exit id,a₁,w₁,hq,.of_steps i0 ⟨fun k' hk=>harr.1 k' (by simp[exitTo,hk]),fun h1 h2=>harr.2 h1 (by simp[exitTo,h2])⟩⟩
 | goto l=>exact hq.elim
 | ret=>exact⟨_,a₁,w₁,hq,.of_steps i0 harr⟩
 | panic ch=>exact⟨_,a₁,w₁,hq,.of_steps i0 harr⟩
 | outgrown=>exact⟨_,a₁,w₁,hq,.of_steps i0 harr⟩
theorem uo {m:Nm} {w w':World} {h:Hf} (hs:RS m w h) (hb:Below w.heap.size w w'):RS m w' h∧To m h w m h w':=by
 have hold:∀ (b:Nat) (o:Obj),w.heap[b]?=some o→w'.heap[b]?=some o:=fun b o ho=>by rw[hb.block b (eR ho)];exact ho
 have hto:To m h w m h w':=⟨Ext.rfl' _,⟨hb.size,fun b c e f hx=>⟨c,f,hold b _ hx,rfl⟩⟩,fun a n ha=>by
  unfold World.cell? at ha ⊢
  cases hx:w.heap[a.block]? with
  | none=>rw[hx] at ha;cases ha
  | some o=>rw[hold _ _ hx];rw[hx] at ha;exact ha,⟨hb.os,hb.tape,hb.output⟩,fun rb hr _=>hb.block rb hr,fun b rb h1 h2=>.inr ⟨b,h1,h2⟩⟩
 exact⟨⟨fun b cells rb h1 h2=>by
  obtain⟨o,q1,q2⟩:=hs.obj b cells rb h1 h2
  exact⟨o,hold _ _ q1,q2.to hto⟩,hs.inj,hs.glob.to hto⟩,hto⟩
section
variable {P : Program} {E : Env} {β : Type} {r : β}
def DD (st:Hp) (cs:List AV) (k:Nat→Hp→Option β):Option β:=
 Tr.jB Tr.depth st.h st.nx (some cs) fun h=>aW (st.nx+1) fun n=>k st.nx ⟨h,n,st.lo⟩
def sB (st:Hp) (b:Nat) (cs:List AV) (k:Hp→Option β):Option β:=
 if b<st.nx then Tr.jB Tr.depth st.h b (some cs) fun h=>aW (Nat.min st.lo b) fun lo=>k ⟨h,st.nx,lo⟩ else none
theorem xC {st:Hp} {cs:List AV} {k:Nat→Hp→Option β} (h:DD st cs k=some r):∃ st',k st.nx st'=some r∧st'.h.get st.nx=some cs∧(∀ i,i≠st.nx→st'.h.get i=st.h.get i)∧st'.nx=st.nx+1∧st'.lo=st.lo:=by
 unfold DD at h
 obtain⟨t',h1,h2,h3⟩:=Tr.dy _ _ _ _ _ _ h
 simp only[aT] at h1
 exact⟨⟨t',st.nx+1,st.lo⟩,h1,h2,h3,rfl,rfl⟩
theorem kX {st:Hp} {b:Nat} {cs:List AV} {k:Hp→Option β} (h:sB st b cs k=some r):∃ st',k st'=some r∧st'.h.get b=some cs∧(∀ i,i≠b→st'.h.get i=st.h.get i)∧st'.nx=st.nx∧st'.lo=Nat.min st.lo b∧b<st.nx:=by
 unfold sB at h
 split at h
 ·obtain⟨t',h1,h2,h3⟩:=Tr.dy _ _ _ _ _ _ h
  simp only[aT] at h1
  exact⟨⟨t',st.nx,Nat.min st.lo b⟩,h1,h2,h3,rfl,rfl,‹_›⟩
 ·cases h
theorem tr {m:Nm} {w:World} {st st':Hp} {b rb:Nat} {s s':LoopState} {ps:Array Tmp} {asg bod:Code} {jp jp':Option Code} {tl:List AV} {r:Loop} (hs:RS m w st.h.get) (hb:st.h.get b=some (.lp s ps asg bod jp::tl)) (hm:m b=some rb) (hw:w.heap[rb]?=some (.loop r))
  (hr:LpAt s ps asg bod jp r) (htl:RVs m w tl r.tmps.toList) (hget:st'.h.get b=some (.lp s' ps asg bod jp'::tl)) (hoth:∀ i,i≠b→st'.h.get i=st.h.get i) :
  RS m (w.putObj rb (.loop { r with state:=s',pending:=jp' })) st'.h.get∧To m st.h.get w m st'.h.get (w.putObj rb (.loop { r with state:=s',pending:=jp' })):=by
 have hlt:=eR hw
 have hself:(w.putObj rb (.loop { r with state:=s',pending:=jp' })).heap[rb]?=some (.loop { r with state:=s',pending:=jp' }):=World.putObj_heap_same hlt
 have hne:∀ k,k≠rb→(w.putObj rb (.loop { r with state:=s',pending:=jp' })).heap[k]?=w.heap[k]?:=fun k hk=>World.putObj_heap_other hk
 generalize hw':w.putObj rb (.loop { r with state:=s',pending:=jp' })=w' at *
 have henv:eT w w':=by subst hw';exact⟨rfl,rfl,rfl⟩
 have hsz:w'.heap.size=w.heap.size:=by subst hw';exact World.putObj_size
 have hg:Grow w w':=⟨by omega,fun k c e f hk=>by
  by_cases hkr:k=rb
  ·subst hkr;rw[hw] at hk;cases hk
  ·exact⟨c,f,by rw[hne k hkr];exact hk,rfl⟩⟩
 have hu:U64 w w':=fun a n ha=>by
  unfold World.cell? at ha ⊢
  by_cases hab:a.block=rb
  ·rw[hab,hw] at ha
   simp at ha
  ·rw[hne _ hab];exact ha
 have hdom:∀ x,st'.h.get x≠none→st.h.get x≠none:=fun x hx'=>by
  by_cases hxb:x=b
  ·subst hxb;rw[hb];simp
  ·rwa [←hoth x hxb]
 have hto:To m st.h.get w m st'.h.get w':=
  ⟨Ext.rfl' _,hg,hu,henv,fun k hk hn=>hne k fun hkr=>by subst hkr;exact hn b (by rw[hb];simp) hm,fun x y hx hmx=>.inr ⟨x,hdom x hx,hmx⟩⟩
 refine ⟨⟨fun x cs y hx hmx=>?_,fun x y z hx hy hmx hmy=>hs.inj x y z (hdom x hx) (hdom y hy) hmx hmy,hs.glob.to hto⟩,hto⟩
 by_cases hxb:x=b
 ·subst hxb
  rw[hget] at hx;cases hx
  rw[hm] at hmx;cases hmx
  exact⟨_,hself,.inr (.inr ⟨s',ps,asg,bod,jp',tl,_,rfl,rfl,⟨rfl,hr.eP,hr.eA,hr.eB,rfl,hr.ga,hr.gb⟩,hto.rvs htl⟩)⟩
 ·rw[hoth x hxb] at hx
  obtain⟨ob,q2,q3⟩:=hs.obj x cs y hx hmx
  have hr:y≠rb:=fun hy=>hxb (hs.inj x b rb (by rw[hx];simp) (by rw[hb];simp) (hy ▸ hmx) hm)
  exact⟨ob,by rw[hne y hr];exact q2,q3.to hto⟩
def pb (B:Nat) (m:Nm) (h:Hf) (w:World) (ds:List Deferred):Prop:=
 (∀ d∈ds,∃ D,d={ target:=.collected D,args:=#[] }∧B≤D∧w.heap[D]?=some (.deferred (some []))∧∀ b,h b≠none→m b≠some D)∧ds.Pairwise fun d d'=>d≠d'
theorem pb.nil (B:Nat) (m:Nm) (h:Hf) (w:World):pb B m h w []:=⟨fun d hd=>(by cases hd),List.Pairwise.nil⟩
theorem pb.to {B:Nat} {m m':Nm} {h h':Hf} {w w':World} {ds:List Deferred} (k:pb B m h w ds) (t:To m h w m' h' w'):pb B m' h' w' ds:=by
 refine ⟨fun d hd=>?_,k.2⟩
 obtain⟨D,rfl,h1,h2,h3⟩:=k.1 d hd
 refine ⟨D,rfl,h1,(t.keep D (eR h2) h3).trans h2,fun b hb hm=>?_⟩
 rcases t.img b D hb hm with h4|⟨b0,h4,h5⟩
 ·have:=eR h2;omega
 ·exact h3 b0 h4 h5
def tmL (tm:Tr AV):Nat→Nat→(List AV→Option β)→Option β
 | 0,_,k=>k []
 | m+1,i,k=>match tm.get i with
  | some v=>tmL tm m (i+1) fun l=>k (v::l)
  | none=>tmL tm m (i+1) fun l=>k (.dead::l)
theorem wv {tm:Tr AV}:∀ (m i:Nat) (k:List AV→Option β),tmL tm m i k=some r→∃ l,k l=some r∧l.length=m∧∀ j v,l[j]?=some v→v=(tm.get (i+j)).getD .dead
 | 0,i,k,h=>⟨[],h,rfl,fun j v hj=>by simp at hj⟩
 | m+1,i,k,h=>by
  rw[tmL] at h
  have key:∀ x,(tm.get i).getD .dead=x→tmL tm m (i+1) (fun l=>k (x::l))=some r→∃ l,k l=some r∧l.length=m+1∧∀ j v,l[j]?=some v→v=(tm.get (i+j)).getD .dead:=by
   intro x hx h
   obtain⟨l,h1,h2,h3⟩:=wv m (i+1) _ h
   refine ⟨x::l,h1,by simp[h2],fun j v hj=>?_⟩
   cases j with
   | zero=>simp only[K9,K5] at hj;rw[←hj,←hx];rfl
   | succ j=>simp only[K8] at hj;rw[h3 j v hj];congr 2;omega
  split at h
  ·rename_i v hv;exact key v (by rw[hv];rfl) h
  ·rename_i hv;exact key .dead (by rw[hv];rfl) h
theorem Iv {m:Nm} {w:World} {tm:Tr AV} {a:Act} {l:List AV} {n:Nat} (hT:RT m w tm a) (hn:a.tmps.size=n) (hl:l.length=n) (h:∀ j v,l[j]?=some v→v=(tm.get (0+j)).getD .dead):RVs m w l a.tmps.toList:=by
 refine RVs.eH (by simp[hl,hn]) fun i v hi=>?_
 have hv:=h i v hi
 rw[Nat.zero_add] at hv
 have hil:i<l.length:=(List.getElem?_eq_some_iff.1 hi).1
 have hia:i<a.tmps.size:=by omega
 refine ⟨a.tmps[i],by simp[hia],?_⟩
 cases ht:tm.get i with
 | none=>rw[ht] at hv;rw[hv];show RV m w .dead _;rw[RV];trivial
 | some x=>
  rw[ht] at hv
  obtain⟨u,h1,h2⟩:=hT i x ht
  rw[hv]
  rw[Array.getElem?_eq_getElem hia] at h1
  cases h1
  exact h2
def yO (step:Tr AV→Hp→Option (Ex × Tr AV × Hp)):Nat→Tr AV→Hp→Option (Ex × Tr AV × Hp)
 | 0,_,_=>none
 | f+1,tm,st=>match step tm st with
  | some (.nrm,tm,st)=>yO step f tm st
  | r=>r
def xN (call:FuncId→List AV→Hp→Option (AV × Hp)) (hasB:FuncId→Bool) (n:Nat) (f:Operand) (ps:Array Tmp) (asg bod:Code) (tm:Tr AV) (st:Hp):Option (Ex × Tr AV × Hp):=
 match evO tm f with
 | .fn g caps=>match Nat.blt g 4294967296&&hasB g with
  | true=>tmL tm n 0 fun tl=>DD st (.lp .ready ps asg bod none::tl) fun b st1=>match call g (.yl b::caps) st1 with
   | some (_,st2)=>match st2.h.get b with
    | some (.lp s ps' asg' bod' jp::tl')=>match s with
     | .busy=>none
     | _=>sB st2 b (.lp .exhausted ps' asg' bod' jp::tl') fun st3=>match jp with
      | none=>some (.nrm,tm,st3)
      | some .ret=>some (.ret,tm,st3)
      | some (.exit id)=>some (.ext id,tm,st3)
      | _=>none
    | _=>none
   | none=>none
  | false=>none
 | _=>none
def dF (call:FuncId→List AV→Hp→Option (AV × Hp)) (hasB:FuncId→Bool) (reg:Array Oper→Bool→Tr AV→Hp→Option (Tr AV × Hp)) (n:Nat) (rf:Bool) (fuel:Nat):Code→Tr AV→Hp→Option (Ex × Tr AV × Hp)
 | .skip,tm,st=>some (.nrm,tm,st)
 | .label _,tm,st=>some (.nrm,tm,st)
 | .region _ ops draw,tm,st=>match reg ops draw tm st with
  | some (tm,st)=>some (.nrm,tm,st)
  | none=>none
 | .seq a b,tm,st=>match dF call hasB reg n rf fuel a tm st with
  | some (.nrm,tm,st)=>dF call hasB reg n rf fuel b tm st
  | r=>r
 | .cond c a b,tm,st=>match evO tm c with
  | .bool true=>dF call hasB reg n rf fuel a tm st
  | .bool false=>dF call hasB reg n rf fuel b tm st
  | _=>none
 | .block id body,tm,st=>match dF call hasB reg n rf fuel body tm st with
  | some (.ext i,tm,st)=>if i=id then some (.nrm,tm,st) else some (.ext i,tm,st)
  | r=>r
 | .loop body,tm,st=>yO (dF call hasB reg n rf fuel body) fuel tm st
 | .rangeFunc f ps a b,tm,st=>match rf with
  | true=>xN call hasB n f ps a b tm st
  | false=>none
 | .exit id,tm,st=>some (.ext id,tm,st)
 | .scope body,tm,st=>dF call hasB reg n rf fuel body tm st
 | .ret,tm,st=>some (.ret,tm,st)
 | _,_,_=>none
def BZ (P:Program) (chk:Array Oper→Bool) (n:Nat) (reg:Array Oper→Bool→Tr AV→Hp→Option (Tr AV × Hp)):Prop:=
 ∀ ops draw tm st tm' st',(!draw || chk ops)=true→reg ops draw tm st=some (tm',st')→Heaps st st'∧BN n tm st tm' st' fun a w K=>∀ ro id Q,(∀ a w,K a w→Q .normal a w)→(Code.region id ops draw).wpIn (Fw ro) 0 P Q a w
def BO (n:Nat) (tm:Tr AV) (st:Hp) (tm':Tr AV) (st':Hp) (W:Act→World→(Act→World→Prop)→Prop):Prop:=
 ∀ (B:Nat) (a:Act) (m:Nm) (w:World),RT m w tm a→RS m w st.h.get→Dom st→a.tmps.size=n→dA m st.nx st'.nx→B≤w.heap.size→pb B m st.h.get w a.defers→∀ K:Act→World→Prop,
  (∀ a' m' w',RT m' w' tm' a'→RS m' w' st'.h.get→a'.tmps.size=n→pb B m' st'.h.get w' a'.defers→To m st.h.get w m' st'.h.get w'→dp m m' st.nx st'.nx→K a' w')→W a w K
def fv (P:Program) (n:Nat) (rf:Bool) (c:Code) (tm:Tr AV) (st:Hp) (x:Ex) (tm':Tr AV) (st':Hp):Prop:=
 Heaps st st'∧BO n tm st tm' st' fun a w K=>∀ ro,(rf=true→ro=none)→∀ Q:Exit→Act→World→Prop,(∀ a w,K a w→Q (xf x) a w)→c.wpIn (Fw ro) 0 P Q a w
theorem jI {n:Nat} {rf:Bool} {c:Code} {tm:Tr AV} {st:Hp} {x:Ex} (h:∀ ro,∀ Q:Exit→Act→World→Prop,∀ a w,Q (xf x) a w→c.wpIn (Fw ro) 0 P Q a w):fv P n rf c tm st x tm st:=
 ⟨Heaps.rfl' _,fun B a m w hT hs _ hn _ _ hk K hK ro _ Q hQ=>h ro Q a w (hQ a w (hK a m w hT hs hn hk To.rfl' (dp.rfl' _ _ _)))⟩
theorem yP {n:Nat} {rf:Bool} {body:Code} {step:Tr AV→Hp→Option (Ex × Tr AV × Hp)} (hb:∀ tm st x tm' st',step tm st=some (x,tm',st')→fv P n rf body tm st x tm' st') :
  ∀ (f:Nat) (tm:Tr AV) (st:Hp) (x:Ex) (tm':Tr AV) (st':Hp),yO step f tm st=some (x,tm',st')→x≠.nrm∧Heaps st st' ∧
   BO n tm st tm' st' fun a w K=>∀ ro,(rf=true→ro=none)→∀ Q:Exit→Act→World→Prop,(∀ a w,K a w→Q (xf x) a w)→Code.roundsIn (Fw ro) 0 P body Q f a w
 | 0,tm,st,x,tm',st',h=>by cases h
 | f+1,tm,st,x,tm',st',h=>by
  rw[yO] at h
  split at h
  ·rename_i tm1 st1 h1
   obtain⟨h2,h3⟩:=hb _ _ _ _ _ h1
   obtain⟨h4,h5,h6⟩:=yP hb f tm1 st1 x tm' st' h
   refine ⟨h4,h2.comp h5,fun B a m w hT hs hd hn hf hB hk K hK ro hro Q hQ=>?_⟩
   rw[roundsIn_succ]
   refine h3 B a m w hT hs hd hn (hf.left h5.nx) hB hk (fun a w=>Code.roundsIn (Fw ro) 0 P body Q f a w) (fun a' m' w' q1 q2 q3 q4 q5 q6=>?_) ro hro _ fun a w h=>h
   exact h6 B a' m' w' q1 q2 (h2.dom hd) q3 (hf.right h2.nx q6) (Nat.le_trans hB q5.grow.1) q4 K (fun a2 m2 w2 r1 r2 r3 r4 r5 r6=>hK a2 m2 w2 r1 r2 r3 r4 (q5.comp r5) (q6.comp r6 h2.nx h5.nx)) ro hro Q hQ
  ·rename_i hne
   obtain⟨h2,h3⟩:=hb _ _ _ _ _ h
   have hx:x≠.nrm:=fun hx=>by subst hx;exact hne _ _ h
   refine ⟨hx,h2,fun B a m w hT hs hd hn hf hB hk K hK ro hro Q hQ=>?_⟩
   rw[roundsIn_succ]
   refine h3 B a m w hT hs hd hn hf hB hk K hK ro hro _ fun a w hk=>?_
   have:=hQ a w hk
   cases x with
   | nrm=>exact absurd rfl hx
   | ext id=>exact this
   | ret=>exact this
def tk (P:Program) (Q:Exit→Act→World→Prop) (a:Act) (w:World):Option Code→Prop
 | none=>Q .normal a w
 | some c=>c.wpIn (Fw none) 0 P Q a w
def IU (P : Program) (hasB : FuncId → Bool) : Prop := ∀ g, hasB g = true → ∃ fn, P.funcs[g]? = some fn ∧ fn.body.isNone = false ∧ (fn.name == "runtime.NumGoroutine") = false
theorem enters {P : Program} {g : FuncId} {fn : Func} (h1 : P.funcs[g]? = some fn) (h2 : fn.body.isNone = false) (h3 : (fn.name == "runtime.NumGoroutine") = false) (args : Array Value) (w : World) : (callFunc g args).run P w = .ok (.enter g args) w := by
 simp only[beq_eq_false_iff_ne,ne_eq] at h3
 have h2':fn.body≠none:=fun h=>by rw[h] at h2;cases h2
 simp[callFunc,h1,h2',h3]
theorem Eg {call:FuncId→List AV→Hp→Option (AV × Hp)} {hasB:FuncId→Bool} (hc:fE P call) (hB:IU P hasB) {n:Nat} {f:Operand} {ps:Array Tmp} {asg bod:Code} (hga:cL ff asg=true) (hgb:cL ff bod=true)
  {tm:Tr AV} {st:Hp} {x:Ex} {tm':Tr AV} {st':Hp} (h:xN call hasB n f ps asg bod tm st=some (x,tm',st')):fv P n true (.rangeFunc f ps asg bod) tm st x tm' st':=by
 unfold xN at h
 split at h
 ·rename_i g caps hf
  split at h
  ·rename_i hbg
   rw[Bool.and_eq_true] at hbg
   have hlt:g<yB:=Nat.le_of_ble_eq_true hbg.1
   obtain⟨fnG,b1,b2,b3⟩:=hB g hbg.2
   obtain⟨tl,h1,htlen,htl⟩:=wv n 0 _ h
   obtain⟨st1,h2,hg1,ho1,hnx1,hlo1⟩:=xC h1
   split at h2
   ·rename_i av st2 hcall
    split at h2
    ·rename_i s ps' asg' bod' jp tl' hrec
     have main:s≠.busy→sB st2 st.nx (.lp .exhausted ps' asg' bod' jp::tl') (fun st3=>match jp with
       | none=>some (Ex.nrm,tm,st3)
       | some .ret=>some (Ex.ret,tm,st3)
       | some (.exit id)=>some (Ex.ext id,tm,st3)
       | _=>none)=some (x,tm',st')→fv P n true (.rangeFunc f ps asg bod) tm st x tm' st':=by
      intro hsb h3
      obtain⟨st3,h4,hg3,ho3,hnx3,hlo3,hlt3⟩:=kX h3
      have hend:tm'=tm∧st'=st3∧(∀ (Q:Exit→Act→World→Prop) (a:Act) (w:World),Q (xf x) a w→tk P Q a w jp):=by
       split at h4
       ·simp only[K5,Prod.mk.injEq] at h4
        obtain⟨rfl,rfl,rfl⟩:=h4
        exact⟨rfl,rfl,fun Q a w h=>h⟩
       ·simp only[K5,Prod.mk.injEq] at h4
        obtain⟨rfl,rfl,rfl⟩:=h4
        exact⟨rfl,rfl,fun Q a w h=>wpIn_ret h⟩
       ·simp only[K5,Prod.mk.injEq] at h4
        obtain⟨rfl,rfl,rfl⟩:=h4
        exact⟨rfl,rfl,fun Q a w h=>wpIn_exit h⟩
       ·cases h4
      obtain⟨rfl,rfl,hend⟩:=hend
      obtain⟨hh2,h5⟩:Heaps st1 st2∧∀ (m:Nm) (w:World) (vals:List Value),RVs m w (.yl st.nx::caps) vals→RS m w st1.h.get→Dom st1→dA m st1.nx st2.nx →
        Calls P g vals.toArray w fun e w'=>∃ v m',e=.returned v∧RV m' w' av v∧RS m' w' st2.h.get∧To m st1.h.get w m' st2.h.get w'∧dp m m' st1.nx st2.nx:=by
       rcases (hc _ _ _ _ _ hcall).1 hlt with ⟨q1,_,q2⟩|⟨_,⟨fn,q1,q2⟩,_⟩
       ·exact⟨q1,q2⟩
       ·rw[b1] at q1;cases q1;rw[q2] at b2;cases b2
      have hh1:Heaps st st1:=dV ho1 hnx1 hlo1
      have hh3:Heaps st2 st':=dX ho3 hnx3 hlo3 fun hb'=>by omega
      refine ⟨(hh1.comp hh2).comp hh3,fun B a m w hT hs hd hn hfr hBw hk K hK ro hro Q hQ=>?_⟩
      rw[hro rfl]
      refine wpIn_rangeFunc ?_
      intro fn _
      have hfv:=uE hT f
      rw[hf,RV] at hfv
      obtain⟨lb,hfv,hlb⟩:=hfv
      obtain⟨u1,u2⟩:=uo hs ((Below.refl w.heap.size w).alloc (K6 _) (.deferred (some [])))
      have hnone:m st.nx=none:=hfr st.nx (K6 _) (by have:=hh2.nx;omega)
      obtain⟨rec,hrec'⟩:∃ rec:Loop,rec={ state:=.ready,pending:=none,fn,tmps:=a.tmps,params:=ps,assign:=asg,body:=bod,defers:=w.heap.size }:=⟨_,rfl⟩
      have hrvs:=Iv hT hn htlen htl
      obtain⟨v1,v2⟩:=u1.JB hnone hg1 ho1 (.loop rec) (.inr (.inr ⟨.ready,ps,asg,bod,none,tl,rec,rfl,rfl,⟨by rw[hrec'],by rw[hrec'],by rw[hrec'],by rw[hrec'],by rw[hrec'],hga,hgb⟩,by rw[hrec'];exact u2.rvs hrvs⟩))
      have hsz:(w.alloc (.deferred (some []))).heap.size=w.heap.size+1:=World.size_alloc _ _
      rw[hsz] at v1 v2
      have hto1:=u2.comp v2
      obtain⟨m1,hm1⟩:∃ m1:Nm,(fun i=>if i=st.nx then some (w.heap.size+1) else m i)=m1:=⟨_,rfl⟩
      rw[hm1] at v1 v2 hto1
      have hmb:m1 st.nx=some (w.heap.size+1):=by rw[←hm1];simp
      obtain⟨w1,hw1⟩:∃ w1,(w.alloc (.deferred (some []))).alloc (.loop rec)=w1:=⟨_,rfl⟩
      rw[hw1] at v1 v2 hto1
      have hD1:w1.heap[w.heap.size]?=some (.deferred (some [])):=by
       rw[←hw1];exact (Below.heap_alloc _ _ _ (by simp)).trans (World.alloc_heap_new w _)
      have hk1:pb B m1 st1.h.get w1 ([{ target:=.collected w.heap.size,args:=#[] }]++a.defers):=by
       have hk':=hk.to hto1
       refine ⟨fun d hd'=>?_,?_⟩
       ·rcases List.mem_append.1 hd' with h|h
        ·rw[List.mem_singleton] at h
         subst h
         refine ⟨w.heap.size,rfl,hBw,hD1,fun b hb hmb'=>?_⟩
         by_cases hbn:b=st.nx
         ·subst hbn;rw[hmb] at hmb';have:=Option.some.inj hmb';omega
         ·rw[ho1 b hbn] at hb
          rw[←hm1] at hmb'
          simp only[if_neg hbn] at hmb'
          have:=hs.lt hb hmb';omega
        ·exact hk'.1 d h
       ·refine List.pairwise_append.2 ⟨List.pairwise_singleton _ _,hk'.2,fun d hd1 d' hd2 he=>?_⟩
        rw[List.mem_singleton] at hd1
        subst hd1
        obtain⟨D,q1,_,q2,_⟩:=hk.1 d' hd2
        rw[←he] at q1
        cases q1
        have:=eR q2;omega
      have hsame1:dp m m1 st.nx st1.nx:=fun b hb=>by rw[←hm1];simp only;rw[if_neg (by omega)]
      refine ⟨w.heap.size+1,[{ target:=.collected w.heap.size,args:=#[] }],w1,{ target:=.fn (.func g) lb.toArray,args:=#[.func (.yield (w.heap.size+1)) #[] #[]] },w1,g,
       #[.func (.yield (w.heap.size+1)) #[] #[]]++lb.toArray,w1,?_,?_,fun _ _=>trivial,?_,fun h=>(by cases h),?_⟩
      ·rw[←hw1,hrec'];exact run_enterLoop_outer _ _ _ _ _
      ·simp only[resolve,hfv]
       simp[go_sem]
      ·simp[invoke,go_sem,enters b1 b2 b3]
      ·show CallsIn Fence.wide 0 P g _ w1 _
       refine callsIn_wide.2 ?_
       have hargs:RVs m1 w1 (.yl st.nx::caps) (.func (.yield (w.heap.size+1)) #[] #[]::lb):=by
        rw[RVs]
        exact⟨_,_,rfl,by rw[RV];exact⟨_,hmb,rfl⟩,hto1.rvs hlb⟩
       have hcc:=h5 m1 w1 _ hargs v1 (hh1.dom hd) (hfr.right hh1.nx hsame1 |>.left (by omega))
       rw[show (Value.func (.yield (w.heap.size+1)) #[] #[]::lb).toArray = #[.func (.yield (w.heap.size+1)) #[] #[]]++lb.toArray from Array.ext' (by simp)] at hcc
       refine hcc.mono ?_
       rintro e w2 ⟨v,m2,rfl,q1,q2,q3,q4⟩
       have hmb2:=q3.ext _ _ hmb
       obtain⟨r2,r3,r4,r5⟩:=q2.lp _ _ _ _ _ _ _ _ hrec hmb2
       have hst:r2.state≠.busy:=by rw[r4.eS];exact hsb
       have hfit:=tr (st':=st') (s':=.exhausted) (jp':=jp) q2 hrec hmb2 r3 r4 r5 hg3 ho3
       rw[←r4.eJ] at hfit
       refine ⟨r2.pending,w2.putObj (w.heap.size+1) (.loop { r2 with state:=.exhausted }),run_endLoop r3 hst,?_⟩
       have hto:=(hto1.comp q3).comp hfit.2
       show tk P Q _ _ r2.pending
       rw[show tk P Q { a with defers:=[{ target:=.collected w.heap.size,args:=#[] }]++a.defers } (w2.putObj (w.heap.size+1) (.loop { r2 with state:=.exhausted })) r2.pending=tk P Q { a with defers:=[{ target:=.collected w.heap.size,args:=#[] }]++a.defers } (w2.putObj (w.heap.size+1) (.loop { r2 with state:=.exhausted })) jp from congrArg _ r4.eJ]
       refine hend Q _ _ (hQ _ _ (hK { a with defers:=[{ target:=.collected w.heap.size,args:=#[] }]++a.defers } m2 _ (fun t av' ht=>?_) hfit.1 hn ((hk1.to q3).to hfit.2) hto ?_))
       ·obtain⟨u,e1,e2⟩:=hT t av' ht
        exact⟨u,e1,hto.rv e2⟩
       ·rw[hnx3]
        exact hsame1.comp q4 hh1.nx hh2.nx
     split at h2
     ·cases h2
     ·rename_i hne
      exact main (fun e=>hne e) h2
    ·cases h2
   ·cases h2
  ·cases h
 ·cases h
theorem yt {call:FuncId→List AV→Hp→Option (AV × Hp)} {hasB:FuncId→Bool} (hc:fE P call) (hB:IU P hasB) {reg:Array Oper→Bool→Tr AV→Hp→Option (Tr AV × Hp)} {n fuel:Nat} {rf:Bool} (hr:BZ P ff n reg) :
  ∀ (c:Code),cL ff c=true→∀ (tm:Tr AV) (st:Hp) (x:Ex) (tm':Tr AV) (st':Hp),dF call hasB reg n rf fuel c tm st=some (x,tm',st')→fv P n rf c tm st x tm' st':=by
 intro c
 induction c with
 | skip=>
  intro hg tm st x tm' st' h
  simp only[dF,K5,Prod.mk.injEq] at h
  obtain⟨rfl,rfl,rfl⟩:=h
  exact jI fun ro Q a w h=>wpIn_skip h
 | label l=>
  intro hg tm st x tm' st' h
  simp only[dF,K5,Prod.mk.injEq] at h
  obtain⟨rfl,rfl,rfl⟩:=h
  exact jI fun ro Q a w h=>wpIn_label h
 | exit id=>
  intro hg tm st x tm' st' h
  simp only[dF,K5,Prod.mk.injEq] at h
  obtain⟨rfl,rfl,rfl⟩:=h
  exact jI fun ro Q a w h=>wpIn_exit h
 | ret=>
  intro hg tm st x tm' st' h
  simp only[dF,K5,Prod.mk.injEq] at h
  obtain⟨rfl,rfl,rfl⟩:=h
  exact jI fun ro Q a w h=>wpIn_ret h
 | goto l=>intro _ tm st x tm' st' h;cases h
 | refuse s=>intro _ tm st x tm' st' h;cases h
 | rangeFunc f p a b=>
  intro hg tm st x tm' st' h
  simp only[cL,Bool.and_eq_true] at hg
  cases rf with
  | true=>exact Eg hc hB hg.1 hg.2 h
  | false=>cases h
 | region id ops draw=>
  intro hg tm st x tm' st' h
  rw[dF] at h
  split at h
  ·rename_i tm1 st1 h1
   simp only[K5,Prod.mk.injEq] at h
   obtain⟨rfl,rfl,rfl⟩:=h
   obtain⟨h2,h3⟩:=hr _ _ _ _ _ _ hg h1
   exact⟨h2,fun B a m w hT hs hd hn hf _ hk K hK ro _ Q hQ=>h3 a m w hT hs hd hn hf K (fun a' m' w' q1 q2 q3 q4 q5 q6=>hK a' m' w' q1 q2 q3 (by rw[q4];exact hk.to q5) q5 q6) ro id Q hQ⟩
  ·cases h
 | seq c1 c2 ih1 ih2=>
  intro hg tm st x tm' st' h
  rw[dF] at h
  split at h
  ·rename_i tm1 st1 h1
   obtain⟨h2,h3⟩:=ih1 (by simp only[cL,Bool.and_eq_true] at hg;exact hg.1) _ _ _ _ _ h1
   obtain⟨h4,h5⟩:=ih2 (by simp only[cL,Bool.and_eq_true] at hg;exact hg.2) _ _ _ _ _ h
   refine ⟨h2.comp h4,fun B a m w hT hs hd hn hf hB hk K hK ro hro Q hQ=>wpIn_seq ?_⟩
   refine h3 B a m w hT hs hd hn (hf.left h4.nx) hB hk (fun a w=>c2.wpIn (Fw ro) 0 P Q a w) (fun a' m' w' q1 q2 q3 q4 q5 q6=>?_) ro hro _ fun a w h=>h
   exact h5 B a' m' w' q1 q2 (h2.dom hd) q3 (hf.right h2.nx q6) (Nat.le_trans hB q5.grow.1) q4 K (fun a2 m2 w2 r1 r2 r3 r4 r5 r6=>hK a2 m2 w2 r1 r2 r3 r4 (q5.comp r5) (q6.comp r6 h2.nx h4.nx)) ro hro Q hQ
  ·rename_i hne
   obtain⟨h2,h3⟩:=ih1 (by simp only[cL,Bool.and_eq_true] at hg;exact hg.1) _ _ _ _ _ h
   have hx:x≠.nrm:=fun hx=>by subst hx;exact hne _ _ h
   refine ⟨h2,fun B a m w hT hs hd hn hf hB hk K hK ro hro Q hQ=>wpIn_seq ?_⟩
   refine h3 B a m w hT hs hd hn hf hB hk K hK ro hro _ fun a w hk=>?_
   have:=hQ a w hk
   cases x with
   | nrm=>exact absurd rfl hx
   | ext id=>exact this
   | ret=>exact this
 | cond c c1 c2 ih1 ih2=>
  intro hg tm st x tm' st' h
  rw[dF] at h
  split at h
  ·rename_i hc'
   obtain⟨h2,h3⟩:=ih1 (by simp only[cL,Bool.and_eq_true] at hg;exact hg.1) _ _ _ _ _ h
   exact⟨h2,fun B a m w hT hs hd hn hf hB hk K hK ro hro Q hQ=>wpIn_cond_true (by have:=uE hT c;rwa [hc',RV] at this) (h3 B a m w hT hs hd hn hf hB hk K hK ro hro Q hQ)⟩
  ·rename_i hc'
   obtain⟨h2,h3⟩:=ih2 (by simp only[cL,Bool.and_eq_true] at hg;exact hg.2) _ _ _ _ _ h
   exact⟨h2,fun B a m w hT hs hd hn hf hB hk K hK ro hro Q hQ=>wpIn_cond_false (by have:=uE hT c;rwa [hc',RV] at this) (h3 B a m w hT hs hd hn hf hB hk K hK ro hro Q hQ)⟩
  ·cases h
 | block id c ih=>
  intro hg tm st x tm' st' h
  rw[dF] at h
  split at h
  ·rename_i i tm1 st1 h1
   obtain⟨h2,h3⟩:=ih hg _ _ _ _ _ h1
   split at h
   ·rename_i hid
    simp only[K5,Prod.mk.injEq] at h
    obtain⟨rfl,rfl,rfl⟩:=h
    refine ⟨h2,fun B a m w hT hs hd hn hf hB hk K hK ro hro Q hQ=>wpIn_block (h3 B a m w hT hs hd hn hf hB hk K hK ro hro _ fun a w hk=>?_)⟩
    simp only[xf,Exit.inBlock,hid,if_true]
    exact hQ a w hk
   ·rename_i hid
    simp only[K5,Prod.mk.injEq] at h
    obtain⟨rfl,rfl,rfl⟩:=h
    refine ⟨h2,fun B a m w hT hs hd hn hf hB hk K hK ro hro Q hQ=>wpIn_block (h3 B a m w hT hs hd hn hf hB hk K hK ro hro _ fun a w hk=>?_)⟩
    simp only[xf,Exit.inBlock,hid,if_false]
    exact hQ a w hk
  ·rename_i hne
   obtain⟨h2,h3⟩:=ih hg _ _ _ _ _ h
   refine ⟨h2,fun B a m w hT hs hd hn hf hB hk K hK ro hro Q hQ=>wpIn_block (h3 B a m w hT hs hd hn hf hB hk K hK ro hro _ fun a w hk=>?_)⟩
   have:=hQ a w hk
   cases x with
   | nrm=>exact this
   | ext i=>exact absurd h (hne _ _ _)
   | ret=>exact this
 | loop c ih=>
  intro hg tm st x tm' st' h
  rw[dF] at h
  obtain⟨h1,h2,h3⟩:=yP (P:=P) (n:=n) (rf:=rf) (body:=c) (fun tm st x tm' st' h=>ih hg tm st x tm' st' h) fuel tm st x tm' st' h
  exact⟨h2,fun B a m w hT hs hd hn hf hB hk K hK ro hro Q hQ=>wpIn_loop_rounds fuel (h3 B a m w hT hs hd hn hf hB hk K hK ro hro Q hQ)⟩
 | scope c ih=>
  intro hg tm st x tm' st' h
  rw[dF] at h
  obtain⟨h2,h3⟩:=ih hg _ _ _ _ _ h
  refine ⟨h2,fun B a m w hT hs hd hn hf hB hk K hK ro hro Q hQ=>jY (h3 B a m w hT hs hd hn hf hB hk K hK ro hro _ fun a w hk=>?_)⟩
  have:=hQ a w hk
  cases x<;>exact this
def tJ (E:Env) (tm:Tr AV) (st:Hp):List ResultVar→(List AV→Option β)→Option β
 | [],k=>k []
 | .tmp t::l,k=>tJ E tm st l fun vs=>k ((tm.get t).getD .dead::vs)
 | .cell t ty::l,k=>match E.ty.get ty,tm.get t with
  | some ti,some (.ptr b o)=>match ti.agg with
   | true=>oz st b o ti.size fun cs=>tJ E tm st l fun vs=>k (.agg cs::vs)
   | false=>oz st b o 1 fun cs=>match cs with
    | [v]=>tJ E tm st l fun vs=>k (v::vs)
    | _=>none
  | _,_=>none
def wy:List AV→AV
 | [v]=>v
 | vs=>.tup vs
end
end Go.Sx
namespace Go.Sx
open LimbNum Go.RowKit
variable [Unk] [Glob]
section
variable {P : Program} {E : Env} {β : Type} {r : β}
def Be (tmps:Array Value):ResultVar→Sem Value
 | .tmp t=>pure (tmps.getD t undef)
 | .cell a t=>do loadVar t (←asAddr (tmps.getD a undef))
theorem xO (fn:Func) (tmps:Array Value):results fn tmps=(do
  let vs ←fn.results.mapM (Be tmps)
  pure (if h:vs.size=1 then vs[0] else .tuple vs)):=by
 unfold results
 congr 1
theorem oP (hty:∀ t ti,E.ty.get t=some ti→TyOK P t ti) {tm:Tr AV} {st:Hp}:∀ (l:List ResultVar) (k:List AV→Option β),tJ E tm st l k=some r →
  ∃ avs,k avs=some r∧avs.length=l.length∧∀ (a:Act) (m:Nm) (w:World),RT m w tm a→RS m w st.h.get→∃ vs,(l.mapM (Be a.tmps)).run P w=.ok vs w∧RVs m w avs vs
 | [],k,h=>⟨[],h,rfl,fun a m w _ _=>⟨[],by simp,by rw[RVs]⟩⟩
 | .tmp t::l,k,h=>by
  rw[tJ] at h
  obtain⟨avs,h1,h2,h3⟩:=oP hty l _ h
  refine ⟨_,h1,by simp[h2],fun a m w hT hs=>?_⟩
  obtain⟨vs,q1,q2⟩:=h3 a m w hT hs
  refine ⟨a.tmps.getD t undef::vs,?_,?_⟩
  ·simp[List.mapM_cons,Be,q1]
  ·rw[RVs]
   exact⟨_,_,rfl,uE hT (.tmp t),q2⟩
 | .cell t ty::l,k,h=>by
  rw[tJ] at h
  split at h
  ·rename_i ti b off hti htm
   obtain⟨i,d,z,h1,h2,h3,h4,h5,h6,h7,_⟩:=(hty _ _ hti).ex
   have hagg:=fun w=>jS h2 w
   rw[←h7] at hagg
   split at h
   ·rename_i hag
    rw[hag] at hagg
    obtain⟨cells,g1,g2,g3⟩:=gW h
    obtain⟨avs,e1,e2,e3⟩:=oP hty l _ g3
    refine ⟨_,e1,by simp[e2],fun a m w hT hs=>?_⟩
    obtain⟨vs,q1,q2⟩:=e3 a m w hT hs
    obtain⟨v,hv1,hv2⟩:=hT t _ htm
    rw[RV] at hv2
    obtain⟨rb,hm,rfl⟩:=hv2
    obtain⟨us,u1,u2,_⟩:=mV (P:=P) hs g1 hm g2
    rw[h4] at u1
    refine ⟨.agg us.toArray::vs,?_,?_⟩
    ·simp[List.mapM_cons,Be,Array.getD_eq_getD_getElem?,hv1,asAddr,loadVar,hagg,bR h1,u1,q1]
    ·rw[RVs]
     exact⟨_,_,rfl,by rw[RV];exact⟨us,rfl,u2⟩,q2⟩
   ·rename_i hag
    rw[hag] at hagg
    obtain⟨cells,g1,g2,g3⟩:=gW h
    split at g3
    ·rename_i av hcs
     obtain⟨avs,e1,e2,e3⟩:=oP hty l _ g3
     refine ⟨_,e1,by simp[e2],fun a m w hT hs=>?_⟩
     obtain⟨vs,q1,q2⟩:=e3 a m w hT hs
     obtain⟨v,hv1,hv2⟩:=hT t _ htm
     rw[RV] at hv2
     obtain⟨rb,hm,rfl⟩:=hv2
     obtain⟨us,u1,u2,u3⟩:=mV (P:=P) hs g1 hm g2
     obtain⟨u,rfl,u4⟩:=u3 rfl
     rw[hcs,RVs] at u2
     obtain⟨u',l',x1,x2,_⟩:=u2
     simp only[List.cons.injEq] at x1
     obtain⟨rfl,_⟩:=x1
     refine ⟨u::vs,?_,?_⟩
     ·simp[List.mapM_cons,Be,Array.getD_eq_getD_getElem?,hv1,asAddr,loadVar,hagg,load,Sem.run,u4,q1]
     ·rw[RVs]
      exact⟨_,_,rfl,x2,q2⟩
    ·cases g3
  ·cases h
theorem xP {fn:Func} {a:Act} {m:Nm} {w:World} {avs:List AV} {vs:List Value} (h:(fn.results.toList.mapM (Be a.tmps)).run P w=.ok vs w) (hv:RVs m w avs vs) :
  ∃ v,(results fn a.tmps).run P w=.ok v w∧RV m w (wy avs) v:=by
 refine ⟨match vs with|[v]=>v|vs=>.tuple vs.toArray,?_,?_⟩
 ·rw[xO,Array.mapM_eq_mapM_toList]
  simp only[Sem.run_bind,Sem.run_map,h,Result.andThen_ok]
  match vs with
  | []=>simp
  | [v]=>simp
  | v::u::l=>simp
 ·match avs,vs,hv with
  | [],vs,hv=>rw[RVs] at hv;subst hv;simp only[wy];rw[RV];exact⟨[],rfl,by rw[RVs]⟩
  | [x],vs,hv=>
   rw[RVs] at hv
   obtain⟨v,l,rfl,h2,h3⟩:=hv
   rw[RVs] at h3
   subst h3
   exact h2
  | x::y::l,vs,hv=>
   have hlen:=hv.length
   match vs,hv,hlen with
   | [],hv,hlen=>simp at hlen
   | [v],hv,hlen=>simp at hlen
   | v::u::l',hv,_=>simp only[wy];rw[RV];exact⟨_,rfl,hv⟩
def yF:List AV→Nat→Tr AV→(Tr AV→Option β)→Option β
 | [],_,tm,k=>k tm
 | a::l,i,tm,k=>Tr.jB Tr.depth tm i (some a) fun tm=>yF l (i+1) tm k
theorem kL:∀ (l:List AV) (i:Nat) (tm:Tr AV) (k:Tr AV→Option β),yF l i tm k=some r→∃ tm',k tm'=some r∧∀ t,tm'.get t=if i≤t∧t<i+l.length then l[t-i]? else tm.get t
 | [],i,tm,k,h=>⟨tm,h,fun t=>by rw[if_neg (by simp only[List.length_nil];omega)]⟩
 | a::l,i,tm,k,h=>by
  obtain⟨t1,h1,h2,h3⟩:=Tr.dy _ _ _ _ _ _ h
  obtain⟨tm',h4,h5⟩:=kL l (i+1) t1 k h1
  refine ⟨tm',h4,fun t=>?_⟩
  rw[h5]
  simp only[List.length_cons]
  by_cases ht:t=i
  ·subst ht
   rw[if_neg (by omega),if_pos (by omega),h2]
   simp
  ·by_cases h6:i+1≤t∧t<i+1+l.length
   ·rw[if_pos h6,if_pos (by omega),show t-i=(t-(i+1))+1 by omega]
    simp
   ·rw[if_neg h6,if_neg (by omega),h3 t ht]
def zf (n:Nat):List Tmp→List AV→Tr AV→(Tr AV→Option β)→Option β
 | p::ps,a::as,tm,k=>xM n (some p) a tm fun tm=>zf n ps as tm k
 | _,_,tm,k=>k tm
theorem qp {n:Nat}:∀ (ps:List Tmp) (as:List AV) (tm:Tr AV) (k:Tr AV→Option β),zf n ps as tm k=some r →
  ∃ tm',k tm'=some r∧∀ (m:Nm) (w:World) (vs:List Value) (T:Array Value),RVs m w as vs→RT m w tm { tmps:=T,defers:=[] }→T.size=n →
   RT m w tm' { tmps:=(ps.zip vs).foldl (fun t (p,v)=>t.setIfInBounds p v) T,defers:=[] }∧((ps.zip vs).foldl (fun t (p,v)=>t.setIfInBounds p v) T).size=n
 | [],as,tm,k,h=>by
  refine ⟨tm,(by cases as<;>exact h),fun m w vs T _ hT hn=>?_⟩
  simp only[List.zip_nil_left,List.foldl_nil]
  exact⟨hT,hn⟩
 | p::ps,[],tm,k,h=>by
  refine ⟨tm,h,fun m w vs T hv hT hn=>?_⟩
  rw[RVs] at hv
  subst hv
  simp only[List.zip_nil_right,List.foldl_nil]
  exact⟨hT,hn⟩
 | p::ps,a::as,tm,k,h=>by
  rw[zf] at h
  obtain⟨tm1,h1,h2⟩:=ic h
  obtain⟨tm',h3,h4⟩:=qp ps as tm1 k h1
  refine ⟨tm',h3,fun m w vs T hv hT hn=>?_⟩
  rw[RVs] at hv
  obtain⟨v,vs',rfl,hv1,hv2⟩:=hv
  have hT1:RT m w tm1 { tmps:=T.setIfInBounds p v,defers:=[] }:=hT.put (a:={ tmps:=T,defers:=[] }) h2 hn hv1
  have:=h4 m w vs' (T.setIfInBounds p v) hv2 hT1 (by simpa using hn)
  simpa only[List.zip_cons_cons,List.foldl_cons] using this
def Kx (x:Ex) (k:LoopState→Bool→Option Code→Option β):Option β:=match x with
 | .nrm=>k .ready true none
 | .ret=>k .done false (some .ret)
 | .ext id=>k .done false (some (.exit id))
theorem Ao {x:Ex} {k:LoopState→Bool→Option Code→Option β} (h:Kx x k=some r):∃ s v jp,k s v jp=some r∧v=jp.isNone∧s=(if jp.isNone then .ready else .done) ∧
  ∀ (l:Nat) (R:Ending→World→Prop) (a:Act) (w:World),(∃ v w',(Instr.endRound l jp).run P w=.ok v w'∧R (.returned v) w')→roundPost P l R (xf x) a w:=by
 cases x with
 | nrm=>exact⟨_,_,_,h,rfl,rfl,fun l R a w h=>h⟩
 | ret=>exact⟨_,_,_,h,rfl,rfl,fun l R a w h=>h⟩
 | ext id=>exact⟨_,_,_,h,rfl,rfl,fun l R a w h=>h⟩
def xS (run:Nat→Code→Tr AV→Hp→Option (Ex × Tr AV × Hp)) (b:Nat) (args:List AV) (st:Hp):Option (AV × Hp):=
 match st.h.get b with
 | some (.lp .ready ps asg bod none::tl)=>match cL ff asg&&cL ff bod&&Nat.beq args.length ps.size with
  | true=>yF tl 0 .lf fun tm0=>zf tl.length ps.toList args tm0 fun tm=>match run tl.length asg tm st with
   | some (.nrm,tm1,st1)=>match st1.h.get b with
    | some (.lp .ready ps1 asg1 bod1 jp1::tl1)=>sB st1 b (.lp .busy ps1 asg1 bod1 jp1::tl1) fun st2=>match run tl.length bod tm1 st2 with
     | some (x,_,st3)=>match st3.h.get b with
      | some (.lp _ ps3 asg3 bod3 _::tl3)=>Kx x fun s v jp=>sB st3 b (.lp s ps3 asg3 bod3 jp::tl3) fun st4=>some (.bool v,st4)
      | _=>none
     | none=>none
    | _=>none
   | _=>none
  | false=>none
 | _=>none
theorem El {run:Nat→Code→Tr AV→Hp→Option (Ex × Tr AV × Hp)} (hrun:∀ n c tm st x tm' st',cL ff c=true→run n c tm st=some (x,tm',st')→fv P n false c tm st x tm' st') {b:Nat} {args:List AV} {st st':Hp} {av:AV}
  (h:xS run b args st=some (av,st')):Heaps st st'∧∀ (m:Nm) (w:World) (vals:List Value) (rb:Nat),m b=some rb→RVs m w args vals→RS m w st.h.get→Dom st→dA m st.nx st'.nx →
  ∃ f tmps asg bod,(Instr.yield rb vals.toArray).run P w=.ok (.round rb f tmps asg bod) w∧RoundIn (Fw none) 0 P rb f tmps asg bod w
   fun e w'=>∃ v m',e=.returned v∧RV m' w' av v∧RS m' w' st'.h.get∧To m st.h.get w m' st'.h.get w'∧dp m m' st.nx st'.nx:=by
 unfold xS at h
 split at h
 ·rename_i ps asg bod tl hrec
  split at h
  ·rename_i hck
   simp only[Bool.and_eq_true] at hck
   obtain⟨⟨hga,hgb⟩,hlen⟩:=hck
   have hlen:=Nat.eq_of_beq_eq_true hlen
   obtain⟨tm0,h1,h2⟩:=kL _ _ _ _ h
   obtain⟨tm,h3,h4⟩:=qp _ _ _ _ h1
   split at h3
   ·rename_i tm1 st1 hasg
    obtain⟨hA1,hA2⟩:=hrun _ _ _ _ _ _ _ hga hasg
    split at h3
    ·rename_i ps1 asg1 bod1 jp1 tl1 hrec1
     obtain⟨st2,h5,g1,g2,g3,g4,g5⟩:=kX h3
     split at h5
     ·rename_i x tm3 st3 hbod
      obtain⟨hB1,hB2⟩:=hrun _ _ _ _ _ _ _ hgb hbod
      split at h5
      ·rename_i s3 ps3 asg3 bod3 jp3 tl3 hrec3
       obtain⟨s,v,jp,h6,hv,hsx,hpost⟩:=Ao (P:=P) h5
       obtain⟨st4,h7,k1,k2,k3,k4,k5⟩:=kX h6
       simp only[K5,Prod.mk.injEq] at h7
       obtain⟨rfl,rfl⟩:=h7
       have hh1:Heaps st1 st2:=dX g2 g3 g4 fun hb'=>by omega
       have hh2:Heaps st3 st4:=dX k2 k3 k4 fun hb'=>by omega
       refine ⟨((hA1.comp hh1).comp hB1).comp hh2,fun m w vals rb hmb hvals hs hd hfr=>?_⟩
       obtain⟨r0,e1,e2,e3⟩:=hs.lp _ _ _ _ _ _ _ _ hrec hmb
       have hvl:=hvals.length
       have hy:=run_yield (P:=P) (args:=vals.toArray) e1 (by rw[e2.eP];simp;omega)
       refine ⟨_,_,_,_,hy,roundIn_of_wpIn (F:=Fw none) trivial ?_⟩
       show r0.assign.wpIn (Fw (some rb)) 0 P _ _ w
       rw[e2.eA,e2.eB,e2.eP]
       have hsz:r0.tmps.size=tl.length:=by rw[e3.length];simp
       have hT0:RT m w tm0 { tmps:=r0.tmps,defers:=[] }:=fun t x ht=>by
        rw[h2] at ht
        split at ht
        ·rw[Nat.sub_zero] at ht
         obtain⟨u,q1,q2⟩:=e3.get ht
         exact⟨u,by simpa using q1,q2⟩
        ·rw[Tr.ju] at ht;cases ht
       obtain⟨hT,hTs⟩:=h4 m w vals r0.tmps hvals hT0 hsz
       have efold:(ps.zip vals.toArray).foldl (fun t (p,v)=>t.setIfInBounds p v) r0.tmps=(ps.toList.zip vals).foldl (fun t (p,v)=>t.setIfInBounds p v) r0.tmps:=by
        rw[←Array.foldl_toList];simp
       rw[efold]
       have n1:=hA1.nx
       have n2:=hB1.nx
       refine hA2 0 _ m w hT hs hd hTs (hfr.left (by omega)) (Nat.zero_le _) (pb.nil _ _ _ _) (fun a1 w1=>∃ w2,(Instr.beginRound rb).run P w1=.ok () w2∧bod.wpIn (Fw (some rb)) 0 P (roundPost P rb _) a1 w2) (fun a1 m1 w1 q1 q2 q3 q4 q5 q6=>?_) (some rb) (fun h=>(by cases h)) _ (fun a1 w1 hx=>hx)
       have hmb1:=q5.ext _ _ hmb
       obtain⟨r1,f1,f2,f3⟩:=q2.lp _ _ _ _ _ _ _ _ hrec1 hmb1
       have hfit:=tr (st':=st2) (s':=.busy) (jp':=jp1) q2 hrec1 hmb1 f1 f2 f3 g1 g2
       rw[←f2.eJ] at hfit
       refine ⟨_,run_beginRound f1 f2.eS,?_⟩
       have t1:=q5.comp hfit.2
       have hfr2:dA m1 st2.nx st3.nx:=by
        rw[g3]
        exact (hfr.right hA1.nx q6).left (by omega)
       refine hB2 0 a1 m1 _ (fun t x ht=>?_) hfit.1 (hh1.dom (hA1.dom hd)) q3 hfr2 (Nat.zero_le _) (q4.to hfit.2) (fun a3 w3=>∃ v w',(Instr.endRound rb jp).run P w3=.ok v w'∧∃ v' m',Ending.returned v=.returned v'∧RV m' w' _ v'∧RS m' w' st4.h.get∧To m st.h.get w m' st4.h.get w'∧dp m m' st.nx st4.nx) (fun a3 m3 w3 p1 p2 p3 _ p5 p6=>?_) (some rb) (fun h=>(by cases h)) _ (fun a3 w3 hx=>hpost rb _ a3 w3 hx)
       ·obtain⟨u,z1,z2⟩:=q1 t x ht
        exact⟨u,z1,hfit.2.rv z2⟩
       have hmb3:=p5.ext _ _ hmb1
       obtain⟨r3,y1,y2,y3⟩:=p2.lp _ _ _ _ _ _ _ _ hrec3 hmb3
       have hfit3:=tr (st':=st4) (s':=s) (jp':=jp) p2 hrec3 hmb3 y1 y2 y3 k1 k2
       rw[hsx] at hfit3
       refine ⟨_,_,run_endRound jp y1,_,m3,rfl,?_,hfit3.1,((t1.comp p5).comp hfit3.2),?_⟩
       ·rw[hv,RV]
       ·rw[k3]
        exact q6.comp (by rw[←g3];exact p6) hA1.nx (by omega)
      ·cases h5
     ·cases h5
    ·cases h3
   ·cases h3
  ·cases h
 ·cases h
def Da (E:Env) (g:FuncId):Bool:=match E.fn.get g with
 | some _=>true
 | none=>false
def lD (E:Env) (fuel:Nat) (reg:(FuncId→List AV→Hp→Option (AV × Hp))→Nat→Array Oper→Bool→Tr AV→Hp→Option (Tr AV × Hp)):Nat→FuncId→List AV→Hp→Option (AV × Hp)
 | 0,_,_,_=>none
 | d+1,f,args,st=>match Nat.ble 4294967296 f with
  | true=>xS (fun n c tm st=>dF (lD E fuel reg d) (Da E) (reg (lD E fuel reg d) n) n false fuel c tm st) (f-4294967296) args st
  | false=>match E.ext f args with
   | some av=>gm av fun av=>some (av,st)
   | none=>match E.fn.get f with
   | none=>none
   | some (n,res,code)=>match E.prim f st.h args with
    | some av=>gm av fun av=>some (av,st)
    | none=>if args.length≤n then yF args 0 .lf fun tm=>match dF (lD E fuel reg d) (Da E) (reg (lD E fuel reg d) n) n true fuel code tm st with
      | some (.nrm,tm,st)=>tJ E tm st res fun vs=>some (wy vs,st)
      | some (.ret,tm,st)=>tJ E tm st res fun vs=>some (wy vs,st)
      | _=>none
     else none
def tZ (P:Program) (E:Env) (chk:Array Oper→Bool):Prop:=
 ∀ f n res code, E.fn.get f = some (n, res, code) → ∃ fn, P.funcs[f]? = some fn ∧ fn.body = some code ∧ fn.ntmps = n ∧ fn.results.toList = res ∧ (fn.name == "runtime.NumGoroutine") = false ∧ cL chk code = true
def fG (P:Program) (E:Env):Prop:=
 (∀ f args av,E.ext f args=some av→(∃ fn,P.funcs[f]?=some fn∧fn.body=none)∧∀ (m:Nm) (w:World) (vals:List Value),RVs m w args vals→∃ v,(callFunc f vals.toArray).run P w=.ok (.value v) w∧RV m w av v) ∧
 ∀ f h args av,E.prim f h args=some av→∀ (m:Nm) (w:World) (vals:List Value),RVs m w args vals→RS m w h.get →
  Calls P f vals.toArray w fun e w'=>∃ v,e=.returned v∧RV m w' av v∧Below w.heap.size w w'
theorem nG.kp {m:Nm} {w w':World} (hg:Grow w w') (hu:U64 w w') {cells:List AV} {o:Obj} (hb:nG m w cells o):nG m w' cells o:=by
 rcases hb with ⟨h1,c,e,rfl,h3,h4,h5⟩|⟨es,l,en,ck,rfl,rfl,h3⟩|⟨s,ps,asg,bod,jp,tl,r,rfl,rfl,h3,h4⟩
 ·exact .inl ⟨h1,c,e,rfl,h3,fun i a ha=>(by obtain⟨v,q1,q2⟩:=h4 i a ha;exact⟨v,q1,RV.keep (Ext.rfl' _) hg hu a v q2⟩),h5⟩
 ·exact .inr (.inl ⟨es,l,en,ck,rfl,rfl,RVs.keep (Ext.rfl' _) hg hu _ _ h3⟩)
 ·exact .inr (.inr ⟨s,ps,asg,bod,jp,tl,r,rfl,rfl,h3,RVs.keep (Ext.rfl' _) hg hu _ _ h4⟩)
theorem CA {m0 m:Nm} {h0 h:Hf} {w0 w:World} {D:Nat} {o o':Obj} (hs:RS m w h) (t:To m0 h0 w0 m h w) (hD:w.heap[D]?=some o) (hno:∀ c e f,o≠.cells c e f) (hn:∀ b,h b≠none→m b≠some D) (hlt:w0.heap.size≤D) :
  RS m (w.putObj D o') h∧To m0 h0 w0 m h (w.putObj D o')∧Grow w (w.putObj D o')∧U64 w (w.putObj D o')∧∀ k,k≠D→(w.putObj D o').heap[k]?=w.heap[k]?:=by
 have hne:∀ k,k≠D→(w.putObj D o').heap[k]?=w.heap[k]?:=fun k hk=>World.putObj_heap_other hk
 generalize hw':w.putObj D o'=w' at *
 have henv:eT w w':=by subst hw';exact⟨rfl,rfl,rfl⟩
 have hsz:w'.heap.size=w.heap.size:=by subst hw';exact World.putObj_size
 have hg:Grow w w':=⟨by omega,fun k c e f hk=>by
  by_cases hkr:k=D
  ·subst hkr;rw[hD] at hk;exact absurd (Option.some.inj hk) (hno _ _ _)
  ·exact⟨c,f,by rw[hne k hkr];exact hk,rfl⟩⟩
 have hu:U64 w w':=fun a n ha=>by
  unfold World.cell? at ha ⊢
  by_cases hab:a.block=D
  ·rw[hab,hD] at ha
   cases o<;>first|exact absurd rfl (hno _ _ _)|(simp at ha)
  ·rw[hne _ hab];exact ha
 refine ⟨⟨fun b cs rb hb hm=>?_,hs.inj,fun g as hga=>?_⟩,⟨t.ext,t.grow.comp hg,t.u64.comp hu,t.env.comp henv,fun rb hr hx=>?_,t.img⟩,hg,hu,hne⟩
 ·obtain⟨ob,q1,q2⟩:=hs.obj b cs rb hb hm
  have hrb:rb≠D:=fun e=>hn b (by rw[hb];simp) (e ▸ hm)
  exact⟨ob,by rw[hne rb hrb];exact q1,q2.kp hg hu⟩
 ·obtain⟨⟨c,e,q1,q2⟩,q3⟩:=hs.glob g as hga
  have hgD:g≠D:=fun e'=>by subst e';rw[hD] at q1;exact absurd (Option.some.inj q1) (hno _ _ _)
  exact⟨⟨c,e,by rw[hne g hgD];exact q1,q2⟩,q3⟩
 ·rw[hne rb (by omega)];exact t.keep rb hr hx
theorem rY {fn:Func} {tmps:Array Value} {R:Ending→World→Prop} {B:Nat} {m0 m:Nm} {h0 h:Hf} {w0:World} (hB:w0.heap.size≤B):∀ (ds:List Deferred) (w:World),pb B m h w ds→RS m w h→To m0 h0 w0 m h w →
  (∀ w',RS m w' h→To m0 h0 w0 m h w'→Grow w w'→U64 w w'→∃ v,(results fn tmps).run P w'=.ok v w'∧R (.returned v) w')→LeavesInM (Fw none) 0 P fn tmps R ds .returning w
 | [],w,hk,hs,t,hR=>hR w hs t (Grow.rfl' _) (U64.rfl' _)
 | d::ds,w,hk,hs,t,hR=>by
  obtain⟨D,rfl,h1,h2,h3⟩:=hk.1 d List.mem_cons_self
  obtain⟨c1,c2,c3,c4,c5⟩:=CA (o':=.deferred none) hs t h2 (fun c e f=>by simp) h3 (Nat.le_trans hB h1)
  refine ⟨by simp,.inl ⟨D,_,rfl,run_takeDeferred h2,rY hB ds _ ⟨fun d hd=>?_,(List.pairwise_cons.1 hk.2).2⟩ c1 c2 fun w' q1 q2 q3 q4=>hR w' q1 q2 (c3.comp q3) (c4.comp q4)⟩⟩
  obtain⟨D',rfl,e1,e2,e3⟩:=hk.1 d (List.mem_cons_of_mem _ hd)
  have hne:D'≠D:=fun e=>(List.pairwise_cons.1 hk.2).1 _ hd (by rw[e])
  exact⟨D',rfl,e1,by rw[c5 D' hne];exact e2,e3⟩
theorem uu {fuel:Nat} {reg:(FuncId→List AV→Hp→Option (AV × Hp))→Nat→Array Oper→Bool→Tr AV→Hp→Option (Tr AV × Hp)} (hty:∀ t ti,E.ty.get t=some ti→TyOK P t ti) (hfn:tZ P E ff) (hpr:fG P E)
  (hreg:∀ call n,fE P call→BZ P ff n (reg call n)):∀ d,fE P (lD E fuel reg d)
 | 0=>fun g args st av st' h=>by cases h
 | d+1=>fun g args st av st' h=>by
  have ih:=uu (fuel:=fuel) hty hfn hpr hreg d
  have hB:IU P (Da E):=fun g hg=>by
   unfold Da at hg
   split at hg
   ·rename_i p hp
    obtain⟨n,res,code⟩:=p
    obtain⟨fn,f1,f2,f3,f4,f5,f6⟩:=hfn _ _ _ _ hp
    exact⟨fn,f1,by rw[f2];rfl,f5⟩
   ·cases hg
  rw[lD] at h
  split at h
  ·rename_i hb
   have hb:=Nat.le_of_ble_eq_true hb
   refine ⟨fun hlt=>absurd hlt (Nat.not_lt.2 hb),fun b hgb=>?_⟩
   rw[show g-4294967296=b from by rw[hgb];exact Nat.add_sub_cancel_left 4294967296 b] at h
   exact El (fun n c tm st x tm' st' hg hr=>yt ih hB (hreg _ n ih) c hg tm st x tm' st' hr) h
  rename_i hb
  refine ⟨fun _=>?_,fun b hgb=>?_⟩
  rotate_left
  ·have hb':¬(4294967296≤g):=fun h=>by rw[Nat.ble_eq_true_of_le h] at hb;cases hb
   exact absurd (by rw[hgb];exact Nat.le_add_right _ _) hb'
  split at h
  ·rename_i av' hx
   rw[kJ] at h
   simp only[K5,Prod.mk.injEq] at h
   obtain⟨rfl,rfl⟩:=h
   exact .inr ⟨rfl,(hpr.1 _ _ _ hx).1,fun m w vals hv=>(hpr.1 _ _ _ hx).2 m w vals hv⟩
  refine .inl ?_
  split at h
  ·cases h
  ·rename_i n res code hf
   obtain⟨fn,f1,f2,f3,f4,f5,f6⟩:=hfn _ _ _ _ hf
   split at h
   ·rename_i av' hp
    rw[kJ] at h
    simp only[K5,Prod.mk.injEq] at h
    obtain⟨rfl,rfl⟩:=h
    refine ⟨Heaps.rfl' _,⟨fn,f1,by rw[f2];rfl,f5⟩,fun m w vals hv hs _ _=>?_⟩
    refine (hpr.2 _ _ _ _ hp m w vals hv hs).mono ?_
    rintro e w' ⟨v,rfl,q1,q2⟩
    obtain⟨q3,q4⟩:=uo hs q2
    exact⟨v,m,rfl,q1,q3,q4,dp.rfl' _ _ _⟩
   ·split at h
    ·rename_i hle
     obtain⟨tm,h1,h2⟩:=kL _ _ _ _ h
     have main:∀ (x:Ex) (tm':Tr AV) (st1:Hp),dF (lD E fuel reg d) (Da E) (reg (lD E fuel reg d) n) n true fuel code tm st=some (x,tm',st1)→(x=.nrm∨x=.ret)→(tJ E tm' st1 res fun vs=>some (wy vs,st1))=some (av,st') →
       Heaps st st' ∧ (∃ fn, P.funcs[g]? = some fn ∧ fn.body.isNone = false ∧ (fn.name == "runtime.NumGoroutine") = false) ∧
       ∀ (m:Nm) (w:World) (vals:List Value),RVs m w args vals→RS m w st.h.get→Dom st→dA m st.nx st'.nx →
        Calls P g vals.toArray w fun e w'=>∃ v m',e=.returned v∧RV m' w' av v∧RS m' w' st'.h.get∧To m st.h.get w m' st'.h.get w'∧dp m m' st.nx st'.nx:=by
      intro x tm' st1 hcode hx hres
      obtain⟨g1,g2⟩:=yt ih hB (hreg _ n ih) code f6 tm st x tm' st1 hcode
      obtain⟨avs,e1,e2,e3⟩:=oP hty res _ hres
      simp only[K5,Prod.mk.injEq] at e1
      obtain⟨rfl,rfl⟩:=e1
      refine ⟨g1,⟨fn,f1,by rw[f2];rfl,f5⟩,fun m w vals hv hs hd hfr=>?_⟩
      have hlen:=hv.length
      refine (callsIn_wide (n:=0)).1 (callsIn_of_wp_marks f1 f2 trivial ?_)
      rw[f3]
      have hT:RT m w tm { tmps:=vals.toArray++Array.replicate (n-vals.toArray.size) undef,defers:=[] }:=fun t a ht=>by
       rw[h2] at ht
       split at ht
       ·rename_i htl
        rw[Nat.sub_zero] at ht
        obtain⟨v,q1,q2⟩:=hv.get ht
        refine ⟨v,?_,q2⟩
        have:t<vals.length:=(List.getElem?_eq_some_iff.1 q1).1
        show (vals.toArray++_)[t]?=_
        rw[Array.getElem?_append_left (by simpa using this)]
        simpa using q1
       ·rw[Tr.ju] at ht;cases ht
      refine g2 w.heap.size _ m w hT hs hd (by simp;omega) hfr (K6 _) (pb.nil _ _ _ _) (fun a' w'=>LeavesInM (Fw none) 0 P fn a'.tmps (fun e w'=>∃ v m',e=.returned v∧RV m' w' (wy avs) v∧RS m' w' st1.h.get∧To m st.h.get w m' st1.h.get w'∧dp m m' st.nx st1.nx) a'.defers .returning w')
       (fun a' m' w' q1 q2 q3 q4 q5 q6=>?_) none (fun _=>rfl) (bodyPostM (Fw none) 0 P fn fun e w'=>∃ v m',e=.returned v∧RV m' w' (wy avs) v∧RS m' w' st1.h.get∧To m st.h.get w m' st1.h.get w'∧dp m m' st.nx st1.nx) fun a' w' hk=>?_
      ·refine rY (K6 _) a'.defers w' q4 q2 q5 fun w2 r1 r2 r3 r4=>?_
       obtain⟨vs,u1,u2⟩:=e3 a' m' w2 (fun t x ht=>(by obtain⟨u,z1,z2⟩:=q1 t x ht;exact⟨u,z1,RV.keep (Ext.rfl' _) r3 r4 _ _ z2⟩)) r1
       rw[←f4] at u1
       obtain⟨v,u3,u4⟩:=xP u1 u2
       exact⟨v,u3,v,m',rfl,u4,r1,r2,q6⟩
      ·rcases hx with rfl|rfl
       ·exact hk
       ·exact hk
     split at h1
     ·exact main _ _ _ ‹_› (.inl rfl) h1
     ·exact main _ _ _ ‹_› (.inr rfl) h1
     ·cases h1
    ·cases h
end
end Go.Sx
