import Derived.Test.YtnjcdpfibmckmaaGreatDoorSy1
set_option linter.unusedSectionVars false
set_option linter.unusedVariables false
set_option linter.unusedSimpArgs false
namespace Go.Sx
open LimbNum DigNum Go.RowKit
theorem ic {x y:Rat}:x≤y↔sg x y≤0:=by
 rw[Rat.le_iff_sub_nonneg,←Rat.num_nonneg]
 have h:sg x y = - sg y x:=gB y x
 unfold sg at *
 rw[h]
 have:=@Int.sign_nonneg_iff (y-x).num
 omega
theorem dI (x y:Rat):sg x y = -1∨sg x y=0∨sg x y=1:=by
 unfold sg
 rcases Int.lt_trichotomy (x-y).num 0 with h|h|h
 ·exact .inl (Int.sign_eq_neg_one_of_neg h)
 ·exact .inr (.inl (by rw[h];rfl))
 ·exact .inr (.inr (Int.sign_eq_one_of_pos h))
def nf0 (T:PT) (a b:SE):SE:=match T.look a b with
 | some (.ofNat n)=>match n with
  | 0=>a
  | _+1=>b
 | some (.negSucc _)=>a
 | none=>.bin 0 a b
def nf1 (T:PT) (a b:SE):SE:=match T.look a b with
 | some (.ofNat _)=>a
 | some (.negSucc _)=>b
 | none=>.bin 1 a b
def le0:Int→Bool
 | .ofNat 0=>true
 | .ofNat (_+1)=>false
 | .negSucc _=>true
def ge0:Int→Bool
 | .ofNat _=>true
 | .negSucc _=>false
def nfB (T:PT) (k:Nat) (a b:SE):SE:=match k with
 | 0=>nf0 T a b
 | 1=>nf1 T a b
 | 2=>match T.look a (.int 0),T.look b (.int 0) with
  | some s,some t=>match le0 s&&ge0 t with
   | true=>.int 0
   | false=>nf0 T (.mul a a) (.mul b b)
  | _,_=>.bin 2 a b
 | 3=>nf1 T (.mul b b) (.mul a a)
 | k=>.bin k a b
def nf (T:PT):SE→SE
 | .v i=>.v i
 | .int n=>.int n
 | .add a b=>.add (nf T a) (nf T b)
 | .sub a b=>.sub (nf T a) (nf T b)
 | .mul a b=>.mul (nf T a) (nf T b)
 | .quo a b=>.quo (nf T a) (nf T b)
 | .neg a=>.neg (nf T a)
 | .bin k a b=>nfB T k (nf T a) (nf T b)
section
variable {ρ : Nat → Rat} {σ : Nat → ByteArray} {T : PT}
theorem Cr (hT:TOK ρ σ T) (a b:SE):(nf0 T a b).val ρ=bP 0 (a.val ρ) (b.val ρ):=by
 unfold nf0
 show _=if a.val ρ≤b.val ρ then a.val ρ else b.val ρ
 split
 ·rename_i n hn
  have h:=hT.look hn
  split
  ·rw[if_pos (ic.2 (by rw[h];decide))]
  ·rw[if_neg (fun hc=>by have:=ic.1 hc;rw[h] at this;simp at this;omega)]
 ·rename_i n hn
  have h:=hT.look hn
  rw[if_pos (ic.2 (by rw[h];exact Int.le_of_lt (Int.negSucc_lt_zero _)))]
 ·rfl
theorem Cs (hT:TOK ρ σ T) (a b:SE):(nf1 T a b).val ρ=bP 1 (a.val ρ) (b.val ρ):=by
 unfold nf1
 show _=if a.val ρ≤b.val ρ then b.val ρ else a.val ρ
 split
 ·rename_i n hn
  have h:=hT.look hn
  split
  ·rename_i hc
   have h2:=ic.1 hc
   rw[h] at h2
   have:sg (a.val ρ) (b.val ρ)=0:=by rw[h];have:(Int.ofNat n)=(n:Int):=rfl;omega
   exact dN.1 this
  ·rfl
 ·rename_i n hn
  have h:=hT.look hn
  rw[if_pos (ic.2 (by rw[h];exact Int.le_of_lt (Int.negSucc_lt_zero _)))]
 ·rfl
theorem Ey (s:Int):le0 s=true↔s≤0:=by
 cases s with
 | ofNat n=>cases n with
  | zero=>simp[le0]
  | succ n=>simp only[le0,Bool.false_eq_true,false_iff];have:Int.ofNat (n+1)=((n+1:Nat):Int):=rfl;omega
 | negSucc n=>simp only[le0,true_iff];exact Int.le_of_lt (Int.negSucc_lt_zero _)
theorem Ek (s:Int):ge0 s=true↔0≤s:=by
 cases s with
 | ofNat n=>simp[ge0]
 | negSucc n=>simp[ge0]
theorem Gt (hT:TOK ρ σ T) (k:Nat) (a b:SE):(nfB T k a b).val ρ=bP k (a.val ρ) (b.val ρ):=by
 unfold nfB
 split
 ·exact Cr hT a b
 ·exact Cs hT a b
 ·split
  ·rename_i s t hs ht
   have h1:=hT.look hs
   have h2:=hT.look ht
   have e0:(SE.int 0).val ρ=0:=rfl
   rw[e0] at h1 h2
   have h3:(a.val ρ≤0∧0≤b.val ρ)↔(le0 s&&ge0 t)=true:=by
    rw[Bool.and_eq_true,Ey,Ek,ic,h1,ic,gB,h2]
    omega
   show _=if a.val ρ≤0∧0≤b.val ρ then 0 else _
   split
   ·rename_i hc
    rw[if_pos (h3.2 hc)];rfl
   ·rename_i hc
    rw[if_neg (fun h=>by have:=h3.1 h;rw[hc] at this;cases this)]
    exact Cr hT _ _
  ·rfl
 ·rw[Cs hT]
  show (if b.val ρ*b.val ρ≤a.val ρ*a.val ρ then a.val ρ*a.val ρ else b.val ρ*b.val ρ)=if a.val ρ*a.val ρ≤b.val ρ*b.val ρ then b.val ρ*b.val ρ else a.val ρ*a.val ρ
  split<;>split<;>grind
 ·rfl
theorem gY (hT:TOK ρ σ T):∀ e:SE,(nf T e).val ρ=e.val ρ
 | .v _=>rfl
 | .int _=>rfl
 | .add a b=>by simp only[nf,SE.val,gY hT a,gY hT b]
 | .sub a b=>by simp only[nf,SE.val,gY hT a,gY hT b]
 | .mul a b=>by simp only[nf,SE.val,gY hT a,gY hT b]
 | .quo a b=>by simp only[nf,SE.val,gY hT a,gY hT b]
 | .neg a=>by simp only[nf,SE.val,gY hT a]
 | .bin k a b=>by rw[nf,Gt hT,gY hT a,gY hT b];rfl
end
def nfS (T:PT):Sy→Sy
 | .nc e i=>.nc (nf T e) i
 | .ss e=>.ss (nf T e)
 | s=>s
def nfA (T:PT):AV→AV
 | .sym s=>.sym (nfS T s)
 | a=>a
def nfT (T:PT):AV→AV
 | .agg l=>.agg (l.map (nfA T))
 | a=>nfA T a
def nrm (T:PT):AV→AV
 | .tup l=>.tup (l.map (nfT T))
 | a=>nfT T a
def jO:List AV→List AV
 | a::b::c::d::l=>match EA [a,b,c,d] with
  | some e=>.sym (.nc e 0) :: .sym (.nc e 1) :: .sym (.nc e 2) :: .sym (.nc e 3)::jO l
  | none=>a::jO (b::c::d::l)
 | l=>l
def yf:AV→AV
 | .agg l=>.agg (jO l)
 | a=>a
def Cd:AV→AV
 | .tup l=>.tup (l.map yf)
 | a=>yf a
section
variable {ρ : Nat → Rat} {σ : Nat → ByteArray} {T : PT} [Unk] [Glob]
theorem wZ (hT:Sem ρ σ T) {m:Nm} {w:World} (a:AV) (v:Value):RV m w (nfA T a) v↔RV m w a v:=by
 cases a with
 | sym s=>
  unfold nfA
  rw[RV,RV,hT.is,hT.is]
  cases s with
  | nc e i=>unfold nfS nB;simp only;rw[gY hT.ok]
  | ss e=>unfold nfS nB;simp only;rw[gY hT.ok]
  | _=>exact Iff.rfl
 | _=>exact Iff.rfl
theorem mz {g:AV→AV} {m:Nm} {w:World} (h:∀ a v,RV m w (g a) v↔RV m w a v):∀ (l:List AV) (vs:List Value),RVs m w (l.map g) vs↔RVs m w l vs
 | [],vs=>by rw[List.map_nil]
 | a::l,vs=>by
  rw[List.map_cons,RVs,RVs]
  constructor
  ·rintro ⟨v,l',rfl,h1,h2⟩;exact⟨v,l',rfl,(h a v).1 h1,(mz h l l').1 h2⟩
  ·rintro ⟨v,l',rfl,h1,h2⟩;exact⟨v,l',rfl,(h a v).2 h1,(mz h l l').2 h2⟩
theorem yp {g:AV→AV} {m:Nm} {w:World} (h:∀ a v,RV m w a v→RV m w (g a) v):∀ (l:List AV) (vs:List Value),RVs m w l vs→RVs m w (l.map g) vs
 | [],vs,hv=>by rw[List.map_nil];exact hv
 | a::l,vs,hv=>by
  rw[List.map_cons]
  rw[RVs] at hv ⊢
  obtain⟨v,l',rfl,h1,h2⟩:=hv
  exact⟨v,l',rfl,h a v h1,yp h l l' h2⟩
theorem xc (hT:Sem ρ σ T) {m:Nm} {w:World} (a:AV) (v:Value):RV m w (nfT T a) v↔RV m w a v:=by
 have H:=wZ hT (m:=m) (w:=w) a v
 cases a with
 | agg l=>
  unfold nfT
  rw[RV,RV]
  constructor
  ·rintro ⟨l',rfl,h⟩;exact⟨l',rfl,(mz (wZ hT) _ _).1 h⟩
  ·rintro ⟨l',rfl,h⟩;exact⟨l',rfl,(mz (wZ hT) _ _).2 h⟩
 | _=>exact H
theorem Ct (hT:Sem ρ σ T) {m:Nm} {w:World} (a:AV) (v:Value):RV m w (nrm T a) v↔RV m w a v:=by
 have H:=xc hT (m:=m) (w:=w) a v
 cases a with
 | tup l=>
  unfold nrm
  rw[RV,RV]
  constructor
  ·rintro ⟨l',rfl,h⟩;exact⟨l',rfl,(mz (xc hT) _ _).1 h⟩
  ·rintro ⟨l',rfl,h⟩;exact⟨l',rfl,(mz (xc hT) _ _).2 h⟩
 | _=>exact H
theorem uD (hT:Sem ρ σ T) {m:Nm} {w:World} (l:List AV) (vs:List Value) (h:RVs m w l vs):RVs m w (jO l) vs:=by
 induction l using jO.induct generalizing vs with
 | case1 a b c d l e he ih=>
  rw[jO,he]
  have h':=h
  rw[RVs] at h
  obtain⟨v0,l0,rfl,h0,h⟩:=h
  rw[RVs] at h
  obtain⟨v1,l1,rfl,h1,h⟩:=h
  rw[RVs] at h
  obtain⟨v2,l2,rfl,h2,h⟩:=h
  rw[RVs] at h
  obtain⟨v3,l3,rfl,h3,h⟩:=h
  have h4:RVs m w [a,b,c,d] [v0,v1,v2,v3]:=by
   rw[RVs];refine ⟨_,_,rfl,h0,?_⟩
   rw[RVs];refine ⟨_,_,rfl,h1,?_⟩
   rw[RVs];refine ⟨_,_,rfl,h2,?_⟩
   rw[RVs];exact⟨_,_,rfl,h3,by rw[RVs]⟩
  obtain⟨x0,x1,x2,x3,hx,q0,q1,q2,q3⟩:=yg (ρ:=ρ) he h4
  simp only[Value.agg.injEq,Array.mk.injEq,List.cons.injEq,and_true] at hx
  obtain⟨rfl,rfl,rfl,rfl⟩:=hx
  simp only
  rw[RVs];refine ⟨_,_,rfl,by rw[RV,hT.is];exact q0,?_⟩
  rw[RVs];refine ⟨_,_,rfl,by rw[RV,hT.is];exact q1,?_⟩
  rw[RVs];refine ⟨_,_,rfl,by rw[RV,hT.is];exact q2,?_⟩
  rw[RVs];exact⟨_,_,rfl,by rw[RV,hT.is];exact q3,ih _ h⟩
 | case2 a b c d l he ih=>
  rw[jO,he]
  simp only
  rw[RVs] at h ⊢
  obtain⟨v0,l0,rfl,h0,h⟩:=h
  exact⟨v0,l0,rfl,h0,ih _ h⟩
 | case3 l hl=>
  rw[jO]
  ·exact h
  ·exact hl
theorem uE (hT:Sem ρ σ T) {m:Nm} {w:World} (a:AV) (v:Value) (h:RV m w a v):RV m w (yf a) v:=by
 cases a with
 | agg l=>
  unfold yf
  rw[RV] at h ⊢
  obtain⟨l',rfl,h⟩:=h
  exact⟨l',rfl,uD hT _ _ h⟩
 | _=>exact h
theorem Ce (hT:Sem ρ σ T) {m:Nm} {w:World} (a:AV) (v:Value) (h:RV m w a v):RV m w (Cd a) v:=by
 have H:=uE hT (m:=m) (w:=w) a v h
 cases a with
 | tup l=>
  unfold Cd
  rw[RV] at h ⊢
  obtain⟨l',rfl,h⟩:=h
  exact⟨l',rfl,yp (uE hT) _ _ h⟩
 | _=>exact H
def Ai (T:PT) (E:Env) (fuel d:Nat) (f:FuncId) (args:List AV) (av:AV):Bool:=
 mE args&&iU av&&Nat.blt f 4294967296&&match wL E fuel d f args ⟨.lf,0,0⟩ with
  | some (av',_)=>db (nrm T (Cd av')) (nrm T av)
  | none=>false
theorem ET (hT:Sem ρ σ T) {P:Program} {E:Env} {fuel d:Nat} {f:FuncId} {args:List AV} {av:AV} (hm:P.follows .mixedOrders=true) (hty:∀ t ti,E.ty.get t=some ti→TyOK P t ti) (hfn:tC P E fl) (hpr:fI P E)
  (hb:∀ fn,P.funcs[f]?=some fn→fn.body.isNone=false) (h:Ai T E fuel d f args av=true) (m:Nm) (w:World) (hf:Hf) (vals:List Value) (hv:RVs m w args vals) (hs:RS m w hf) :
  Calls P f vals.toArray w fun e w'=>∃ v,e=.returned v∧RV m w' av v∧Below w.heap.size w w':=by
 unfold Ai at h
 simp only[Bool.and_eq_true] at h
 obtain⟨⟨⟨h1,h2⟩,hf0⟩,h3⟩:=h
 split at h3
 ·rename_i av' st' hr
  have he:=kQ _ _ h3
  rcases (re hm hty hfn hpr d f args _ _ _ hr).1 (Nat.le_of_ble_eq_true hf0) with ⟨g1,g2,g3⟩|⟨_,⟨fn,g1,g2⟩,_⟩
  ·have hg:∀ b,(Tr.lf:AH).get b=none:=fun b=>rfl
   refine (g3 (fun _=>none) w vals (fC _ _ h1 hv) ⟨fun b cells rb hb' hm'=>(by cases hm'),fun b b' x hb' hb2 hm' hm2=>(by cases hm'),fun g as hga=>⟨(hs.glob g as hga).1,fun b hb'=>absurd (hg b) hb'⟩⟩ (fun b _=>hg b) (fun b _ _=>rfl)).mono ?_
   rintro e w' ⟨v,m',rfl,q1,q2,q3,q4⟩
   have q5:=(Ct hT _ _).2 (Ce hT _ _ q1)
   rw[he] at q5
   refine ⟨v,rfl,pz _ _ h2 ((Ct hT _ _).1 q5),?_⟩
   exact⟨q3.env.1,q3.env.2.1,q3.env.2.2,q3.grow.1,fun b hb'=>q3.keep b hb' fun b' hb2=>absurd (hg b') hb2⟩
  ·have:=hb fn g1
   rw[g2] at this
   cases this
 ·cases h3
end
abbrev Bc [Glob] (w:World):Prop:=iZ (fun _=>none) w (fun _=>none)
def Yields [Glob] (P:Program) (ρ:Nat→Rat) (σ:Nat→ByteArray) (f:FuncId) (args:List AV) (av:AV):Prop:=
 ∃ (U:Unk) (T:PT),@Sem U ρ σ T∧∀ (w:World) (vals:List Value),Bc w→@RVs U (fun _=>none) w args vals →
  Calls P f vals.toArray w fun e w'=>∃ v,e=.returned v∧@RV U (fun _=>none) w' av v∧Below w.heap.size w w'
def bY (ρ:Nat→Rat) (σ:Nat→ByteArray) (L:List PT):Prop:=∃ T∈L,TOK ρ σ T
theorem leaf [Glob] {ρ:Nat→Rat} {σ:Nat→ByteArray} {L:List PT} (hL:bY ρ σ L) {P:Program} {E:PT→Env} {fuel d:Nat} {f:FuncId} {args:List AV} {av:AV} (hm:P.follows .mixedOrders=true) (hty:∀ T,∀ t ti,(E T).ty.get t=some ti→TyOK P t ti) (hfn:∀ T,tC P (E T) fl)
  (hpr:∀ (U:Unk) T,@Sem U ρ σ T→@fI U _ P (E T)) (hb:∀ fn,P.funcs[f]?=some fn→fn.body.isNone=false) (h:(L.all fun T=>@Ai (lv ρ σ T) _ T (E T) fuel d f args av)=true):Yields P ρ σ f args av:=by
 obtain⟨T,hm',hT⟩:=hL
 exact⟨lv ρ σ T,T,xA hT,fun w vals ht hv=>@ET ρ σ T (lv ρ σ T) _ (xA hT) P (E T) fuel d f args av hm (hty T) (hfn T) (hpr _ T (xA hT)) hb (List.all_eq_true.1 h T hm') (fun _=>none) w (fun _=>none) vals hv (@RS.mk (lv ρ σ T) _ _ _ _ (fun b cells rb h1 h2=>by cases h2) (fun b b' x h1 h2 h3=>by cases h3) ht)⟩
def PT.add (T:PT) (a b:SE) (s:Int):PT:={ T with cmp:=(a,b,s)::T.cmp }
theorem TOK.add {ρ:Nat→Rat} {σ:Nat→ByteArray} {T:PT} (hT:TOK ρ σ T) {a b:SE} {s:Int} (h:sg (a.val ρ) (b.val ρ)=s):TOK ρ σ (T.add a b s):=
 ⟨fun x hx=>by
  rcases List.mem_cons.1 hx with rfl|hx
  ·exact h
  ·exact hT.cmp x hx,hT.chk,hT.says,hT.len,hT.clen,hT.lrg,hT.le,hT.few,hT.bd⟩
section
variable {ρ : Nat → Rat} {σ : Nat → ByteArray} {L : List PT}
theorem bY.one {T:PT} (h:TOK ρ σ T):bY ρ σ [T]:=⟨T,List.mem_cons_self,h⟩
def sp3 (a b:SE) (L:List PT):List PT:=L.flatMap fun T=>[T.add a b (-1),T.add a b 0,T.add a b 1]
theorem bY.sp3 (h:bY ρ σ L) (a b:SE):bY ρ σ (sp3 a b L):=by
 obtain⟨T,hm,hT⟩:=h
 rcases dI (a.val ρ) (b.val ρ) with h|h|h
 ·exact⟨_,List.mem_flatMap.2 ⟨T,hm,by simp⟩,hT.add h⟩
 ·exact⟨_,List.mem_flatMap.2 ⟨T,hm,by simp⟩,hT.add h⟩
 ·exact⟨_,List.mem_flatMap.2 ⟨T,hm,by simp⟩,hT.add h⟩
def sp2 (a b:SE) (L:List PT):List PT:=L.flatMap fun T=>[T.add a b (-1),T.add a b 0]
theorem bY.sp2 (h:bY ρ σ L) {a b:SE} (hle:a.val ρ≤b.val ρ):bY ρ σ (sp2 a b L):=by
 obtain⟨T,hm,hT⟩:=h
 have h1:=ic.1 hle
 rcases dI (a.val ρ) (b.val ρ) with h|h|h
 ·exact⟨_,List.mem_flatMap.2 ⟨T,hm,by simp⟩,hT.add h⟩
 ·exact⟨_,List.mem_flatMap.2 ⟨T,hm,by simp⟩,hT.add h⟩
 ·omega
def sp1 (a b:SE) (s:Int) (L:List PT):List PT:=L.map fun T=>T.add a b s
theorem bY.sp1 (h:bY ρ σ L) {a b:SE} {s:Int} (hs:sg (a.val ρ) (b.val ρ)=s):bY ρ σ (sp1 a b s L):=by
 obtain⟨T,hm,hT⟩:=h
 exact⟨_,List.mem_map.2 ⟨T,hm,rfl⟩,hT.add hs⟩
structure Ends where
 T:PT
 lo:SE
 hi:SE
 one:Bool
def rM (p:SE) (s:Ends):List Ends:=match s.one with
 | true=>[⟨s.T.add p s.lo (-1),p,s.hi,false⟩,⟨s.T.add p s.lo 0,s.lo,s.hi,true⟩,⟨s.T.add p s.lo 1,s.lo,p,false⟩]
 | false=>[⟨(s.T.add p s.lo (-1)).add p s.hi (-1),p,s.hi,false⟩,⟨(s.T.add p s.lo 0).add p s.hi (-1),s.lo,s.hi,false⟩,⟨(s.T.add p s.lo 1).add p s.hi (-1),s.lo,s.hi,false⟩,⟨(s.T.add p s.lo 1).add p s.hi 0,s.lo,s.hi,false⟩,⟨(s.T.add p s.lo 1).add p s.hi 1,s.lo,p,false⟩]
def vO (ρ:Nat→Rat) (σ:Nat→ByteArray) (s:Ends):Prop:=TOK ρ σ s.T∧match s.one with
 | true=>s.lo=s.hi
 | false=>s.lo.val ρ<s.hi.val ρ
theorem cL {x y:Rat}:sg x y = -1↔x<y:=by
 have h1:=@ic x y
 have h2:=@ic y x
 rw[gB] at h2
 rw[←Rat.not_le,h2]
 have:=dI x y
 omega
theorem qj {L:List Ends} (p:SE) (h:∃ s∈L,vO ρ σ s):∃ s∈L.flatMap (rM p),vO ρ σ s:=by
 obtain⟨s,hm,hT,hs⟩:=h
 have key:∃ q∈rM p s,vO ρ σ q:=by
  unfold rM
  cases ho:s.one with
  | true=>
   rw[ho] at hs
   simp only at hs
   rcases dI (p.val ρ) (s.lo.val ρ) with h|h|h
   ·exact⟨_,List.mem_cons_self,hT.add h,by rw[←hs];exact cL.1 h⟩
   ·exact⟨_,List.mem_cons_of_mem _ List.mem_cons_self,hT.add h,hs⟩
   ·exact⟨_,List.mem_cons_of_mem _ (List.mem_cons_of_mem _ List.mem_cons_self),hT.add h,by show s.lo.val ρ<p.val ρ;exact cL.1 (by rw[gB,h])⟩
  | false=>
   rw[ho] at hs
   simp only at hs
   rcases dI (p.val ρ) (s.lo.val ρ) with h|h|h
   ·have h2:p.val ρ<s.hi.val ρ:=Rat.not_le.1 fun hc=>Rat.not_le.2 (cL.1 h) (Rat.le_trans (Rat.le_of_lt hs) hc)
    exact⟨_,List.mem_cons_self,(hT.add h).add (cL.2 h2),h2⟩
   ·have h2:p.val ρ<s.hi.val ρ:=by rw[dN.1 h];exact hs
    exact⟨_,List.mem_cons_of_mem _ List.mem_cons_self,(hT.add h).add (cL.2 h2),hs⟩
   ·rcases dI (p.val ρ) (s.hi.val ρ) with g|g|g
    ·exact⟨_,List.mem_cons_of_mem _ (List.mem_cons_of_mem _ List.mem_cons_self),(hT.add h).add g,hs⟩
    ·exact⟨_,List.mem_cons_of_mem _ (List.mem_cons_of_mem _ (List.mem_cons_of_mem _ List.mem_cons_self)),(hT.add h).add g,hs⟩
    ·exact⟨_,List.mem_cons_of_mem _ (List.mem_cons_of_mem _ (List.mem_cons_of_mem _ (List.mem_cons_of_mem _ List.mem_cons_self))),(hT.add h).add g,by show s.lo.val ρ<p.val ρ;exact cL.1 (by rw[gB,h])⟩
 obtain⟨q,h1,h2⟩:=key
 exact⟨q,List.mem_flatMap.2 ⟨s,hm,h1⟩,h2⟩
def lo4 (p q r s:SE):SE:=.bin 0 (.bin 0 (.bin 0 p q) r) s
def hi4 (p q r s:SE):SE:=.bin 1 (.bin 1 (.bin 1 p q) r) s
def xT (p q r s:SE) (T:PT):List PT:=((([(⟨T,p,p,true⟩:Ends)].flatMap (rM q)).flatMap (rM r)).flatMap (rM s)).map Ends.T
theorem bY.xT {T:PT} (h:TOK ρ σ T) (p q r s:SE):bY ρ σ (xT p q r s T):=by
 obtain⟨e,h1,h2⟩:=qj s (qj r (qj q ⟨(⟨T,p,p,true⟩:Ends),List.mem_cons_self,h,rfl⟩))
 exact⟨e.T,List.mem_map.2 ⟨e,h1,rfl⟩,h2.1⟩
end
def mN (n K:Nat):PT:=⟨[],(List.range n).map fun i=>(i,0),[],[],[],K⟩
def sig (ss:List ByteArray) (i:Nat):ByteArray:=ss.getD i ⟨#[]⟩
end Go.Sx
namespace Go.Sx
open LimbNum DigNum Go.RowKit
abbrev Sb:=List (Nat × SE)
def yN (θ:Sb) (i:Nat):SE:=match θ with
 | []=>.int 0
 |(j,e)::l=>match Nat.beq i j with
  | true=>e
  | false=>yN l i
def SE.eT (θ:Sb):SE→SE
 | .v i=>yN θ i
 | .int n=>.int n
 | .add a b=>.add (a.eT θ) (b.eT θ)
 | .sub a b=>.sub (a.eT θ) (b.eT θ)
 | .mul a b=>.mul (a.eT θ) (b.eT θ)
 | .quo a b=>.quo (a.eT θ) (b.eT θ)
 | .neg a=>.neg (a.eT θ)
 | .bin k a b=>.bin k (a.eT θ) (b.eT θ)
def iX (ρ:Nat→Rat) (θ:Sb) (i:Nat):Rat:=(yN θ i).val ρ
theorem bX (ρ:Nat→Rat) (θ:Sb):∀ e:SE,(e.eT θ).val ρ=e.val (iX ρ θ)
 | .v _=>rfl
 | .int _=>rfl
 | .add a b=>by simp only[SE.eT,SE.val,bX ρ θ a,bX ρ θ b]
 | .sub a b=>by simp only[SE.eT,SE.val,bX ρ θ a,bX ρ θ b]
 | .mul a b=>by simp only[SE.eT,SE.val,bX ρ θ a,bX ρ θ b]
 | .quo a b=>by simp only[SE.eT,SE.val,bX ρ θ a,bX ρ θ b]
 | .neg a=>by simp only[SE.eT,SE.val,bX ρ θ a]
 | .bin k a b=>by simp only[SE.eT,SE.val,bX ρ θ a,bX ρ θ b]
def plain:AV→Bool
 | .bool _ | .int _ _ | .float _ _ | .str _ | .nilp | .nils | .nilm | .nilf=>true
 | .fn _ cs=>match cs with
  | []=>true
  | _=>false
 | _=>false
theorem uY {U U':Unk} {m m':Nm} {w w':World} {a:AV} {v:Value} (h:plain a=true) (hv:@RV U m w a v):@RV U' m' w' a v:=by
 cases a<;>simp only[plain,Bool.false_eq_true] at h
 case fn f cs=>
  cases cs with
  | nil=>
   rw[@RV.eq_def U] at hv
   rw[@RV.eq_def U']
   obtain⟨l,h1,h2⟩:=hv
   rw[@RVs.eq_def U] at h2
   exact⟨l,h1,by rw[@RVs.eq_def U'];exact h2⟩
  | cons _ _=>simp at h
 all_goals
  rw[@RV.eq_def U] at hv
  rw[@RV.eq_def U']
  exact hv
def Ee (T:PT) (θ:Sb) (p a:AV):Bool:=match p with
 | .sym s=>match s with
  | .nc e k=>match a with
   | .sym (.nc e' k')=>SE.eq (e.eT θ) e'&&Nat.beq k k'
   | _=>false
  | .ss e=>match qK T a with
   | some e'=>SE.eq (e.eT θ) e'
   | none=>false
  | _=>false
 | p=>plain p&&db p a
def Ef (T:PT) (θ:Sb):List AV→List AV→Bool
 | [],[]=>true
 | p::l,a::l'=>Ee T θ p a&&Ef T θ l l'
 | _,_=>false
def Gc (T:PT) (θ:Sb) (p a:AV):Bool:=match p with
 | .agg l=>match a with
  | .agg l'=>Ef T θ l (jO l')
  | _=>false
 | p=>Ee T θ p a
def xY (T:PT) (θ:Sb):List AV→List AV→Bool
 | [],[]=>true
 | p::l,a::l'=>Gc T θ p a&&xY T θ l l'
 | _,_=>false
def bB (θ:Sb):AV→AV
 | .sym s=>match s with
  | .nc e k=>.sym (.nc (e.eT θ) k)
  | .ss e=>.sym (.ss (e.eT θ))
  | s=>.sym s
 | a=>a
def Fg (θ:Sb):AV→AV
 | .agg l=>.agg (l.map (bB θ))
 | a=>bB θ a
def H3 (θ:Sb):AV→AV
 | .tup l=>.tup (l.map (Fg θ))
 | a=>Fg θ a
def GG:AV→Bool
 | .sym s=>match s with
  | .nc _ _=>true
  | .ss _=>true
  | _=>false
 | a=>plain a
def GH:AV→Bool
 | .agg l=>l.all GG
 | a=>GG a
def GF:AV→Bool
 | .tup l=>l.all GH
 | a=>GH a
section
variable {U U' : Unk} [Glob] {ρ : Nat → Rat} {σ σ' : Nat → ByteArray} {T T' : PT} {θ : Sb}
theorem xZ (hT:@Sem U ρ σ T) (hT':@Sem U' (iX ρ θ) σ' T') {p a:AV} {m m':Nm} {w:World} {v:Value} (h:Ee T θ p a=true) (hv:@RV U m w a v):@RV U' m' w p v:=by
 unfold Ee at h
 split at h
 ·split at h
  ·rename_i e k
   split at h
   ·rename_i e' k'
    rw[Bool.and_eq_true] at h
    have e1:=SE.eq_eq _ _ h.1
    have e2:=Nat.eq_of_beq_eq_true h.2
    subst e1 e2
    rw[@RV.eq_def U] at hv
    rw[@RV.eq_def U']
    simp only at hv ⊢
    rw[@Sem.is U _ _ _ hT] at hv
    rw[@Sem.is U' _ _ _ hT']
    have hv':kq ((e.eT θ).val ρ) k w v:=hv
    rw[bX] at hv'
    exact hv'
   ·cases h
  ·rename_i e
   split at h
   ·rename_i e' he
    have e1:=SE.eq_eq _ _ h
    subst e1
    obtain⟨s,rfl,hs⟩:=@ot _ _ _ U _ hT _ _ _ _ _ he hv
    rw[bX] at hs
    exact @rG _ _ _ U' _ hT' _ _ _ _ hs
   ·cases h
  ·cases h
 ·rw[Bool.and_eq_true] at h
  have:=kQ _ _ h.2
  subst this
  exact uY h.1 hv
theorem y8 (hT:@Sem U ρ σ T) (hT':@Sem U' (iX ρ θ) σ' T') {m m':Nm} {w:World}:∀ (p a:List AV) (v:List Value),Ef T θ p a=true→@RVs U m w a v→@RVs U' m' w p v
 | [],[],v,_,hv=>by rw[@RVs.eq_def U] at hv;rw[@RVs.eq_def U'];exact hv
 | p::l,a::l',v,h,hv=>by
  rw[Ef,Bool.and_eq_true] at h
  rw[@RVs.eq_def U] at hv
  rw[@RVs.eq_def U']
  obtain⟨x,xs,rfl,h1,h2⟩:=hv
  exact⟨x,xs,rfl,xZ hT hT' h.1 h1,y8 hT hT' l l' xs h.2 h2⟩
theorem Ed (hT:@Sem U ρ σ T) (hT':@Sem U' (iX ρ θ) σ' T') {p a:AV} {m m':Nm} {w:World} {v:Value} (h:Gc T θ p a=true) (hv:@RV U m w a v):@RV U' m' w p v:=by
 unfold Gc at h
 split at h
 ·split at h
  ·rw[@RV.eq_def U] at hv
   rw[@RV.eq_def U']
   obtain⟨l,rfl,hv⟩:=hv
   exact⟨l,rfl,y8 hT hT' _ _ _ h (@uD _ _ _ U _ hT _ _ _ _ hv)⟩
  ·cases h
 ·exact xZ hT hT' h hv
theorem uh (hT:@Sem U ρ σ T) (hT':@Sem U' (iX ρ θ) σ' T') {m m':Nm} {w:World}:∀ (p a:List AV) (v:List Value),xY T θ p a=true→@RVs U m w a v→@RVs U' m' w p v
 | [],[],v,_,hv=>by rw[@RVs.eq_def U] at hv;rw[@RVs.eq_def U'];exact hv
 | p::l,a::l',v,h,hv=>by
  rw[xY,Bool.and_eq_true] at h
  rw[@RVs.eq_def U] at hv
  rw[@RVs.eq_def U']
  obtain⟨x,xs,rfl,h1,h2⟩:=hv
  exact⟨x,xs,rfl,Ed hT hT' h.1 h1,uh hT hT' l l' xs h.2 h2⟩
theorem yT (hT:@Sem U ρ σ T) (hT':@Sem U' (iX ρ θ) σ' T') {m m':Nm} {w:World} (a:AV) (v:Value) (ho:GG a=true) (hv:@RV U' m' w a v):@RV U m w (bB θ a) v:=by
 cases a with
 | sym s=>
  cases s with
  | nc e k=>
   rw[@RV.eq_def U'] at hv
   simp only at hv
   rw[@Sem.is U' _ _ _ hT'] at hv
   unfold bB
   rw[@RV.eq_def U]
   simp only
   rw[@Sem.is U _ _ _ hT]
   have hv':kq (e.val (iX ρ θ)) k w v:=hv
   show kq ((e.eT θ).val ρ) k w v
   rw[bX]
   exact hv'
  | ss e=>
   rw[@RV.eq_def U'] at hv
   simp only at hv
   rw[@Sem.is U' _ _ _ hT'] at hv
   unfold bB
   rw[@RV.eq_def U]
   simp only
   rw[@Sem.is U _ _ _ hT]
   have hv':∃ s,v=.string s∧aC s (e.val (iX ρ θ)):=hv
   show ∃ s,v=.string s∧aC s ((e.eT θ).val ρ)
   rw[bX]
   exact hv'
  | _=>cases ho
 | _=>exact uY ho hv
theorem sX {g:AV→AV} {o:AV→Bool} {m m':Nm} {w:World} (H:∀ a v,o a=true→@RV U' m' w a v→@RV U m w (g a) v):∀ (l:List AV) (vs:List Value),l.all o=true→@RVs U' m' w l vs→@RVs U m w (l.map g) vs
 | [],vs,_,hv=>by rw[@RVs.eq_def U'] at hv;rw[List.map_nil,@RVs.eq_def U];exact hv
 | a::l,vs,h,hv=>by
  rw[List.all_cons,Bool.and_eq_true] at h
  rw[@RVs.eq_def U'] at hv
  rw[List.map_cons,@RVs.eq_def U]
  obtain⟨x,xs,rfl,h1,h2⟩:=hv
  exact⟨x,xs,rfl,H a x h.1 h1,sX H l xs h.2 h2⟩
theorem yU (hT:@Sem U ρ σ T) (hT':@Sem U' (iX ρ θ) σ' T') {m m':Nm} {w:World} (a:AV) (v:Value) (ho:GH a=true) (hv:@RV U' m' w a v):@RV U m w (Fg θ a) v:=by
 have H:=fun h=>yT (m:=m) hT hT' a v h hv
 cases a with
 | agg l=>
  unfold Fg
  rw[@RV.eq_def U'] at hv
  rw[@RV.eq_def U]
  obtain⟨l',rfl,hv⟩:=hv
  exact⟨l',rfl,sX (yT hT hT') _ _ ho hv⟩
 | _=>exact H ho
theorem Ff (hT:@Sem U ρ σ T) (hT':@Sem U' (iX ρ θ) σ' T') {m m':Nm} {w:World} (a:AV) (v:Value) (ho:GF a=true) (hv:@RV U' m' w a v):@RV U m w (H3 θ a) v:=by
 have H:=fun h=>yU (m:=m) hT hT' a v h hv
 cases a with
 | tup l=>
  unfold H3
  rw[@RV.eq_def U'] at hv
  rw[@RV.eq_def U]
  obtain⟨l',rfl,hv⟩:=hv
  exact⟨l',rfl,sX (yU hT hT') _ _ ho hv⟩
 | _=>exact H ho
end
def FR (T:PT) (p a:AV) (θ:Sb):Sb:=match p with
 | .sym s=>match s with
  | .nc (.v i) 0=>match a with
   | .sym (.nc e _)=>(i,e)::θ
   | _=>θ
  | .ss (.v i)=>match qK T a with
   | some e=>(i,e)::θ
   | none=>θ
  | _=>θ
 | _=>θ
def FT (T:PT):List AV→List AV→Sb→Sb
 | p::l,a::l',θ=>FT T l l' (FR T p a θ)
 | _,_,θ=>θ
def ID (T:PT) (p a:AV) (θ:Sb):Sb:=match p with
 | .agg l=>match a with
  | .agg l'=>FT T l (jO l') θ
  | _=>θ
 | p=>FR T p a θ
def xz (T:PT):List AV→List AV→Sb→Sb
 | p::l,a::l',θ=>xz T l l' (ID T p a θ)
 | _,_,θ=>θ
structure Rule where
 args:List AV
 out:AV
 K:Nat
 need:List (SE × SE × Bool)
def tE (ρ:Nat→Rat) (c:SE × SE × Bool):Prop:=match c.2.2 with
 | true=>c.1.val ρ<c.2.1.val ρ
 | false=>c.1.val ρ≤c.2.1.val ρ
def cg [Glob] (P:Program) (f:FuncId) (r:Rule):Prop:=GF r.out=true∧∀ ρ:Nat→Rat,(∀ i,Bd (ρ i) r.K)→(∀ c∈r.need,tE ρ c)→Yields P ρ (fun _=>⟨#[]⟩) f r.args r.out
def yq (a b:SE):List (SE × SE)→Bool
 | []=>false
 |(x,y)::l=>match SE.eq a x&&SE.eq b y with
  | true=>true
  | false=>yq a b l
theorem uN {a b:SE}:∀ l:List (SE × SE),yq a b l=true→(a,b)∈l
 | [],h=>by cases h
 |(x,y)::l,h=>by
  rw[yq] at h
  split at h
  ·rename_i he
   rw[Bool.and_eq_true] at he
   rw[SE.eq_eq _ _ he.1,SE.eq_eq _ _ he.2]
   exact List.mem_cons_self
  ·exact List.mem_cons_of_mem _ (uN l h)
def Co (T:PT) (a b:SE) (strict:Bool):Bool:=match T.look a b with
 | some s=>match s with
  | .negSucc _=>true
  | .ofNat n=>match strict with
   | true=>false
   | false=>Nat.beq n 0
 | none=>match strict with
  | true=>false
  | false=>yq a b T.le
def Cm (T:PT) (θ:Sb) (c:SE × SE × Bool):Bool:=Co T (c.1.eT θ) (c.2.1.eT θ) c.2.2
def D4 (T:PT) (K:Nat) (θ:Sb):Bool:=Nat.ble 1 K&&θ.all fun x=>Nat.ble (x.2.bd T.K) K
def CK (T:PT) (r:Rule) (a:List AV) (θ:Sb):Option AV:=match xY T θ r.args a&&(D4 T r.K θ&&r.need.all (Cm T θ)) with
 | true=>some (H3 θ r.out)
 | false=>none
def CJ (T:PT) (r:Rule):Prm:=fun _ a=>CK T r a (xz T r.args a [])
theorem Cn {ρ:Nat→Rat} {σ:Nat→ByteArray} {T:PT} (hT:TOK ρ σ T) {θ:Sb} {c:SE × SE × Bool} (h:Cm T θ c=true):tE (iX ρ θ) c:=by
 unfold Cm Co at h
 split at h
 ·rename_i s hs
  have hl:=hT.look hs
  rw[bX,bX] at hl
  unfold tE
  split at h
  ·rename_i n
   have h1:sg (c.1.val (iX ρ θ)) (c.2.1.val (iX ρ θ)) = -1:=by
    rcases dI (c.1.val (iX ρ θ)) (c.2.1.val (iX ρ θ)) with h|h|h
    ·exact h
    ·rw[h] at hl;cases hl
    ·rw[h] at hl;cases hl
   split
   ·exact cL.1 h1
   ·exact Rat.le_of_lt (cL.1 h1)
  ·rename_i n
   cases hc:c.2.2 with
   | true=>rw[hc] at h;cases h
   | false=>
    rw[hc] at h
    have:=Nat.eq_of_beq_eq_true h
    subst this
    exact ic.2 (by rw[hl];decide)
 ·unfold tE
  cases hc:c.2.2 with
  | true=>rw[hc] at h;cases h
  | false=>
   rw[hc] at h
   have:=hT.le _ (uN _ h)
   simp only at this
   rw[bX,bX] at this
   exact this
theorem D5 {ρ:Nat→Rat} {σ:Nat→ByteArray} {T:PT} (hT:TOK ρ σ T) {K:Nat} {θ:Sb} (h:D4 T K θ=true) (i:Nat):Bd (iX ρ θ i) K:=by
 unfold D4 at h
 rw[Bool.and_eq_true] at h
 have hK:=Nat.le_of_ble_eq_true h.1
 have h2:=h.2
 clear h
 unfold iX
 induction θ with
 | nil=>exact kP hK
 | cons x l ih=>
  rw[List.all_cons,Bool.and_eq_true] at h2
  obtain⟨j,e⟩:=x
  rw[yN]
  split
  ·exact (SE.gg hT.bd e).mono (Nat.le_of_ble_eq_true h2.1)
  ·exact ih h2.2
theorem F0 [Glob] {P:Program} {f:FuncId} {r:Rule} (hr:cg P f r) {U:Unk} {ρ:Nat→Rat} {σ:Nat→ByteArray} {T:PT} (hT:@Sem U ρ σ T):@au U _ P f (CJ T r):=by
 intro h args av hg m w vals hv hs
 unfold CJ CK at hg
 generalize xz T r.args args []=θ at hg
 split at hg
 ·rename_i hc
  cases hg
  rw[Bool.and_eq_true,Bool.and_eq_true] at hc
  obtain⟨h1,h2,h3⟩:=hc
  have hgl:Bc w:=fun g as hga=>⟨(hs.glob g as hga).1,fun b hb=>absurd rfl hb⟩
  obtain⟨U',T',hT',H⟩:=hr.2 (iX ρ θ) (D5 (@Sem.ok U _ _ _ hT) h2) (fun c hc=>Cn (@Sem.ok U _ _ _ hT) (List.all_eq_true.1 h3 c hc))
  refine (H w vals hgl (uh hT hT' _ _ _ h1 hv)).mono ?_
  rintro e w' ⟨v,rfl,q1,q2⟩
  exact⟨v,rfl,Ff hT hT' _ _ hr.1 q1,q2⟩
 ·cases hg
end Go.Sx
namespace Go.Sx
open DigNum
theorem min_le (a b:Rat):bP 0 a b≤a∧bP 0 a b≤b:=by
 show (if a≤b then a else b)≤a∧(if a≤b then a else b)≤b
 split<;>grind
theorem le_max (a b:Rat):a≤bP 1 a b∧b≤bP 1 a b:=by
 show a≤(if a≤b then b else a)∧b≤(if a≤b then b else a)
 split<;>grind
def Btw (z p q:Rat):Prop:=(p≤z∧z≤q)∨(q≤z∧z≤p)
theorem Btw.low {z p q l:Rat} (h:Btw z p q) (h1:l≤p) (h2:l≤q):l≤z:=by
 rcases h with ⟨h,_⟩|⟨h,_⟩<;>grind
theorem Btw.high {z p q l:Rat} (h:Btw z p q) (h1:p≤l) (h2:q≤l):z≤l:=by
 rcases h with ⟨_,h⟩|⟨_,h⟩<;>grind
theorem kR {a b x:Rat} (c:Rat) (h1:a≤x) (h2:x≤b):Btw (x*c) (a*c) (b*c):=by
 rcases Rat.le_total (a:=0) (b:=c) with h|h
 ·exact .inl ⟨Rat.mul_le_mul_of_nonneg_right h1 h,Rat.mul_le_mul_of_nonneg_right h2 h⟩
 ·have h':0≤-c:=by grind
  have e1:=Rat.mul_le_mul_of_nonneg_right h1 h'
  have e2:=Rat.mul_le_mul_of_nonneg_right h2 h'
  exact .inr ⟨by grind,by grind⟩
theorem C1 {a b c d x y l m:Rat} (h1:a≤x) (h2:x≤b) (h3:c≤y) (h4:y≤d) (l1:l≤a*c) (l2:l≤a*d) (l3:l≤b*c) (l4:l≤b*d)
  (m1:a*c≤m) (m2:a*d≤m) (m3:b*c≤m) (m4:b*d≤m):l≤x*y∧x*y≤m:=by
 have e1:=kR c h1 h2
 have e2:=kR d h1 h2
 have e3:Btw (x*y) (x*c) (x*d):=by
  have:=kR x h3 h4
  rwa [Rat.mul_comm y x,Rat.mul_comm c x,Rat.mul_comm d x] at this
 exact⟨e3.low (e1.low l1 l3) (e2.low l2 l4),e3.high (e1.high m1 m3) (e2.high m2 m4)⟩
theorem iD {l a c:Rat} (hc:0<c) (h:l*c≤a):l≤a/c:=by
 refine Rat.le_of_mul_le_mul_right ?_ hc
 rwa [Rat.div_mul_cancel (fun e=>by rw[e] at hc;exact absurd hc (by decide))]
theorem yF {lo hi:Rat} {n:Nat} (hn:n≤255) (h:lo≤hi):lo≤lo+((n:Int):Rat)/((255:Int):Rat)*(hi-lo)∧lo+((n:Int):Rat)/((255:Int):Rat)*(hi-lo)≤hi:=by
 have h255:(0:Rat)<((255:Int):Rat):=by decide
 have t0:(0:Rat)≤((n:Int):Rat)/((255:Int):Rat):=iD h255 (by rw[Rat.zero_mul];exact Rat.intCast_le_intCast.2 (by omega:(0:Int)≤n))
 have t1:((n:Int):Rat)/((255:Int):Rat)≤1:=by
  have:(-1:Rat)≤(-((n:Int):Rat))/((255:Int):Rat):=iD h255 (by
   have:((n:Int):Rat)≤((255:Int):Rat):=Rat.intCast_le_intCast.2 (by omega)
   grind)
  rw[Rat.div_def] at this ⊢
  grind
 generalize ((n:Int):Rat)/((255:Int):Rat)=t at *
 have k1:=Rat.mul_nonneg t0 (show 0≤hi-lo by grind)
 have k2:=Rat.mul_nonneg (show 0≤1-t by grind) (show 0≤hi-lo by grind)
 exact⟨by grind,by grind⟩
theorem ph (ρ:Nat→Rat) (p q r s:SE):(lo4 p q r s).val ρ≤p.val ρ∧(lo4 p q r s).val ρ≤q.val ρ∧(lo4 p q r s).val ρ≤r.val ρ∧(lo4 p q r s).val ρ≤s.val ρ:=by
 have e1:=min_le (p.val ρ) (q.val ρ)
 have e2:=min_le (bP 0 (p.val ρ) (q.val ρ)) (r.val ρ)
 have e3:=min_le (bP 0 (bP 0 (p.val ρ) (q.val ρ)) (r.val ρ)) (s.val ρ)
 show bP 0 (bP 0 (bP 0 (p.val ρ) (q.val ρ)) (r.val ρ)) (s.val ρ)≤_∧bP 0 (bP 0 (bP 0 (p.val ρ) (q.val ρ)) (r.val ρ)) (s.val ρ)≤_∧bP 0 (bP 0 (bP 0 (p.val ρ) (q.val ρ)) (r.val ρ)) (s.val ρ)≤_∧bP 0 (bP 0 (bP 0 (p.val ρ) (q.val ρ)) (r.val ρ)) (s.val ρ)≤_
 generalize bP 0 (bP 0 (bP 0 (p.val ρ) (q.val ρ)) (r.val ρ)) (s.val ρ)=z3 at *
 generalize bP 0 (bP 0 (p.val ρ) (q.val ρ)) (r.val ρ)=z2 at *
 generalize bP 0 (p.val ρ) (q.val ρ)=z1 at *
 exact⟨by grind,by grind,by grind,by grind⟩
theorem pf (ρ:Nat→Rat) (p q r s:SE):p.val ρ≤(hi4 p q r s).val ρ∧q.val ρ≤(hi4 p q r s).val ρ∧r.val ρ≤(hi4 p q r s).val ρ∧s.val ρ≤(hi4 p q r s).val ρ:=by
 have e1:=le_max (p.val ρ) (q.val ρ)
 have e2:=le_max (bP 1 (p.val ρ) (q.val ρ)) (r.val ρ)
 have e3:=le_max (bP 1 (bP 1 (p.val ρ) (q.val ρ)) (r.val ρ)) (s.val ρ)
 show _≤bP 1 (bP 1 (bP 1 (p.val ρ) (q.val ρ)) (r.val ρ)) (s.val ρ)∧_≤bP 1 (bP 1 (bP 1 (p.val ρ) (q.val ρ)) (r.val ρ)) (s.val ρ)∧_≤bP 1 (bP 1 (bP 1 (p.val ρ) (q.val ρ)) (r.val ρ)) (s.val ρ)∧_≤bP 1 (bP 1 (bP 1 (p.val ρ) (q.val ρ)) (r.val ρ)) (s.val ρ)
 generalize bP 1 (bP 1 (bP 1 (p.val ρ) (q.val ρ)) (r.val ρ)) (s.val ρ)=z3 at *
 generalize bP 1 (bP 1 (p.val ρ) (q.val ρ)) (r.val ρ)=z2 at *
 generalize bP 1 (p.val ρ) (q.val ρ)=z1 at *
 exact⟨by grind,by grind,by grind,by grind⟩
end Go.Sx
