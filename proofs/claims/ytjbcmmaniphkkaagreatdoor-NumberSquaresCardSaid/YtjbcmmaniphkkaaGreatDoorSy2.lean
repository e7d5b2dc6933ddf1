import Derived.Test.YtjbcmmaniphkkaaGreatDoorSy1
set_option linter.unusedSectionVars false
set_option linter.unusedVariables false
set_option linter.unusedSimpArgs false
namespace Go.Sx
open LimbNum DigNum Go.RowKit
theorem ij {x y:Rat}:x≤y↔sg x y≤0:=by
 rw[Rat.le_iff_sub_nonneg,←Rat.num_nonneg]
 have h:sg x y = - sg y x:=gD y x
 unfold sg at *
 rw[h]
 have:=@Int.sign_nonneg_iff (y-x).num
 omega
theorem eg (x y:Rat):sg x y = -1∨sg x y=0∨sg x y=1:=by
 unfold sg
 rcases Int.lt_trichotomy (x-y).num 0 with h|h|h
 ·exact .inl (Int.sign_eq_neg_one_of_neg h)
 ·exact .inr (.inl (by rw[h];rfl))
 ·exact .inr (.inr (Int.sign_eq_one_of_pos h))
def nf0 (T:PT) (a b:SE):SE:=match T.look a b with
 | some (.ofNat n)=>match n with
  | 0=>a
  | _+1=>b
 | some (.negSucc _)=>a
 | none=>.bin 0 a b
def nf1 (T:PT) (a b:SE):SE:=match T.look a b with
 | some (.ofNat _)=>a
 | some (.negSucc _)=>b
 | none=>.bin 1 a b
def le0:Int→Bool
 | .ofNat 0=>true
 | .ofNat (_+1)=>false
 | .negSucc _=>true
def ge0:Int→Bool
 | .ofNat _=>true
 | .negSucc _=>false
def nfB (T:PT) (k:Nat) (a b:SE):SE:=match k with
 | 0=>nf0 T a b
 | 1=>nf1 T a b
 | 2=>match T.look a (.int 0),T.look b (.int 0) with
  | some s,some t=>match le0 s&&ge0 t with
   | true=>.int 0
   | false=>nf0 T (.mul a a) (.mul b b)
  | _,_=>.bin 2 a b
 | 3=>nf1 T (.mul b b) (.mul a a)
 | k=>.bin k a b
def nf (T:PT):SE→SE
 | .v i=>.v i
 | .int n=>.int n
 | .add a b=>.add (nf T a) (nf T b)
 | .sub a b=>.sub (nf T a) (nf T b)
 | .mul a b=>.mul (nf T a) (nf T b)
 | .quo a b=>.quo (nf T a) (nf T b)
 | .neg a=>.neg (nf T a)
 | .bin k a b=>nfB T k (nf T a) (nf T b)
section
variable {ρ : Nat → Rat} {σ : Nat → ByteArray} {T : PT}
theorem DF (hT:TOK ρ σ T) (a b:SE):(nf0 T a b).val ρ=zY 0 (a.val ρ) (b.val ρ):=by
 unfold nf0
 show _=if a.val ρ≤b.val ρ then a.val ρ else b.val ρ
 split
 ·rename_i n hn
  have h:=hT.look hn
  split
  ·rw[if_pos (ij.2 (by rw[h];decide))]
  ·rw[if_neg (fun hc=>by have:=ij.1 hc;rw[h] at this;simp at this;omega)]
 ·rename_i n hn
  have h:=hT.look hn
  rw[if_pos (ij.2 (by rw[h];exact Int.le_of_lt (Int.negSucc_lt_zero _)))]
 ·rfl
theorem DG (hT:TOK ρ σ T) (a b:SE):(nf1 T a b).val ρ=zY 1 (a.val ρ) (b.val ρ):=by
 unfold nf1
 show _=if a.val ρ≤b.val ρ then b.val ρ else a.val ρ
 split
 ·rename_i n hn
  have h:=hT.look hn
  split
  ·rename_i hc
   have h2:=ij.1 hc
   rw[h] at h2
   have:sg (a.val ρ) (b.val ρ)=0:=by rw[h];have:(Int.ofNat n)=(n:Int):=rfl;omega
   exact cW.1 this
  ·rfl
 ·rename_i n hn
  have h:=hT.look hn
  rw[if_pos (ij.2 (by rw[h];exact Int.le_of_lt (Int.negSucc_lt_zero _)))]
 ·rfl
theorem Gz (s:Int):le0 s=true↔s≤0:=by
 cases s with
 | ofNat n=>cases n with
  | zero=>simp[le0]
  | succ n=>simp only[le0,Bool.false_eq_true,false_iff];have:Int.ofNat (n+1)=((n+1:Nat):Int):=rfl;omega
 | negSucc n=>simp only[le0,true_iff];exact Int.le_of_lt (Int.negSucc_lt_zero _)
theorem Gj (s:Int):ge0 s=true↔0≤s:=by
 cases s with
 | ofNat n=>simp[ge0]
 | negSucc n=>simp[ge0]
theorem JC (hT:TOK ρ σ T) (k:Nat) (a b:SE):(nfB T k a b).val ρ=zY k (a.val ρ) (b.val ρ):=by
 unfold nfB
 split
 ·exact DF hT a b
 ·exact DG hT a b
 ·split
  ·rename_i s t hs ht
   have h1:=hT.look hs
   have h2:=hT.look ht
   have e0:(SE.int 0).val ρ=0:=rfl
   rw[e0] at h1 h2
   have h3:(a.val ρ≤0∧0≤b.val ρ)↔(le0 s&&ge0 t)=true:=by
    rw[Bool.and_eq_true,Gz,Gj,ij,h1,ij,gD,h2]
    omega
   show _=if a.val ρ≤0∧0≤b.val ρ then 0 else _
   split
   ·rename_i hc
    rw[if_pos (h3.2 hc)];rfl
   ·rename_i hc
    rw[if_neg (fun h=>by have:=h3.1 h;rw[hc] at this;cases this)]
    exact DF hT _ _
  ·rfl
 ·rw[DG hT]
  show (if b.val ρ*b.val ρ≤a.val ρ*a.val ρ then a.val ρ*a.val ρ else b.val ρ*b.val ρ)=if a.val ρ*a.val ρ≤b.val ρ*b.val ρ then b.val ρ*b.val ρ else a.val ρ*a.val ρ
  split<;>split<;>grind
 ·rfl
theorem iX (hT:TOK ρ σ T):∀ e:SE,(nf T e).val ρ=e.val ρ
 | .v _=>rfl
 | .int _=>rfl
 | .add a b=>by simp only[nf,SE.val,iX hT a,iX hT b]
 | .sub a b=>by simp only[nf,SE.val,iX hT a,iX hT b]
 | .mul a b=>by simp only[nf,SE.val,iX hT a,iX hT b]
 | .quo a b=>by simp only[nf,SE.val,iX hT a,iX hT b]
 | .neg a=>by simp only[nf,SE.val,iX hT a]
 | .bin k a b=>by rw[nf,JC hT,iX hT a,iX hT b];rfl
end
def Bc (e:SE):List (SE × SE × Int)→SE
 | []=>e
 |(x,y,s)::l=>match s with
  | .ofNat n=>match n with
   | 0=>match SE.eq e x with
    | true=>y
    | false=>Bc e l
   | _+1=>Bc e l
  | .negSucc _=>Bc e l
theorem zj {ρ:Nat→Rat} (e:SE):∀ l:List (SE × SE × Int),(∀ x∈l,sg (x.1.val ρ) (x.2.1.val ρ)=x.2.2)→(Bc e l).val ρ=e.val ρ
 | [],_=>rfl
 |(x,y,s)::l,h=>by
  have ih:=zj e l fun z hz=>h z (List.mem_cons_of_mem _ hz)
  rw[Bc.eq_def]
  simp only
  split
  ·split
   ·split
    ·rename_i he
     rw[SE.eq_eq _ _ he]
     exact (cW.1 (h _ List.mem_cons_self)).symm
    ·exact ih
   ·exact ih
  ·exact ih
def nfR (T:PT) (e:SE):SE:=Bc (nf T e) T.cmp
theorem DH {ρ:Nat→Rat} {σ:Nat→ByteArray} {T:PT} (hT:TOK ρ σ T) (e:SE):(nfR T e).val ρ=e.val ρ:=(zj _ _ hT.cmp).trans (iX hT e)
def nfS (T:PT):Sy→Sy
 | .nc e i=>.nc (nfR T e) i
 | .ss e=>.ss (nfR T e)
 | s=>s
def nfA (T:PT):AV→AV
 | .sym s=>.sym (nfS T s)
 | a=>a
def nfT (T:PT):AV→AV
 | .agg l=>.agg (l.map (nfA T))
 | a=>nfA T a
def nrm (T:PT):AV→AV
 | .tup l=>.tup (l.map (nfT T))
 | a=>nfT T a
def kf:List AV→List AV
 | a::b::c::d::l=>match GB [a,b,c,d] with
  | some e=>.sym (.nc e 0) :: .sym (.nc e 1) :: .sym (.nc e 2) :: .sym (.nc e 3)::kf l
  | none=>a::kf (b::c::d::l)
 | l=>l
def Dn:AV→AV
 | .str l=>match xt l with
  | some e=>.sym (.ss e)
  | none=>.str l
 | a=>a
def yI:AV→AV
 | .agg l=>.agg ((kf l).map Dn)
 | a=>a
def Dl:AV→AV
 | .tup l=>.tup (l.map yI)
 | a=>yI a
section
variable {ρ : Nat → Rat} {σ : Nat → ByteArray} {T : PT} [Unk] [Glob]
theorem xD (hT:Sem ρ σ T) {m:Nm} {w:World} (a:AV) (v:Value):RV m w (nfA T a) v↔RV m w a v:=by
 cases a with
 | sym s=>
  unfold nfA
  rw[RV,RV,hT.is,hT.is]
  cases s with
  | nc e i=>unfold nfS km;simp only;rw[DH hT.ok]
  | ss e=>unfold nfS km;simp only;rw[DH hT.ok]
  | _=>exact Iff.rfl
 | _=>exact Iff.rfl
theorem mZ {g:AV→AV} {m:Nm} {w:World} (h:∀ a v,RV m w (g a) v↔RV m w a v):∀ (l:List AV) (vs:List Value),RVs m w (l.map g) vs↔RVs m w l vs
 | [],vs=>by rw[List.map_nil]
 | a::l,vs=>by
  rw[List.map_cons,RVs,RVs]
  constructor
  ·rintro ⟨v,l',rfl,h1,h2⟩;exact⟨v,l',rfl,(h a v).1 h1,(mZ h l l').1 h2⟩
  ·rintro ⟨v,l',rfl,h1,h2⟩;exact⟨v,l',rfl,(h a v).2 h1,(mZ h l l').2 h2⟩
theorem tz {g:AV→AV} {m:Nm} {w:World} (h:∀ a v,RV m w a v→RV m w (g a) v):∀ (l:List AV) (vs:List Value),RVs m w l vs→RVs m w (l.map g) vs
 | [],vs,hv=>by rw[List.map_nil];exact hv
 | a::l,vs,hv=>by
  rw[List.map_cons]
  rw[RVs] at hv ⊢
  obtain⟨v,l',rfl,h1,h2⟩:=hv
  exact⟨v,l',rfl,h a v h1,tz h l l' h2⟩
theorem xE (hT:Sem ρ σ T) {m:Nm} {w:World} (a:AV) (v:Value):RV m w (nfT T a) v↔RV m w a v:=by
 have H:=xD hT (m:=m) (w:=w) a v
 cases a with
 | agg l=>
  unfold nfT
  rw[RV,RV]
  constructor
  ·rintro ⟨l',rfl,h⟩;exact⟨l',rfl,(mZ (xD hT) _ _).1 h⟩
  ·rintro ⟨l',rfl,h⟩;exact⟨l',rfl,(mZ (xD hT) _ _).2 h⟩
 | _=>exact H
theorem DI (hT:Sem ρ σ T) {m:Nm} {w:World} (a:AV) (v:Value):RV m w (nrm T a) v↔RV m w a v:=by
 have H:=xE hT (m:=m) (w:=w) a v
 cases a with
 | tup l=>
  unfold nrm
  rw[RV,RV]
  constructor
  ·rintro ⟨l',rfl,h⟩;exact⟨l',rfl,(mZ (xE hT) _ _).1 h⟩
  ·rintro ⟨l',rfl,h⟩;exact⟨l',rfl,(mZ (xE hT) _ _).2 h⟩
 | _=>exact H
theorem vd (hT:Sem ρ σ T) {m:Nm} {w:World} (l:List AV) (vs:List Value) (h:RVs m w l vs):RVs m w (kf l) vs:=by
 induction l using kf.induct generalizing vs with
 | case1 a b c d l e he ih=>
  rw[kf,he]
  have h':=h
  rw[RVs] at h
  obtain⟨v0,l0,rfl,h0,h⟩:=h
  rw[RVs] at h
  obtain⟨v1,l1,rfl,h1,h⟩:=h
  rw[RVs] at h
  obtain⟨v2,l2,rfl,h2,h⟩:=h
  rw[RVs] at h
  obtain⟨v3,l3,rfl,h3,h⟩:=h
  have h4:RVs m w [a,b,c,d] [v0,v1,v2,v3]:=by
   rw[RVs];refine ⟨_,_,rfl,h0,?_⟩
   rw[RVs];refine ⟨_,_,rfl,h1,?_⟩
   rw[RVs];refine ⟨_,_,rfl,h2,?_⟩
   rw[RVs];exact⟨_,_,rfl,h3,by rw[RVs]⟩
  obtain⟨x0,x1,x2,x3,hx,q0,q1,q2,q3⟩:=yJ (ρ:=ρ) he h4
  simp only[Value.agg.injEq,Array.mk.injEq,List.cons.injEq,and_true] at hx
  obtain⟨rfl,rfl,rfl,rfl⟩:=hx
  simp only
  rw[RVs];refine ⟨_,_,rfl,by rw[RV,hT.is];exact q0,?_⟩
  rw[RVs];refine ⟨_,_,rfl,by rw[RV,hT.is];exact q1,?_⟩
  rw[RVs];refine ⟨_,_,rfl,by rw[RV,hT.is];exact q2,?_⟩
  rw[RVs];exact⟨_,_,rfl,by rw[RV,hT.is];exact q3,ih _ h⟩
 | case2 a b c d l he ih=>
  rw[kf,he]
  simp only
  rw[RVs] at h ⊢
  obtain⟨v0,l0,rfl,h0,h⟩:=h
  exact⟨v0,l0,rfl,h0,ih _ h⟩
 | case3 l hl=>
  rw[kf]
  ·exact h
  ·exact hl
theorem Dp (hT:Sem ρ σ T) {m:Nm} {w:World} (a:AV) (v:Value) (h:RV m w a v):RV m w (Dn a) v:=by
 cases a with
 | str l=>
  unfold Dn
  simp only
  split
  ·rename_i e he
   rw[RV] at h
   subst h
   exact su hT (tp he)
  ·exact h
 | _=>exact h
theorem ve (hT:Sem ρ σ T) {m:Nm} {w:World} (a:AV) (v:Value) (h:RV m w a v):RV m w (yI a) v:=by
 cases a with
 | agg l=>
  unfold yI
  rw[RV] at h ⊢
  obtain⟨l',rfl,h⟩:=h
  exact⟨l',rfl,tz (Dp hT) _ _ (vd hT _ _ h)⟩
 | _=>exact h
theorem Dm (hT:Sem ρ σ T) {m:Nm} {w:World} (a:AV) (v:Value) (h:RV m w a v):RV m w (Dl a) v:=by
 have H:=ve hT (m:=m) (w:=w) a v h
 cases a with
 | tup l=>
  unfold Dl
  rw[RV] at h ⊢
  obtain⟨l',rfl,h⟩:=h
  exact⟨l',rfl,tz (ve hT) _ _ h⟩
 | _=>exact H
def ru (T:PT) (E:Env) (fuel d:Nat) (f:FuncId) (args:List AV) (av:AV):Bool:=
 nm args&&iY av&&Nat.blt f 4294967296&&match xm E fuel d f args ⟨.lf,0,0⟩ with
  | some (av',_)=>da (nrm T (Dl av')) (nrm T av)
  | none=>false
theorem GQ (hT:Sem ρ σ T) {P:Program} {E:Env} {fuel d:Nat} {f:FuncId} {args:List AV} {av:AV} (hm:P.follows .mixedOrders=true) (hty:∀ t ti,E.ty.get t=some ti→TyOK P t ti) (hfn:tZ P E ff) (hpr:fG P E)
  (hb:∀ fn,P.funcs[f]?=some fn→fn.body.isNone=false) (h:ru T E fuel d f args av=true) (m:Nm) (w:World) (hf:Hf) (vals:List Value) (hv:RVs m w args vals) (hs:RS m w hf) :
  Calls P f vals.toArray w fun e w'=>∃ v,e=.returned v∧RV m w' av v∧Below w.heap.size w w':=by
 unfold ru at h
 simp only[Bool.and_eq_true] at h
 obtain⟨⟨⟨h1,h2⟩,hf0⟩,h3⟩:=h
 split at h3
 ·rename_i av' st' hr
  have he:=lB _ _ h3
  rcases (rW hm hty hfn hpr d f args _ _ _ hr).1 (Nat.le_of_ble_eq_true hf0) with ⟨g1,g2,g3⟩|⟨_,⟨fn,g1,g2⟩,_⟩
  ·have hg:∀ b,(Tr.lf:AH).get b=none:=fun b=>rfl
   refine (g3 (fun _=>none) w vals (fA _ _ h1 hv) ⟨fun b cells rb hb' hm'=>(by cases hm'),fun b b' x hb' hb2 hm' hm2=>(by cases hm'),fun g as hga=>⟨(hs.glob g as hga).1,fun b hb'=>absurd (hg b) hb'⟩⟩ (fun b _=>hg b) (fun b _ _=>rfl)).mono ?_
   rintro e w' ⟨v,m',rfl,q1,q2,q3,q4⟩
   have q5:=(DI hT _ _).2 (Dm hT _ _ q1)
   rw[he] at q5
   refine ⟨v,rfl,pY _ _ h2 ((DI hT _ _).1 q5),?_⟩
   exact⟨q3.env.1,q3.env.2.1,q3.env.2.2,q3.grow.1,fun b hb'=>q3.keep b hb' fun b' hb2=>absurd (hg b') hb2⟩
  ·have:=hb fn g1
   rw[g2] at this
   cases this
 ·cases h3
end
abbrev Cc [Glob] (w:World):Prop:=jf (fun _=>none) w (fun _=>none)
def Yields [Glob] (P:Program) (ρ:Nat→Rat) (σ:Nat→ByteArray) (f:FuncId) (args:List AV) (av:AV):Prop:=
 ∃ (U:Unk) (T:PT),@Sem U ρ σ T∧∀ (w:World) (vals:List Value),Cc w→@RVs U (fun _=>none) w args vals →
  Calls P f vals.toArray w fun e w'=>∃ v,e=.returned v∧@RV U (fun _=>none) w' av v∧Below w.heap.size w w'
def gO (ρ:Nat→Rat) (σ:Nat→ByteArray) (L:List PT):Prop:=∃ T∈L,TOK ρ σ T
theorem leaf [Glob] {ρ:Nat→Rat} {σ:Nat→ByteArray} {L:List PT} (hL:gO ρ σ L) {P:Program} {E:PT→Env} {fuel d:Nat} {f:FuncId} {args:List AV} {av:AV} (hm:P.follows .mixedOrders=true) (hty:∀ T,∀ t ti,(E T).ty.get t=some ti→TyOK P t ti) (hfn:∀ T,tZ P (E T) ff)
  (hpr:∀ (U:Unk) T,@Sem U ρ σ T→@fG U _ P (E T)) (hb:∀ fn,P.funcs[f]?=some fn→fn.body.isNone=false) (h:(L.all fun T=>@ru (gZ ρ σ T) _ T (E T) fuel d f args av)=true):Yields P ρ σ f args av:=by
 obtain⟨T,hm',hT⟩:=hL
 exact⟨gZ ρ σ T,T,xW hT,fun w vals ht hv=>@GQ ρ σ T (gZ ρ σ T) _ (xW hT) P (E T) fuel d f args av hm (hty T) (hfn T) (hpr _ T (xW hT)) hb (List.all_eq_true.1 h T hm') (fun _=>none) w (fun _=>none) vals hv (@RS.mk (gZ ρ σ T) _ _ _ _ (fun b cells rb h1 h2=>by cases h2) (fun b b' x h1 h2 h3=>by cases h3) ht)⟩
def PT.add (T:PT) (a b:SE) (s:Int):PT:={ T with cmp:=(a,b,s)::T.cmp }
theorem TOK.add {ρ:Nat→Rat} {σ:Nat→ByteArray} {T:PT} (hT:TOK ρ σ T) {a b:SE} {s:Int} (h:sg (a.val ρ) (b.val ρ)=s):TOK ρ σ (T.add a b s):=
 ⟨fun x hx=>by
  rcases List.mem_cons.1 hx with rfl|hx
  ·exact h
  ·exact hT.cmp x hx,hT.chk,hT.says,hT.len,hT.clen,hT.lrg,hT.le,hT.few,hT.bd⟩
section
variable {ρ : Nat → Rat} {σ : Nat → ByteArray} {L : List PT}
theorem gO.one {T:PT} (h:TOK ρ σ T):gO ρ σ [T]:=⟨T,List.mem_cons_self,h⟩
def sp2 (a b:SE) (L:List PT):List PT:=L.flatMap fun T=>[T.add a b (-1),T.add a b 0]
theorem gO.sp2 (h:gO ρ σ L) {a b:SE} (hle:a.val ρ≤b.val ρ):gO ρ σ (sp2 a b L):=by
 obtain⟨T,hm,hT⟩:=h
 have h1:=ij.1 hle
 rcases eg (a.val ρ) (b.val ρ) with h|h|h
 ·exact⟨_,List.mem_flatMap.2 ⟨T,hm,by simp⟩,hT.add h⟩
 ·exact⟨_,List.mem_flatMap.2 ⟨T,hm,by simp⟩,hT.add h⟩
 ·omega
structure Ends where
 T:PT
 lo:SE
 hi:SE
 one:Bool
theorem iZ {x y:Rat}:sg x y = -1↔x<y:=by
 have h1:=@ij x y
 have h2:=@ij y x
 rw[gD] at h2
 rw[←Rat.not_le,h2]
 have:=eg x y
 omega
end
def wu (n K:Nat):PT:=⟨[],(List.range n).map fun i=>(i,0),[],[],[],K⟩
def sig (ss:List ByteArray) (i:Nat):ByteArray:=ss.getD i ⟨#[]⟩
end Go.Sx
namespace Go.Sx
open LimbNum DigNum Go.RowKit
abbrev Sb:=List (Nat × SE)
def zo (θ:Sb) (i:Nat):SE:=match θ with
 | []=>.int 0
 |(j,e)::l=>match Nat.beq i j with
  | true=>e
  | false=>zo l i
def SE.eN (θ:Sb):SE→SE
 | .v i=>zo θ i
 | .int n=>.int n
 | .add a b=>.add (a.eN θ) (b.eN θ)
 | .sub a b=>.sub (a.eN θ) (b.eN θ)
 | .mul a b=>.mul (a.eN θ) (b.eN θ)
 | .quo a b=>.quo (a.eN θ) (b.eN θ)
 | .neg a=>.neg (a.eN θ)
 | .bin k a b=>.bin k (a.eN θ) (b.eN θ)
def jc (ρ:Nat→Rat) (θ:Sb) (i:Nat):Rat:=(zo θ i).val ρ
theorem cj (ρ:Nat→Rat) (θ:Sb):∀ e:SE,(e.eN θ).val ρ=e.val (jc ρ θ)
 | .v _=>rfl
 | .int _=>rfl
 | .add a b=>by simp only[SE.eN,SE.val,cj ρ θ a,cj ρ θ b]
 | .sub a b=>by simp only[SE.eN,SE.val,cj ρ θ a,cj ρ θ b]
 | .mul a b=>by simp only[SE.eN,SE.val,cj ρ θ a,cj ρ θ b]
 | .quo a b=>by simp only[SE.eN,SE.val,cj ρ θ a,cj ρ θ b]
 | .neg a=>by simp only[SE.eN,SE.val,cj ρ θ a]
 | .bin k a b=>by simp only[SE.eN,SE.val,cj ρ θ a,cj ρ θ b]
def plain:AV→Bool
 | .bool _ | .int _ _ | .float _ _ | .str _ | .nilp | .nils | .nilm | .nilf=>true
 | .fn _ cs=>match cs with
  | []=>true
  | _=>false
 | _=>false
theorem vH {U U':Unk} {m m':Nm} {w w':World} {a:AV} {v:Value} (h:plain a=true) (hv:@RV U m w a v):@RV U' m' w' a v:=by
 cases a<;>simp only[plain,Bool.false_eq_true] at h
 case fn f cs=>
  cases cs with
  | nil=>
   rw[@RV.eq_def U] at hv
   rw[@RV.eq_def U']
   obtain⟨l,h1,h2⟩:=hv
   rw[@RVs.eq_def U] at h2
   exact⟨l,h1,by rw[@RVs.eq_def U'];exact h2⟩
  | cons _ _=>simp at h
 all_goals
  rw[@RV.eq_def U] at hv
  rw[@RV.eq_def U']
  exact hv
def Gd (T:PT) (θ:Sb) (p a:AV):Bool:=match p with
 | .sym s=>match s with
  | .nc e k=>match a with
   | .sym (.nc e' k')=>SE.eq (e.eN θ) e'&&Nat.beq k k'
   | _=>false
  | .ss e=>match rA T a with
   | some e'=>SE.eq (e.eN θ) e'
   | none=>false
  | _=>false
 | p=>plain p&&da p a
def Ge (T:PT) (θ:Sb):List AV→List AV→Bool
 | [],[]=>true
 | p::l,a::l'=>Gd T θ p a&&Ge T θ l l'
 | _,_=>false
def Jl (T:PT) (θ:Sb) (p a:AV):Bool:=match p with
 | .agg l=>match a with
  | .agg l'=>Ge T θ l (kf l')
  | _=>false
 | p=>Gd T θ p a
def yy (T:PT) (θ:Sb):List AV→List AV→Bool
 | [],[]=>true
 | p::l,a::l'=>Jl T θ p a&&yy T θ l l'
 | _,_=>false
def bJ (θ:Sb):AV→AV
 | .sym s=>match s with
  | .nc e k=>.sym (.nc (e.eN θ) k)
  | .ss e=>.sym (.ss (e.eN θ))
  | s=>.sym s
 | a=>a
def Ig (θ:Sb):AV→AV
 | .agg l=>.agg (l.map (bJ θ))
 | a=>bJ θ a
def Kg (θ:Sb):AV→AV
 | .tup l=>.tup (l.map (Ig θ))
 | a=>Ig θ a
def JM:AV→Bool
 | .sym s=>match s with
  | .nc _ _=>true
  | .ss _=>true
  | _=>false
 | a=>plain a
def JN:AV→Bool
 | .agg l=>l.all JM
 | a=>JM a
def JL:AV→Bool
 | .tup l=>l.all JN
 | a=>JN a
section
variable {U U' : Unk} [Glob] {ρ : Nat → Rat} {σ σ' : Nat → ByteArray} {T T' : PT} {θ : Sb}
theorem yz (hT:@Sem U ρ σ T) (hT':@Sem U' (jc ρ θ) σ' T') {p a:AV} {m m':Nm} {w:World} {v:Value} (h:Gd T θ p a=true) (hv:@RV U m w a v):@RV U' m' w p v:=by
 unfold Gd at h
 split at h
 ·split at h
  ·rename_i e k
   split at h
   ·rename_i e' k'
    rw[Bool.and_eq_true] at h
    have e1:=SE.eq_eq _ _ h.1
    have e2:=Nat.eq_of_beq_eq_true h.2
    subst e1 e2
    rw[@RV.eq_def U] at hv
    rw[@RV.eq_def U']
    simp only at hv ⊢
    rw[@Sem.is U _ _ _ hT] at hv
    rw[@Sem.is U' _ _ _ hT']
    have hv':fW ((e.eN θ).val ρ) k w v:=hv
    rw[cj] at hv'
    exact hv'
   ·cases h
  ·rename_i e
   split at h
   ·rename_i e' he
    have e1:=SE.eq_eq _ _ h
    subst e1
    obtain⟨s,rfl,hs⟩:=@oV _ _ _ U _ hT _ _ _ _ _ he hv
    rw[cj] at hs
    exact @su _ _ _ U' _ hT' _ _ _ _ hs
   ·cases h
  ·cases h
 ·rw[Bool.and_eq_true] at h
  have:=lB _ _ h.2
  subst this
  exact vH h.1 hv
theorem yA (hT:@Sem U ρ σ T) (hT':@Sem U' (jc ρ θ) σ' T') {m m':Nm} {w:World}:∀ (p a:List AV) (v:List Value),Ge T θ p a=true→@RVs U m w a v→@RVs U' m' w p v
 | [],[],v,_,hv=>by rw[@RVs.eq_def U] at hv;rw[@RVs.eq_def U'];exact hv
 | p::l,a::l',v,h,hv=>by
  rw[Ge,Bool.and_eq_true] at h
  rw[@RVs.eq_def U] at hv
  rw[@RVs.eq_def U']
  obtain⟨x,xs,rfl,h1,h2⟩:=hv
  exact⟨x,xs,rfl,yz hT hT' h.1 h1,yA hT hT' l l' xs h.2 h2⟩
theorem Gc (hT:@Sem U ρ σ T) (hT':@Sem U' (jc ρ θ) σ' T') {p a:AV} {m m':Nm} {w:World} {v:Value} (h:Jl T θ p a=true) (hv:@RV U m w a v):@RV U' m' w p v:=by
 unfold Jl at h
 split at h
 ·split at h
  ·rw[@RV.eq_def U] at hv
   rw[@RV.eq_def U']
   obtain⟨l,rfl,hv⟩:=hv
   exact⟨l,rfl,yA hT hT' _ _ _ h (@vd _ _ _ U _ hT _ _ _ _ hv)⟩
  ·cases h
 ·exact yz hT hT' h hv
theorem uH (hT:@Sem U ρ σ T) (hT':@Sem U' (jc ρ θ) σ' T') {m m':Nm} {w:World}:∀ (p a:List AV) (v:List Value),yy T θ p a=true→@RVs U m w a v→@RVs U' m' w p v
 | [],[],v,_,hv=>by rw[@RVs.eq_def U] at hv;rw[@RVs.eq_def U'];exact hv
 | p::l,a::l',v,h,hv=>by
  rw[yy,Bool.and_eq_true] at h
  rw[@RVs.eq_def U] at hv
  rw[@RVs.eq_def U']
  obtain⟨x,xs,rfl,h1,h2⟩:=hv
  exact⟨x,xs,rfl,Gc hT hT' h.1 h1,uH hT hT' l l' xs h.2 h2⟩
theorem zw (hT:@Sem U ρ σ T) (hT':@Sem U' (jc ρ θ) σ' T') {m m':Nm} {w:World} (a:AV) (v:Value) (ho:JM a=true) (hv:@RV U' m' w a v):@RV U m w (bJ θ a) v:=by
 cases a with
 | sym s=>
  cases s with
  | nc e k=>
   rw[@RV.eq_def U'] at hv
   simp only at hv
   rw[@Sem.is U' _ _ _ hT'] at hv
   unfold bJ
   rw[@RV.eq_def U]
   simp only
   rw[@Sem.is U _ _ _ hT]
   have hv':fW (e.val (jc ρ θ)) k w v:=hv
   show fW ((e.eN θ).val ρ) k w v
   rw[cj]
   exact hv'
  | ss e=>
   rw[@RV.eq_def U'] at hv
   simp only at hv
   rw[@Sem.is U' _ _ _ hT'] at hv
   unfold bJ
   rw[@RV.eq_def U]
   simp only
   rw[@Sem.is U _ _ _ hT]
   have hv':∃ s,v=.string s∧aG s (e.val (jc ρ θ)):=hv
   show ∃ s,v=.string s∧aG s ((e.eN θ).val ρ)
   rw[cj]
   exact hv'
  | _=>cases ho
 | _=>exact vH ho hv
theorem tI {g:AV→AV} {o:AV→Bool} {m m':Nm} {w:World} (H:∀ a v,o a=true→@RV U' m' w a v→@RV U m w (g a) v):∀ (l:List AV) (vs:List Value),l.all o=true→@RVs U' m' w l vs→@RVs U m w (l.map g) vs
 | [],vs,_,hv=>by rw[@RVs.eq_def U'] at hv;rw[List.map_nil,@RVs.eq_def U];exact hv
 | a::l,vs,h,hv=>by
  rw[List.all_cons,Bool.and_eq_true] at h
  rw[@RVs.eq_def U'] at hv
  rw[List.map_cons,@RVs.eq_def U]
  obtain⟨x,xs,rfl,h1,h2⟩:=hv
  exact⟨x,xs,rfl,H a x h.1 h1,tI H l xs h.2 h2⟩
theorem zx (hT:@Sem U ρ σ T) (hT':@Sem U' (jc ρ θ) σ' T') {m m':Nm} {w:World} (a:AV) (v:Value) (ho:JN a=true) (hv:@RV U' m' w a v):@RV U m w (Ig θ a) v:=by
 have H:=fun h=>zw (m:=m) hT hT' a v h hv
 cases a with
 | agg l=>
  unfold Ig
  rw[@RV.eq_def U'] at hv
  rw[@RV.eq_def U]
  obtain⟨l',rfl,hv⟩:=hv
  exact⟨l',rfl,tI (zw hT hT') _ _ ho hv⟩
 | _=>exact H ho
theorem Ie (hT:@Sem U ρ σ T) (hT':@Sem U' (jc ρ θ) σ' T') {m m':Nm} {w:World} (a:AV) (v:Value) (ho:JL a=true) (hv:@RV U' m' w a v):@RV U m w (Kg θ a) v:=by
 have H:=fun h=>zx (m:=m) hT hT' a v h hv
 cases a with
 | tup l=>
  unfold Kg
  rw[@RV.eq_def U'] at hv
  rw[@RV.eq_def U]
  obtain⟨l',rfl,hv⟩:=hv
  exact⟨l',rfl,tI (zx hT hT') _ _ ho hv⟩
 | _=>exact H ho
end
def IQ (T:PT) (p a:AV) (θ:Sb):Sb:=match p with
 | .sym s=>match s with
  | .nc (.v i) 0=>match a with
   | .sym (.nc e _)=>(i,e)::θ
   | _=>θ
  | .ss (.v i)=>match rA T a with
   | some e=>(i,e)::θ
   | none=>θ
  | _=>θ
 | _=>θ
def IS (T:PT):List AV→List AV→Sb→Sb
 | p::l,a::l',θ=>IS T l l' (IQ T p a θ)
 | _,_,θ=>θ
def Lc (T:PT) (p a:AV) (θ:Sb):Sb:=match p with
 | .agg l=>match a with
  | .agg l'=>IS T l (kf l') θ
  | _=>θ
 | p=>IQ T p a θ
def xV (T:PT):List AV→List AV→Sb→Sb
 | p::l,a::l',θ=>xV T l l' (Lc T p a θ)
 | _,_,θ=>θ
structure Rule where
 args:List AV
 out:AV
 K:Nat
 need:List (SE × SE × Bool)
def BR (ρ:Nat→Rat) (c:SE × SE × Bool):Prop:=match c.2.2 with
 | true=>c.1.val ρ<c.2.1.val ρ
 | false=>c.1.val ρ≤c.2.1.val ρ
def iA [Glob] (P:Program) (f:FuncId) (r:Rule):Prop:=JL r.out=true∧∀ ρ:Nat→Rat,(∀ i,Bd (ρ i) r.K)→(∀ c∈r.need,BR ρ c)→Yields P ρ (fun _=>⟨#[]⟩) f r.args r.out
def yQ (a b:SE):List (SE × SE)→Bool
 | []=>false
 |(x,y)::l=>match SE.eq a x&&SE.eq b y with
  | true=>true
  | false=>yQ a b l
theorem vu {a b:SE}:∀ l:List (SE × SE),yQ a b l=true→(a,b)∈l
 | [],h=>by cases h
 |(x,y)::l,h=>by
  rw[yQ] at h
  split at h
  ·rename_i he
   rw[Bool.and_eq_true] at he
   rw[SE.eq_eq _ _ he.1,SE.eq_eq _ _ he.2]
   exact List.mem_cons_self
  ·exact List.mem_cons_of_mem _ (vu l h)
def DC (T:PT) (a b:SE) (strict:Bool):Bool:=match T.look a b with
 | some s=>match s with
  | .negSucc _=>true
  | .ofNat n=>match strict with
   | true=>false
   | false=>Nat.beq n 0
 | none=>match strict with
  | true=>false
  | false=>yQ a b T.le
def DA (T:PT) (θ:Sb) (c:SE × SE × Bool):Bool:=DC T (c.1.eN θ) (c.2.1.eN θ) c.2.2
def EA (T:PT) (K:Nat) (θ:Sb):Bool:=Nat.ble 1 K&&θ.all fun x=>Nat.ble (x.2.bd T.K) K
def Eb (T:PT) (r:Rule) (a:List AV) (θ:Sb):Option AV:=match yy T θ r.args a&&(EA T r.K θ&&r.need.all (DA T θ)) with
 | true=>some (Kg θ r.out)
 | false=>none
def Ea (T:PT) (r:Rule):Prm:=fun _ a=>Eb T r a (xV T r.args a [])
theorem DB {ρ:Nat→Rat} {σ:Nat→ByteArray} {T:PT} (hT:TOK ρ σ T) {θ:Sb} {c:SE × SE × Bool} (h:DA T θ c=true):BR (jc ρ θ) c:=by
 unfold DA DC at h
 split at h
 ·rename_i s hs
  have hl:=hT.look hs
  rw[cj,cj] at hl
  unfold BR
  split at h
  ·rename_i n
   have h1:sg (c.1.val (jc ρ θ)) (c.2.1.val (jc ρ θ)) = -1:=by
    rcases eg (c.1.val (jc ρ θ)) (c.2.1.val (jc ρ θ)) with h|h|h
    ·exact h
    ·rw[h] at hl;cases hl
    ·rw[h] at hl;cases hl
   split
   ·exact iZ.1 h1
   ·exact Rat.le_of_lt (iZ.1 h1)
  ·rename_i n
   cases hc:c.2.2 with
   | true=>rw[hc] at h;cases h
   | false=>
    rw[hc] at h
    have:=Nat.eq_of_beq_eq_true h
    subst this
    exact ij.2 (by rw[hl];decide)
 ·unfold BR
  cases hc:c.2.2 with
  | true=>rw[hc] at h;cases h
  | false=>
   rw[hc] at h
   have:=hT.le _ (vu _ h)
   simp only at this
   rw[cj,cj] at this
   exact this
theorem EB {ρ:Nat→Rat} {σ:Nat→ByteArray} {T:PT} (hT:TOK ρ σ T) {K:Nat} {θ:Sb} (h:EA T K θ=true) (i:Nat):Bd (jc ρ θ i) K:=by
 unfold EA at h
 rw[Bool.and_eq_true] at h
 have hK:=Nat.le_of_ble_eq_true h.1
 have h2:=h.2
 clear h
 unfold jc
 induction θ with
 | nil=>exact lA hK
 | cons x l ih=>
  rw[List.all_cons,Bool.and_eq_true] at h2
  obtain⟨j,e⟩:=x
  rw[zo]
  split
  ·exact (SE.gf hT.bd e).mono (Nat.le_of_ble_eq_true h2.1)
  ·exact ih h2.2
theorem GU [Glob] {P:Program} {f:FuncId} {r:Rule} (hr:iA P f r) {U:Unk} {ρ:Nat→Rat} {σ:Nat→ByteArray} {T:PT} (hT:@Sem U ρ σ T):@ay U _ P f (Ea T r):=by
 intro h args av hg m w vals hv hs
 unfold Ea Eb at hg
 generalize xV T r.args args []=θ at hg
 split at hg
 ·rename_i hc
  cases hg
  rw[Bool.and_eq_true,Bool.and_eq_true] at hc
  obtain⟨h1,h2,h3⟩:=hc
  have hgl:Cc w:=fun g as hga=>⟨(hs.glob g as hga).1,fun b hb=>absurd rfl hb⟩
  obtain⟨U',T',hT',H⟩:=hr.2 (jc ρ θ) (EB (@Sem.ok U _ _ _ hT) h2) (fun c hc=>DB (@Sem.ok U _ _ _ hT) (List.all_eq_true.1 h3 c hc))
  refine (H w vals hgl (uH hT hT' _ _ _ h1 hv)).mono ?_
  rintro e w' ⟨v,rfl,q1,q2⟩
  exact⟨v,rfl,Ie hT hT' _ _ hr.1 q1,q2⟩
 ·cases hg
end Go.Sx
namespace Go.Sx
open LimbNum DigNum Go.RowKit
def isI:SE→Bool
 | .int _=>true
 | .add a b=>isI a&&isI b
 | .mul a b=>isI a&&isI b
 | .bin k _ _=>Nat.ble 4 k&&Nat.ble k 7
 | _=>false
theorem pJ (ρ:Nat→Rat):∀ e:SE,isI e=true→(((e.val ρ).num:Int):Rat)=e.val ρ
 | .int n,_=>by show (((n:Rat).num:Int):Rat)=(n:Rat);rw[Rat.num_intCast]
 | .add a b,h=>by
  rw[isI,Bool.and_eq_true] at h
  have h1:=pJ ρ a h.1
  have h2:=pJ ρ b h.2
  show (((a.val ρ+b.val ρ).num:Int):Rat)=a.val ρ+b.val ρ
  rw[←h1,←h2,←Rat.intCast_add,Rat.num_intCast]
 | .mul a b,h=>by
  rw[isI,Bool.and_eq_true] at h
  have h1:=pJ ρ a h.1
  have h2:=pJ ρ b h.2
  show (((a.val ρ*b.val ρ).num:Int):Rat)=a.val ρ*b.val ρ
  rw[←h1,←h2,←Rat.intCast_mul,Rat.num_intCast]
 | .bin k a b,h=>by
  rw[isI,Bool.and_eq_true] at h
  have h1:=Nat.le_of_ble_eq_true h.1
  have h2:=Nat.le_of_ble_eq_true h.2
  have hk:k=4∨k=5∨k=6∨k=7:=by omega
  rcases hk with rfl|rfl|rfl|rfl
  ·show ((((a.val ρ).num:Rat).num:Int):Rat)=_;rw[Rat.num_intCast];rfl
  ·show (((((a.val ρ).den:Int):Rat).num:Int):Rat)=_;rw[Rat.num_intCast];rfl
  ·show (((((isq (a.val ρ).num.toNat:Nat):Int):Rat).num:Int):Rat)=_;rw[Rat.num_intCast];rfl
  ·show (((((a.val ρ/b.val ρ).floor:Int):Rat).num:Int):Rat)=_;rw[Rat.num_intCast];rfl
def isP:SE→Bool
 | .int n=>match n with
  | .ofNat k=>match k with
   | 0=>false
   | _+1=>true
  | .negSucc _=>false
 | .bin k a _=>match k with
  | 5=>true
  | 6=>isP a
  | _=>false
 | _=>false
theorem th (ρ:Nat→Rat):∀ e:SE,isP e=true→0<(e.val ρ).num
 | .int n,h=>by
  cases n with
  | ofNat k=>
   cases k with
   | zero=>simp[isP] at h
   | succ k=>
    show 0<((Int.ofNat (k+1):Int):Rat).num
    rw[Rat.num_intCast]
    exact Int.natCast_pos.2 (Nat.succ_pos _)
  | negSucc k=>simp[isP] at h
 | .bin k a b,h=>by
  rw[isP.eq_def] at h
  simp only at h
  split at h
  ·show 0<(((a.val ρ).den:Int):Rat).num
   rw[Rat.num_intCast];exact Int.natCast_pos.2 (a.val ρ).den_pos
  ·have h1:=th ρ a h
   show 0<(((isq (a.val ρ).num.toNat:Nat):Int):Rat).num
   rw[Rat.num_intCast]
   have h2:=pK (a.val ρ).num.toNat
   rcases Nat.eq_zero_or_pos (isq (a.val ρ).num.toNat) with h3|h3
   ·rw[h3] at h2;omega
   ·exact Int.natCast_pos.2 h3
  ·cases h
theorem As (x y:Int) (hy:0<y):((x:Rat)/(y:Rat)).floor=x/y:=by
 have hy':(0:Rat)<(y:Rat):=Rat.intCast_lt_intCast.2 hy
 apply Int.le_antisymm
 ·apply Int.le_of_lt_add_one
  rw[Rat.floor_lt_iff,Rat.div_lt_iff hy',←Rat.intCast_mul,Rat.intCast_lt_intCast]
  exact Int.lt_ediv_add_one_mul_self x hy
 ·rw[Rat.le_floor_iff]
  refine Rat.not_lt.1 fun h=>?_
  rw[Rat.div_lt_iff hy',←Rat.intCast_mul,Rat.intCast_lt_intCast] at h
  have:=Int.ediv_mul_le x (Int.ne_of_gt hy)
  omega
def WhG (w:World) (v:Value) (n:Int):Prop:=∃ a b,v=.agg #[a,b]∧fW (n:Rat) 0 w a∧fW (n:Rat) 1 w b
def asI (e:SE):SE:=match isI e with
 | true=>e
 | false=>.bin 4 e e
theorem Ft (ρ:Nat→Rat) (e:SE):(asI e).val ρ=(((e.val ρ).num:Int):Rat):=by
 unfold asI
 split
 ·rename_i h;exact (pJ ρ e h).symm
 ·rfl
def KA:List AV→Option SE
 | [.bool s,a]=>match lC a with
  | some n=>match s with
   | false=>some (.int (.ofNat n))
   | true=>match n with
    | 0=>none
    | m+1=>some (.int (.negSucc m))
  | none=>none
 | _=>none
def yE:AV→Option SE
 | .agg l=>match l with
  | [a,b]=>match wk 0 a with
   | some e=>match wk 1 b with
    | some e1=>match SE.eq e e1 with
     | true=>some (asI e)
     | false=>none
    | none=>none
   | none=>KA [a,b]
  | _=>none
 | _=>none
def ofY (e:SE):AV:=.agg [.sym (.nc e 0),.sym (.nc e 1)]
section
variable {ρ : Nat → Rat} {σ : Nat → ByteArray} {T : PT} [Unk] [Glob]
theorem tB {x:Rat} {i:Nat} {w:World} {v:Value} (hi:i≤1):fW ((x.num:Int):Rat) i w v↔fW x i w v:=by
 have:i=0∨i=1:=by omega
 rcases this with rfl|rfl
 ·unfold fW;simp only;rw[Rat.num_intCast]
 ·unfold fW;simp only;rw[Rat.num_intCast]
theorem Fg (hT:Sem ρ σ T) {a:AV} {e:SE} {m:Nm} {w:World} {v:Value} (h:yE a=some e) (hv:RV m w a v):WhG w v (e.val ρ).num∧(((e.val ρ).num:Int):Rat)=e.val ρ:=by
 unfold yE at h
 split at h
 ·rename_i l
  rw[RV] at hv
  obtain⟨vs,rfl,hv⟩:=hv
  split at h
  ·rename_i a b
   split at h
   ·rename_i e0 q0
    split at h
    ·rename_i e1 q1
     split at h
     ·rename_i hb
      have t1:=SE.eq_eq _ _ hb
      subst t1
      cases h
      rw[RVs] at hv
      obtain⟨v0,l0,rfl,h0,hv⟩:=hv
      rw[RVs] at hv
      obtain⟨v1,l1,rfl,h1,hv⟩:=hv
      rw[RVs] at hv
      subst hv
      rw[Ft,Rat.num_intCast]
      exact⟨⟨_,_,rfl,(tB (by omega)).2 (jU hT q0 h0),(tB (by omega)).2 (jU hT q1 h1)⟩,rfl⟩
     ·cases h
    ·cases h
   ·unfold KA at h
    split at h
    ·rename_i s a' hl
     cases hl
     rw[RVs] at hv
     obtain⟨v0,l0,rfl,h0,hv⟩:=hv
     rw[RVs] at hv
     obtain⟨v1,l1,rfl,h1,hv⟩:=hv
     rw[RVs] at hv
     subst hv
     rw[RV] at h0
     subst h0
     split at h
     ·rename_i n hn
      have g1:=kO hn h1
      split at h
      ·cases h
       refine ⟨⟨_,_,rfl,?_,?_⟩,?_⟩
       ·show Value.bool false=Value.bool (decide (((((Int.ofNat n:Int):Rat).num:Int):Rat).num<0))
        rw[Rat.num_intCast,Rat.num_intCast,decide_eq_false (by simp)]
       ·show Lim w v1 (((((Int.ofNat n:Int):Rat).num:Int):Rat).num).natAbs
        rw[Rat.num_intCast,Rat.num_intCast];exact g1
       ·show (((((Int.ofNat n:Int):Rat).num:Int):Rat))=((Int.ofNat n:Int):Rat)
        rw[Rat.num_intCast]
      ·split at h
       ·cases h
       ·rename_i k
        cases h
        refine ⟨⟨_,_,rfl,?_,?_⟩,?_⟩
        ·show Value.bool true=Value.bool (decide (((((Int.negSucc k:Int):Rat).num:Int):Rat).num<0))
         rw[Rat.num_intCast,Rat.num_intCast,decide_eq_true (Int.negSucc_lt_zero _)]
        ·show Lim w v1 (((((Int.negSucc k:Int):Rat).num:Int):Rat).num).natAbs
         rw[Rat.num_intCast,Rat.num_intCast];exact g1
        ·show (((((Int.negSucc k:Int):Rat).num:Int):Rat))=((Int.negSucc k:Int):Rat)
         rw[Rat.num_intCast]
     ·cases h
    ·cases h
  ·cases h
 ·cases h
theorem qx (hT:Sem ρ σ T) {e:SE} {m:Nm} {w:World} {v:Value} {n:Int} (h:WhG w v n) (hn:n=(e.val ρ).num):RV m w (ofY e) v:=by
 subst hn
 obtain⟨a,b,rfl,h0,h1⟩:=h
 unfold ofY
 rw[RV]
 refine ⟨[a,b],rfl,?_⟩
 rw[RVs];refine ⟨_,_,rfl,by rw[RV,hT.is];exact (tB (by omega)).1 h0,?_⟩
 rw[RVs];exact⟨_,_,rfl,by rw[RV,hT.is];exact (tB (by omega)).1 h1,by rw[RVs]⟩
def isL:SE→Bool
 | .int _=>true
 | _=>false
def y1 (T:PT) (f:SE→Option AV):Prm:=fun _ a=>match a with
 | [x]=>match yE x with
  | some p=>match isL p with
   | true=>none
   | false=>match fit T p with
    | true=>f p
    | false=>none
  | none=>none
 | _=>none
def y2 (T:PT) (f:SE→SE→Option AV):Prm:=fun _ a=>match a with
 | [x,y]=>match yE x,yE y with
  | some p,some q=>match isL p&&isL q with
   | true=>none
   | false=>match fit T p&&fit T q with
    | true=>f p q
    | false=>none
  | _,_=>none
 | _=>none
variable {P : Program} {F : FuncId}
theorem Lj (hT:Sem ρ σ T) {f:SE→Option AV} (H:∀ p av,f p=some av→∀ v k w,WhG w v (p.val ρ).num→(((p.val ρ).num:Int):Rat)=p.val ρ→Bd (p.val ρ) k→k≤100000→Calls P F #[v] w fun e w'=>∃ v',e=.returned v'∧(∀ m,RV m w' av v')∧Below w.heap.size w w'):ay P F (y1 T f):=by
 intro h args av hg m w vals hv hs
 unfold y1 at hg
 split at hg
 ·rename_i x
  split at hg
  ·rename_i p hp
   split at hg
   ·cases hg
   ·split at hg
    ·rename_i hf
     rw[RVs] at hv
     obtain⟨v,l,rfl,h1,h2⟩:=hv
     rw[RVs] at h2
     subst h2
     obtain⟨k,hk,hb⟩:=gI hT.ok hf
     obtain⟨g1,g2⟩:=Fg hT hp h1
     refine (H p av hg v k w g1 g2 hb hk).mono ?_
     rintro e w' ⟨v',h3,h4,h5⟩
     exact⟨v',h3,h4 m,h5⟩
    ·cases hg
  ·cases hg
 ·cases hg
theorem zF (hT:Sem ρ σ T) {f:SE→SE→Option AV} (H:∀ p q av,f p q=some av→∀ u v k l w,WhG w u (p.val ρ).num→WhG w v (q.val ρ).num→(((p.val ρ).num:Int):Rat)=p.val ρ→(((q.val ρ).num:Int):Rat)=q.val ρ→Bd (p.val ρ) k→Bd (q.val ρ) l→k≤100000→l≤100000→Calls P F #[u,v] w fun e w'=>∃ v',e=.returned v'∧(∀ m,RV m w' av v')∧Below w.heap.size w w'):ay P F (y2 T f):=by
 intro h args av hg m w vals hv hs
 unfold y2 at hg
 split at hg
 ·rename_i x y
  split at hg
  ·rename_i p q hp hq
   split at hg
   ·cases hg
   ·split at hg
    ·rename_i hf
     rw[Bool.and_eq_true] at hf
     rw[RVs] at hv
     obtain⟨u,l,rfl,h1,h2⟩:=hv
     rw[RVs] at h2
     obtain⟨v,l,rfl,h2,h3⟩:=h2
     rw[RVs] at h3
     subst h3
     obtain⟨k,hk,hb⟩:=gI hT.ok hf.1
     obtain⟨k2,hk2,hb2⟩:=gI hT.ok hf.2
     obtain⟨g1,g2⟩:=Fg hT hp h1
     obtain⟨g3,g4⟩:=Fg hT hq h2
     refine (H p q av hg u v k k2 w g1 g3 g2 g4 hb hb2 hk hk2).mono ?_
     rintro e w' ⟨v',h3,h4,h5⟩
     exact⟨v',h3,h4 m,h5⟩
    ·cases hg
  ·cases hg
 ·cases hg
def Kp (T:PT):Prm:=y2 T fun p q=>some (ofY (.mul p q))
theorem IE (hT:Sem ρ σ T) (H:∀ u v (x y:Int) k l w,WhG w u x→WhG w v y→Bd (x:Rat) k→Bd (y:Rat) l→k≤100000→l≤100000→Calls P F #[u,v] w fun e w'=>∃ v',e=.returned v'∧WhG w' v' (x*y)∧Below w.heap.size w w'):ay P F (Kp T):=zF hT fun p q av hav u v k l w h1 h2 i1 i2 b1 b2 hk hl=>by
 cases hav
 refine (H u v _ _ k l w h1 h2 (by rw[i1];exact b1) (by rw[i2];exact b2) hk hl).mono ?_
 rintro e w' ⟨v',h3,h4,h5⟩
 refine ⟨v',h3,fun _=>qx hT h4 ?_,h5⟩
 show _=(p.val ρ*q.val ρ).num
 rw[←i1,←i2,←Rat.intCast_mul,Rat.num_intCast,Rat.num_intCast,Rat.num_intCast]
def Ko (T:PT):Prm:=y2 T fun p q=>some (ofY (.add p q))
theorem ID (hT:Sem ρ σ T) (H:∀ u v (x y:Int) k l w,WhG w u x→WhG w v y→Bd (x:Rat) k→Bd (y:Rat) l→k≤100000→l≤100000→Calls P F #[u,v] w fun e w'=>∃ v',e=.returned v'∧WhG w' v' (x+y)∧Below w.heap.size w w'):ay P F (Ko T):=zF hT fun p q av hav u v k l w h1 h2 i1 i2 b1 b2 hk hl=>by
 cases hav
 refine (H u v _ _ k l w h1 h2 (by rw[i1];exact b1) (by rw[i2];exact b2) hk hl).mono ?_
 rintro e w' ⟨v',h3,h4,h5⟩
 refine ⟨v',h3,fun _=>qx hT h4 ?_,h5⟩
 show _=(p.val ρ+q.val ρ).num
 rw[←i1,←i2,←Rat.intCast_add,Rat.num_intCast,Rat.num_intCast,Rat.num_intCast]
def yj (T:PT):Prm:=y2 T fun p q=>match isP q with
 | true=>some (ofY (.bin 7 p q))
 | false=>none
theorem BH (hT:Sem ρ σ T) (H:∀ u v (x y:Int) k l w,WhG w u x→WhG w v y→Bd (x:Rat) k→Bd (y:Rat) l→k≤100000→l≤100000→0<y→Calls P F #[u,v] w fun e w'=>∃ v',e=.returned v'∧WhG w' v' (x/y)∧Below w.heap.size w w'):ay P F (yj T):=zF hT fun p q av hav u v k l w h1 h2 i1 i2 b1 b2 hk hl=>by
 split at hav
 ·rename_i hp
  cases hav
  refine (H u v _ _ k l w h1 h2 (by rw[i1];exact b1) (by rw[i2];exact b2) hk hl (th ρ q hp)).mono ?_
  rintro e w' ⟨v',h3,h4,h5⟩
  refine ⟨v',h3,fun _=>qx hT h4 ?_,h5⟩
  show _=(((p.val ρ/q.val ρ).floor:Int):Rat).num
  rw[Rat.num_intCast,←i1,←i2,Rat.num_intCast,Rat.num_intCast,As _ _ (th ρ q hp)]
 ·cases hav
def Fh (T:PT):Prm:=y1 T fun p=>some (ofY (.bin 6 p p))
theorem Fi (hT:Sem ρ σ T) (H:∀ u (x:Int) k w,WhG w u x→Bd (x:Rat) k→k≤100000→Calls P F #[u] w fun e w'=>∃ v',e=.returned v'∧WhG w' v' (isq x.toNat:Nat)∧Below w.heap.size w w'):ay P F (Fh T):=Lj hT fun p av hav v k w h1 i1 b1 hk=>by
 cases hav
 refine (H v _ k w h1 (by rw[i1];exact b1) hk).mono ?_
 rintro e w' ⟨v',h3,h4,h5⟩
 refine ⟨v',h3,fun _=>qx hT h4 ?_,h5⟩
 show _=(((isq (p.val ρ).num.toNat:Nat):Int):Rat).num
 rw[Rat.num_intCast]
def eNew (T:PT):Prm:=y2 T fun p q=>match isP q with
 | true=>some (ofE (.quo p q))
 | false=>none
theorem FW (hT:Sem ρ σ T) (H:∀ u v (x y:Int) k w,WhG w u x→WhG w v y→Bd (x:Rat) k→Bd (y:Rat) k→k≤200000→0<y→Calls P F #[u,v] w fun e w'=>∃ v',e=.returned v'∧ExG w' v' ((x:Rat)/(y:Rat))∧Below w.heap.size w w'):ay P F (eNew T):=zF hT fun p q av hav u v k l w h1 h2 i1 i2 b1 b2 hk hl=>by
 split at hav
 ·rename_i hp
  cases hav
  refine (H u v _ _ (k+l) w h1 h2 (by rw[i1];exact b1.mono (by omega)) (by rw[i2];exact b2.mono (by omega)) (by omega) (th ρ q hp)).mono ?_
  rintro e w' ⟨v',h3,h4,h5⟩
  rw[i1,i2] at h4
  exact⟨v',h3,fun _=>tM hT h4,h5⟩
 ·cases hav
def wZ (T:PT):Prm:=e1 T fun p=>match isL p with
 | true=>none
 | false=>some (ofY (.bin 5 p p))
theorem Am (hT:Sem ρ σ T) (H:∀ u x k w,ExG w u x→Bd x k→k≤100000→Calls P F #[u] w fun e w'=>∃ v',e=.returned v'∧WhG w' v' (x.den:Int)∧Below w.heap.size w w'):ay P F (wZ T):=IG hT fun p av hav v k w h1 b1 hk=>by
 split at hav
 ·cases hav
 ·cases hav
  refine (H v _ k w h1 b1 hk).mono ?_
  rintro e w' ⟨v',h3,h4,h5⟩
  refine ⟨v',h3,fun _=>qx hT h4 ?_,h5⟩
  show _=(((p.val ρ).den:Int):Rat).num
  rw[Rat.num_intCast]
end
end Go.Sx
namespace Go.Sx
open LimbNum DigNum Go.RowKit
end Go.Sx
namespace Go.Sx
open LimbNum DigNum Go.RowKit
def rX (v:SE):SE:=.quo (.bin 6 (.bin 4 v v) (.bin 4 v v)) (.bin 6 (.bin 5 v v) (.bin 5 v v))
def uN (k:Nat):SE:=.int (.ofNat (10^k))
def rF (k:Nat) (v:SE):SE:=.bin 7 (.mul (.mul (.bin 4 v v) (uN k)) (uN k)) (.bin 5 v v)
def rI (k:Nat) (v:SE):SE:=.bin 6 (rF k v) (rF k v)
def rLo (k:Nat) (v:SE):SE:=.quo (rI k v) (uN k)
def rHi (k:Nat) (v:SE):SE:=.quo (.add (rI k v) (.int 1)) (uN k)
def P10 (k:Nat):SE:=.quo (.int 1) (uN k)
def rSq (v:SE):SE:=.mul (rX v) (rX v)
theorem yV (y:Rat):y=(y.num:Rat)/((y.den:Int):Rat):=by
 rw[←Rat.divInt_eq_div];exact (Rat.num_divInt_den y).symm
theorem Ef (ρ:Nat→Rat) (v:SE):(rX v).val ρ=(isq (v.val ρ).num.toNat:Rat)/(isq (v.val ρ).den:Rat):=by
 show ((isq ((((v.val ρ).num:Int):Rat)).num.toNat:Nat):Rat)/((isq ((((v.val ρ).den:Int):Rat)).num.toNat:Nat):Rat)=_
 rw[Rat.num_intCast,Rat.num_intCast]
 rfl
theorem Dg (n:Nat):isq (n*n)=n:=by
 have h:(n+1)*(n+1)=n*n+2*n+1:=by grind
 exact Df (K6 _) (by omega)
theorem EG (y:Rat):(y*y).num=y.num*y.num∧(y*y).den=y.den*y.den:=by
 have h:(y.num*y.num).natAbs.gcd (y.den*y.den)=1:=by
  rw[Int.natAbs_mul];exact (y.reduced.mul_left y.reduced).mul_right (y.reduced.mul_left y.reduced)
 exact⟨by rw[Rat.num_mul,h];simp,by rw[Rat.den_mul,h];simp⟩
theorem IN {ρ:Nat→Rat} {v:SE} {y:Rat} (h:v.val ρ=y*y):(rX v).val ρ=(y.num.natAbs:Rat)/(y.den:Rat):=by
 rw[Ef,h,(EG y).1,(EG y).2,Dg]
 have:(y.num*y.num).toNat=y.num.natAbs*y.num.natAbs:=by
  rw[←Int.natAbs_mul_self' y.num]
  rfl
 rw[this,Dg]
theorem ym (y:Rat):(y.num.natAbs:Rat)/(y.den:Rat)=if y<0 then -y else y:=by
 have e:y=(y.num:Rat)/(y.den:Rat):=yV y
 by_cases h:y<0
 ·rw[if_pos h]
  have h1:y.num<0:=by
   have:=Rat.num_nonneg (q:=y)
   rcases Int.lt_or_le y.num 0 with h2|h2
   ·exact h2
   ·exact absurd (this.1 h2) (Rat.not_le.2 h)
  have h2:((y.num.natAbs:Nat):Rat) = -((y.num:Int):Rat):=by
   rw[show ((y.num.natAbs:Nat):Rat)=(((y.num.natAbs:Nat):Int):Rat) from rfl,show ((y.num.natAbs:Nat):Int) = -y.num by omega,Rat.intCast_neg]
  rw[h2]
  conv=>rhs;rw[e]
  grind
 ·rw[if_neg h]
  have h1:0≤y.num:=Rat.num_nonneg.2 (Rat.not_lt.1 h)
  have h2:((y.num.natAbs:Nat):Rat)=((y.num:Int):Rat):=by
   rw[show ((y.num.natAbs:Nat):Rat)=(((y.num.natAbs:Nat):Int):Rat) from rfl,show ((y.num.natAbs:Nat):Int)=y.num by omega]
  rw[h2]
  exact e.symm
theorem qt {ρ:Nat→Rat} {v:SE} {y:Rat} (h:v.val ρ=y*y):(rSq v).val ρ=v.val ρ:=by
 show (rX v).val ρ*(rX v).val ρ=_
 rw[IN h,ym,h]
 split<;>grind
def U (k:Nat):Rat:=((Int.ofNat (10^k):Int):Rat)
theorem fH (k:Nat):0<U k:=Rat.intCast_lt_intCast.2 (show (0:Int)<Int.ofNat (10^k) from Int.natCast_pos.2 (Nat.pow_pos (by decide)))
theorem Cf (k:Nat):U (k+2)=100*U k:=by
 unfold U
 rw[show Int.ofNat (10^(k+2))=(100:Int)*Int.ofNat (10^k) by rw[Nat.pow_add];show ((10^k*100:Nat):Int)=100*((10^k:Nat):Int);omega,Rat.intCast_mul]
 rfl
def rR (k:Nat) (x:Rat):Nat:=isq (x*U k*U k).floor.toNat
theorem Ed (ρ:Nat→Rat) (k:Nat) (v:SE):(rI k v).val ρ=(rR k (v.val ρ):Rat):=by
 show ((isq (((((((v.val ρ).num:Int):Rat)*U k*U k/(((v.val ρ).den:Int):Rat)).floor:Int):Rat)).num.toNat:Nat):Rat)=_
 rw[Rat.num_intCast]
 unfold rR
 congr 4
 have e:v.val ρ=((v.val ρ).num:Rat)/(((v.val ρ).den:Int):Rat):=yV _
 conv=>rhs;rw[e]
 grind
theorem zi {x:Rat} (hx:0≤x) (k:Nat):(rR k x:Rat)*(rR k x:Rat)≤x*U k*U k∧x*U k*U k<((rR k x:Rat)+1)*((rR k x:Rat)+1):=by
 have hy:0≤x*U k*U k:=Rat.mul_nonneg (Rat.mul_nonneg hx (Rat.le_of_lt (fH k))) (Rat.le_of_lt (fH k))
 unfold rR
 generalize x*U k*U k=y at *
 have h0:0≤y.floor:=Rat.le_floor_iff.2 hy
 have h1:=pK y.floor.toNat
 have h2:=Rat.floor_le y
 have h3:y<((y.floor+1:Int):Rat):=Rat.floor_lt_iff.1 (by omega)
 have e:((y.floor.toNat:Nat):Int)=y.floor:=Int.toNat_of_nonneg h0
 generalize isq y.floor.toNat=r at *
 have g1:((r*r:Nat):Int)≤y.floor:=by omega
 have g2:y.floor+1≤(((r+1)*(r+1):Nat):Int):=by omega
 have g3:=Rat.intCast_le_intCast.2 g1
 have g4:=Rat.intCast_le_intCast.2 g2
 have c1:(((r*r:Nat):Int):Rat)=(r:Rat)*(r:Rat):=by rw[Int.natCast_mul,Rat.intCast_mul];rfl
 have c2:((((r+1)*(r+1):Nat):Int):Rat)=((r:Rat)+1)*((r:Rat)+1):=by rw[Int.natCast_mul,Rat.intCast_mul,Int.natCast_add,Rat.intCast_add];rfl
 rw[c1] at g3
 rw[c2] at g4
 constructor
 ·exact Rat.le_trans g3 h2
 ·exact Rat.not_le.1 fun hc=>Rat.not_le.2 h3 (Rat.le_trans g4 hc)
theorem nn (n:Nat):(0:Rat)≤(n:Rat):=Rat.intCast_le_intCast.2 (show (0:Int)≤((n:Nat):Int) from Int.natCast_nonneg n)
theorem HK {a b:Rat} (ha:0≤a) (h:a≤b):a*a≤b*b:=Rat.le_trans (Rat.mul_le_mul_of_nonneg_left h ha) (Rat.mul_le_mul_of_nonneg_right h (Rat.le_trans ha h))
theorem we {a b:Rat} (hb:0≤b) (h:a*a<b*b):a<b:=Rat.not_le.1 fun hc=>Rat.not_le.2 h (HK hb hc)
theorem pV {m n:Nat} (h:(m:Rat)<(n:Rat)):m<n:=by
 have:((m:Int):Rat)<((n:Int):Rat):=h
 have:=Rat.intCast_lt_intCast.1 this
 omega
section
variable {ρ : Nat → Rat} {v : SE} (hx : 0 ≤ v.val ρ) (k : Nat)
theorem mX:(rLo k v).val ρ*U k=(rR k (v.val ρ):Rat):=by
 show (rI k v).val ρ/U k*U k=_
 rw[Rat.div_mul_cancel (Rat.ne_of_gt (fH k)),Ed]
theorem pG:(rHi k v).val ρ*U k=(rR k (v.val ρ):Rat)+1:=by
 show ((rI k v).val ρ+((1:Int):Rat))/U k*U k=_
 rw[Rat.div_mul_cancel (Rat.ne_of_gt (fH k)),Ed];rfl
end
end Go.Sx
namespace Go.Sx
open LimbNum DigNum Go.RowKit
section
variable {ρ : Nat → Rat} {v : SE}
theorem KC (k:Nat):0≤(rLo k v).val ρ:=by
 refine Rat.le_of_mul_le_mul_right (c:=U k) ?_ (fH k)
 rw[mX,Rat.zero_mul];exact nn _
theorem vi (k:Nat):(rLo k v).val ρ≤(rHi k v).val ρ:=by
 refine Rat.le_of_mul_le_mul_right (c:=U k) ?_ (fH k)
 rw[mX,pG];grind
theorem Ky (k:Nat):(rHi k v).val ρ-(rLo k v).val ρ=(P10 k).val ρ:=by
 have h1:=mX (ρ:=ρ) (v:=v) k
 have h2:=pG (ρ:=ρ) (v:=v) k
 have h3:(P10 k).val ρ*U k=1:=by
  show ((1:Int):Rat)/U k*U k=1
  rw[Rat.div_mul_cancel (Rat.ne_of_gt (fH k))];rfl
 have h4:=fH k
 generalize (rLo k v).val ρ=l at *
 generalize (rHi k v).val ρ=h at *
 generalize (P10 k).val ρ=p at *
 generalize U k=u at *
 have h5:(h-l)*u=p*u:=by grind
 exact Rat.le_antisymm (Rat.le_of_mul_le_mul_right (by rw[h5];exact Rat.le_refl) h4) (Rat.le_of_mul_le_mul_right (by rw[h5];exact Rat.le_refl) h4)
theorem yX (k:Nat):0<(P10 k).val ρ:=by
 refine Rat.lt_of_mul_lt_mul_right (c:=U k) ?_ (Rat.le_of_lt (fH k))
 show 0*U k<((1:Int):Rat)/U k*U k
 rw[Rat.div_mul_cancel (Rat.ne_of_gt (fH k)),Rat.zero_mul]
 decide
theorem KD (hx:0≤v.val ρ) (k:Nat):(rLo k v).val ρ*(rLo k v).val ρ≤v.val ρ:=by
 have h1:=mX (ρ:=ρ) (v:=v) k
 have h2:=(zi hx k).1
 have h4:=fH k
 generalize (rR k (v.val ρ):Rat)=r at *
 generalize v.val ρ=x at *
 generalize (rLo k v).val ρ=l at *
 generalize U k=u at *
 have e:l*l*u*u=r*r:=by grind
 refine Rat.le_of_mul_le_mul_right (c:=u) (Rat.le_of_mul_le_mul_right (c:=u) ?_ h4) h4
 rw[e];exact h2
theorem Kz (hx:0≤v.val ρ) (k:Nat):v.val ρ<(rHi k v).val ρ*(rHi k v).val ρ:=by
 have h1:=pG (ρ:=ρ) (v:=v) k
 have h2:=(zi hx k).2
 have h4:=fH k
 generalize (rR k (v.val ρ):Rat)=r at *
 generalize v.val ρ=x at *
 generalize (rHi k v).val ρ=l at *
 generalize U k=u at *
 have e:l*l*u*u=(r+1)*(r+1):=by grind
 refine Rat.lt_of_mul_lt_mul_right (c:=u) (Rat.lt_of_mul_lt_mul_right (c:=u) ?_ (Rat.le_of_lt h4)) (Rat.le_of_lt h4)
 rw[e];exact h2
theorem KB (hx:0≤v.val ρ) (hn:(rSq v).val ρ≠v.val ρ) (k:Nat):(rLo k v).val ρ*(rLo k v).val ρ<v.val ρ:=by
 rcases Rat.le_iff_lt_or_eq.1 (KD hx k) with h|h
 ·exact h
 ·exact absurd (qt h.symm) hn
theorem Ee (hx:0≤v.val ρ) (k:Nat):100*rR k (v.val ρ)≤rR (k+2) (v.val ρ)∧rR (k+2) (v.val ρ)+1≤100*(rR k (v.val ρ)+1):=by
 obtain⟨a1,a2⟩:=zi hx k
 obtain⟨b1,b2⟩:=zi hx (k+2)
 rw[Cf] at b1 b2
 have h4:=fH k
 generalize v.val ρ=x at *
 generalize hr:rR k x=r at *
 generalize hs:rR (k+2) x=s at *
 generalize U k=u at *
 have c1:((100*r:Nat):Rat)=100*(r:Rat):=by
  show (((100*r:Nat):Int):Rat)=_
  rw[Int.natCast_mul,Rat.intCast_mul];rfl
 have c2:((s+1:Nat):Rat)=(s:Rat)+1:=by
  show (((s+1:Nat):Int):Rat)=_
  rw[Int.natCast_add,Rat.intCast_add];rfl
 have c3:((100*(r+1):Nat):Rat)=100*((r:Rat)+1):=by
  show (((100*(r+1):Nat):Int):Rat)=_
  rw[Int.natCast_mul,Rat.intCast_mul,Int.natCast_add,Rat.intCast_add];rfl
 have e:x*(100*u)*(100*u)=10000*(x*u*u):=by grind
 rw[e] at b1 b2
 generalize x*u*u=y at *
 have ns:=nn s
 have nr:=nn r
 constructor
 ·have:(100*(r:Rat))*(100*(r:Rat))<((s:Rat)+1)*((s:Rat)+1):=by grind
  have:=we (by grind) this
  rw[←c1,←c2] at this
  have:=pV this
  omega
 ·have:(s:Rat)*(s:Rat)<(100*((r:Rat)+1))*(100*((r:Rat)+1)):=by grind
  have:=we (by grind) this
  rw[←c3] at this
  have:=pV this
  omega
theorem Jv (hx:0≤v.val ρ) (k:Nat):(rLo k v).val ρ≤(rLo (k+2) v).val ρ:=by
 have h1:=mX (ρ:=ρ) (v:=v) k
 have h2:=mX (ρ:=ρ) (v:=v) (k+2)
 have h3:=(Ee hx k).1
 have h4:=fH k
 rw[Cf] at h2
 have c1:100*(rR k (v.val ρ):Rat)≤(rR (k+2) (v.val ρ):Rat):=by
  have:=Rat.intCast_le_intCast.2 (show ((100*rR k (v.val ρ):Nat):Int)≤((rR (k+2) (v.val ρ):Nat):Int) by omega)
  rw[Int.natCast_mul,Rat.intCast_mul] at this
  exact this
 refine Rat.le_of_mul_le_mul_right (c:=U k) ?_ h4
 generalize (rR k (v.val ρ):Rat)=r at *
 generalize (rR (k+2) (v.val ρ):Rat)=s at *
 grind
theorem Jp (hx:0≤v.val ρ) (k:Nat):(rHi (k+2) v).val ρ≤(rHi k v).val ρ:=by
 have h1:=pG (ρ:=ρ) (v:=v) k
 have h2:=pG (ρ:=ρ) (v:=v) (k+2)
 have h3:=(Ee hx k).2
 have h4:=fH k
 rw[Cf] at h2
 have c1:(rR (k+2) (v.val ρ):Rat)+1≤100*((rR k (v.val ρ):Rat)+1):=by
  have:=Rat.intCast_le_intCast.2 (show ((rR (k+2) (v.val ρ)+1:Nat):Int)≤((100*(rR k (v.val ρ)+1):Nat):Int) by omega)
  rw[Int.natCast_mul,Rat.intCast_mul,Int.natCast_add,Int.natCast_add,Rat.intCast_add,Rat.intCast_add] at this
  exact this
 refine Rat.le_of_mul_le_mul_right (c:=U k) ?_ h4
 generalize (rR k (v.val ρ):Rat)=r at *
 generalize (rR (k+2) (v.val ρ):Rat)=s at *
 grind
theorem KS:0≤(rX v).val ρ:=by
 rw[Ef]
 generalize isq (v.val ρ).num.toNat=a
 generalize isq (v.val ρ).den=b
 by_cases h:(b:Rat)=0
 ·rw[h,Rat.div_def,Rat.inv_zero,Rat.mul_zero];exact Rat.le_refl
 ·have hb:0<(b:Rat):=Rat.not_le.1 fun hc=>h (Rat.le_antisymm hc (nn b))
  refine Rat.le_of_mul_le_mul_right (c:=(b:Rat)) ?_ hb
  rw[Rat.zero_mul,Rat.div_mul_cancel h]
  exact nn a
end
end Go.Sx
