import Derived.Test.YtjbcmmaniphkkaaGreatDoorSy1
set_option linter.unusedSectionVars false
set_option linter.unusedVariables false
set_option linter.unusedSimpArgs false
namespace Go.Sx
open LimbNum DigNum Go.RowKit
theorem gC {x y:Rat}:x≤y↔sg x y≤0:=by
 rw[Rat.le_iff_sub_nonneg,←Rat.num_nonneg]
 have h:sg x y = - sg y x:=gD y x
 unfold sg at *
 rw[h]
 have:=@Int.sign_nonneg_iff (y-x).num
 omega
theorem cG (x y:Rat):sg x y = -1∨sg x y=0∨sg x y=1:=by
 unfold sg
 rcases Int.lt_trichotomy (x-y).num 0 with h|h|h
 ·exact .inl (Int.sign_eq_neg_one_of_neg h)
 ·exact .inr (.inl (by rw[h];rfl))
 ·exact .inr (.inr (Int.sign_eq_one_of_pos h))
def nf0 (T:PT) (a b:SE):SE:=match T.look a b with
 | some (.ofNat n)=>match n with
  | 0=>a
  | _+1=>b
 | some (.negSucc _)=>a
 | none=>.bin 0 a b
def nf1 (T:PT) (a b:SE):SE:=match T.look a b with
 | some (.ofNat _)=>a
 | some (.negSucc _)=>b
 | none=>.bin 1 a b
def le0:Int→Bool
 | .ofNat 0=>true
 | .ofNat (_+1)=>false
 | .negSucc _=>true
def ge0:Int→Bool
 | .ofNat _=>true
 | .negSucc _=>false
def nfB (T:PT) (k:Nat) (a b:SE):SE:=match k with
 | 0=>nf0 T a b
 | 1=>nf1 T a b
 | 2=>match T.look a (.int 0),T.look b (.int 0) with
  | some s,some t=>match le0 s&&ge0 t with
   | true=>.int 0
   | false=>nf0 T (.mul a a) (.mul b b)
  | _,_=>.bin 2 a b
 | 3=>nf1 T (.mul b b) (.mul a a)
 | k=>.bin k a b
def nf (T:PT):SE→SE
 | .v i=>.v i
 | .int n=>.int n
 | .add a b=>.add (nf T a) (nf T b)
 | .sub a b=>.sub (nf T a) (nf T b)
 | .mul a b=>.mul (nf T a) (nf T b)
 | .quo a b=>.quo (nf T a) (nf T b)
 | .neg a=>.neg (nf T a)
 | .bin k a b=>nfB T k (nf T a) (nf T b)
section
variable {ρ : Nat → Rat} {σ : Nat → ByteArray} {T : PT}
theorem Dy (hT:TOK ρ σ T) (a b:SE):(nf0 T a b).val ρ=zZ 0 (a.val ρ) (b.val ρ):=by
 unfold nf0
 show _=if a.val ρ≤b.val ρ then a.val ρ else b.val ρ
 split
 ·rename_i n hn
  have h:=hT.look hn
  split
  ·rw[if_pos (gC.2 (by rw[h];decide))]
  ·rw[if_neg (fun hc=>by have:=gC.1 hc;rw[h] at this;simp at this;omega)]
 ·rename_i n hn
  have h:=hT.look hn
  rw[if_pos (gC.2 (by rw[h];exact Int.le_of_lt (Int.negSucc_lt_zero _)))]
 ·rfl
theorem Dz (hT:TOK ρ σ T) (a b:SE):(nf1 T a b).val ρ=zZ 1 (a.val ρ) (b.val ρ):=by
 unfold nf1
 show _=if a.val ρ≤b.val ρ then b.val ρ else a.val ρ
 split
 ·rename_i n hn
  have h:=hT.look hn
  split
  ·rename_i hc
   have h2:=gC.1 hc
   rw[h] at h2
   have:sg (a.val ρ) (b.val ρ)=0:=by rw[h];have:(Int.ofNat n)=(n:Int):=rfl;omega
   exact cK.1 this
  ·rfl
 ·rename_i n hn
  have h:=hT.look hn
  rw[if_pos (gC.2 (by rw[h];exact Int.le_of_lt (Int.negSucc_lt_zero _)))]
 ·rfl
theorem Gh (s:Int):le0 s=true↔s≤0:=by
 cases s with
 | ofNat n=>cases n with
  | zero=>simp[le0]
  | succ n=>simp only[le0,Bool.false_eq_true,false_iff];have:Int.ofNat (n+1)=((n+1:Nat):Int):=rfl;omega
 | negSucc n=>simp only[le0,true_iff];exact Int.le_of_lt (Int.negSucc_lt_zero _)
theorem FW (s:Int):ge0 s=true↔0≤s:=by
 cases s with
 | ofNat n=>simp[ge0]
 | negSucc n=>simp[ge0]
theorem Jb (hT:TOK ρ σ T) (k:Nat) (a b:SE):(nfB T k a b).val ρ=zZ k (a.val ρ) (b.val ρ):=by
 unfold nfB
 split
 ·exact Dy hT a b
 ·exact Dz hT a b
 ·split
  ·rename_i s t hs ht
   have h1:=hT.look hs
   have h2:=hT.look ht
   have e0:(SE.int 0).val ρ=0:=rfl
   rw[e0] at h1 h2
   have h3:(a.val ρ≤0∧0≤b.val ρ)↔(le0 s&&ge0 t)=true:=by
    rw[Bool.and_eq_true,Gh,FW,gC,h1,gC,gD,h2]
    omega
   show _=if a.val ρ≤0∧0≤b.val ρ then 0 else _
   split
   ·rename_i hc
    rw[if_pos (h3.2 hc)];rfl
   ·rename_i hc
    rw[if_neg (fun h=>by have:=h3.1 h;rw[hc] at this;cases this)]
    exact Dy hT _ _
  ·rfl
 ·rw[Dz hT]
  show (if b.val ρ*b.val ρ≤a.val ρ*a.val ρ then a.val ρ*a.val ρ else b.val ρ*b.val ρ)=if a.val ρ*a.val ρ≤b.val ρ*b.val ρ then b.val ρ*b.val ρ else a.val ρ*a.val ρ
  split<;>split<;>grind
 ·rfl
theorem iS (hT:TOK ρ σ T):∀ e:SE,(nf T e).val ρ=e.val ρ
 | .v _=>rfl
 | .int _=>rfl
 | .add a b=>by simp only[nf,SE.val,iS hT a,iS hT b]
 | .sub a b=>by simp only[nf,SE.val,iS hT a,iS hT b]
 | .mul a b=>by simp only[nf,SE.val,iS hT a,iS hT b]
 | .quo a b=>by simp only[nf,SE.val,iS hT a,iS hT b]
 | .neg a=>by simp only[nf,SE.val,iS hT a]
 | .bin k a b=>by rw[nf,Jb hT,iS hT a,iS hT b];rfl
end
def Bf (e:SE):List (SE × SE × Int)→SE
 | []=>e
 |(x,y,s)::l=>match s with
  | .ofNat n=>match n with
   | 0=>match SE.eq e x with
    | true=>y
    | false=>Bf e l
   | _+1=>Bf e l
  | .negSucc _=>Bf e l
theorem zo {ρ:Nat→Rat} (e:SE):∀ l:List (SE × SE × Int),(∀ x∈l,sg (x.1.val ρ) (x.2.1.val ρ)=x.2.2)→(Bf e l).val ρ=e.val ρ
 | [],_=>rfl
 |(x,y,s)::l,h=>by
  have ih:=zo e l fun z hz=>h z (List.mem_cons_of_mem _ hz)
  rw[Bf.eq_def]
  simp only
  split
  ·split
   ·split
    ·rename_i he
     rw[SE.eq_eq _ _ he]
     exact (cK.1 (h _ List.mem_cons_self)).symm
    ·exact ih
   ·exact ih
  ·exact ih
def nfR (T:PT) (e:SE):SE:=Bf (nf T e) T.cmp
theorem DA {ρ:Nat→Rat} {σ:Nat→ByteArray} {T:PT} (hT:TOK ρ σ T) (e:SE):(nfR T e).val ρ=e.val ρ:=(zo _ _ hT.cmp).trans (iS hT e)
def nfS (T:PT):Sy→Sy
 | .nc e i=>.nc (nfR T e) i
 | .ss e=>.ss (nfR T e)
 | s=>s
def nfA (T:PT):AV→AV
 | .sym s=>.sym (nfS T s)
 | a=>a
def nfT (T:PT):AV→AV
 | .agg l=>.agg (l.map (nfA T))
 | a=>nfA T a
def nrm (T:PT):AV→AV
 | .tup l=>.tup (l.map (nfT T))
 | a=>nfT T a
def jY:List AV→List AV
 | a::b::c::d::l=>match Gj [a,b,c,d] with
  | some e=>.sym (.nc e 0) :: .sym (.nc e 1) :: .sym (.nc e 2) :: .sym (.nc e 3)::jY l
  | none=>a::jY (b::c::d::l)
 | l=>l
def Df:AV→AV
 | .str l=>match xx l with
  | some e=>.sym (.ss e)
  | none=>.str l
 | a=>a
def yQ:AV→AV
 | .agg l=>.agg ((jY l).map Df)
 | a=>a
def Dd:AV→AV
 | .tup l=>.tup (l.map yQ)
 | a=>yQ a
section
variable {ρ : Nat → Rat} {σ : Nat → ByteArray} {T : PT} [Unk] [Glob]
theorem xH (hT:Sem ρ σ T) {m:Nm} {w:World} (a:AV) (v:Value):RV m w (nfA T a) v↔RV m w a v:=by
 cases a with
 | sym s=>
  unfold nfA
  rw[RV,RV,hT.is,hT.is]
  cases s with
  | nc e i=>unfold nfS nX;simp only;rw[DA hT.ok]
  | ss e=>unfold nfS nX;simp only;rw[DA hT.ok]
  | _=>exact Iff.rfl
 | _=>exact Iff.rfl
theorem mV {g:AV→AV} {m:Nm} {w:World} (h:∀ a v,RV m w (g a) v↔RV m w a v):∀ (l:List AV) (vs:List Value),RVs m w (l.map g) vs↔RVs m w l vs
 | [],vs=>by rw[List.map_nil]
 | a::l,vs=>by
  rw[List.map_cons,RVs,RVs]
  constructor
  ·rintro ⟨v,l',rfl,h1,h2⟩;exact⟨v,l',rfl,(h a v).1 h1,(mV h l l').1 h2⟩
  ·rintro ⟨v,l',rfl,h1,h2⟩;exact⟨v,l',rfl,(h a v).2 h1,(mV h l l').2 h2⟩
theorem tr {g:AV→AV} {m:Nm} {w:World} (h:∀ a v,RV m w a v→RV m w (g a) v):∀ (l:List AV) (vs:List Value),RVs m w l vs→RVs m w (l.map g) vs
 | [],vs,hv=>by rw[List.map_nil];exact hv
 | a::l,vs,hv=>by
  rw[List.map_cons]
  rw[RVs] at hv ⊢
  obtain⟨v,l',rfl,h1,h2⟩:=hv
  exact⟨v,l',rfl,h a v h1,tr h l l' h2⟩
theorem xI (hT:Sem ρ σ T) {m:Nm} {w:World} (a:AV) (v:Value):RV m w (nfT T a) v↔RV m w a v:=by
 have H:=xH hT (m:=m) (w:=w) a v
 cases a with
 | agg l=>
  unfold nfT
  rw[RV,RV]
  constructor
  ·rintro ⟨l',rfl,h⟩;exact⟨l',rfl,(mV (xH hT) _ _).1 h⟩
  ·rintro ⟨l',rfl,h⟩;exact⟨l',rfl,(mV (xH hT) _ _).2 h⟩
 | _=>exact H
theorem DB (hT:Sem ρ σ T) {m:Nm} {w:World} (a:AV) (v:Value):RV m w (nrm T a) v↔RV m w a v:=by
 have H:=xI hT (m:=m) (w:=w) a v
 cases a with
 | tup l=>
  unfold nrm
  rw[RV,RV]
  constructor
  ·rintro ⟨l',rfl,h⟩;exact⟨l',rfl,(mV (xI hT) _ _).1 h⟩
  ·rintro ⟨l',rfl,h⟩;exact⟨l',rfl,(mV (xI hT) _ _).2 h⟩
 | _=>exact H
theorem vm (hT:Sem ρ σ T) {m:Nm} {w:World} (l:List AV) (vs:List Value) (h:RVs m w l vs):RVs m w (jY l) vs:=by
 induction l using jY.induct generalizing vs with
 | case1 a b c d l e he ih=>
  rw[jY,he]
  have h':=h
  rw[RVs] at h
  obtain⟨v0,l0,rfl,h0,h⟩:=h
  rw[RVs] at h
  obtain⟨v1,l1,rfl,h1,h⟩:=h
  rw[RVs] at h
  obtain⟨v2,l2,rfl,h2,h⟩:=h
  rw[RVs] at h
  obtain⟨v3,l3,rfl,h3,h⟩:=h
  have h4:RVs m w [a,b,c,d] [v0,v1,v2,v3]:=by
   rw[RVs];refine ⟨_,_,rfl,h0,?_⟩
   rw[RVs];refine ⟨_,_,rfl,h1,?_⟩
   rw[RVs];refine ⟨_,_,rfl,h2,?_⟩
   rw[RVs];exact⟨_,_,rfl,h3,by rw[RVs]⟩
  obtain⟨x0,x1,x2,x3,hx,q0,q1,q2,q3⟩:=yR (ρ:=ρ) he h4
  simp only[Value.agg.injEq,Array.mk.injEq,List.cons.injEq,and_true] at hx
  obtain⟨rfl,rfl,rfl,rfl⟩:=hx
  simp only
  rw[RVs];refine ⟨_,_,rfl,by rw[RV,hT.is];exact q0,?_⟩
  rw[RVs];refine ⟨_,_,rfl,by rw[RV,hT.is];exact q1,?_⟩
  rw[RVs];refine ⟨_,_,rfl,by rw[RV,hT.is];exact q2,?_⟩
  rw[RVs];exact⟨_,_,rfl,by rw[RV,hT.is];exact q3,ih _ h⟩
 | case2 a b c d l he ih=>
  rw[jY,he]
  simp only
  rw[RVs] at h ⊢
  obtain⟨v0,l0,rfl,h0,h⟩:=h
  exact⟨v0,l0,rfl,h0,ih _ h⟩
 | case3 l hl=>
  rw[jY]
  ·exact h
  ·exact hl
theorem Dg (hT:Sem ρ σ T) {m:Nm} {w:World} (a:AV) (v:Value) (h:RV m w a v):RV m w (Df a) v:=by
 cases a with
 | str l=>
  unfold Df
  simp only
  split
  ·rename_i e he
   rw[RV] at h
   subst h
   exact zt hT (th he)
  ·exact h
 | _=>exact h
theorem vo (hT:Sem ρ σ T) {m:Nm} {w:World} (a:AV) (v:Value) (h:RV m w a v):RV m w (yQ a) v:=by
 cases a with
 | agg l=>
  unfold yQ
  rw[RV] at h ⊢
  obtain⟨l',rfl,h⟩:=h
  exact⟨l',rfl,tr (Dg hT) _ _ (vm hT _ _ h)⟩
 | _=>exact h
theorem De (hT:Sem ρ σ T) {m:Nm} {w:World} (a:AV) (v:Value) (h:RV m w a v):RV m w (Dd a) v:=by
 have H:=vo hT (m:=m) (w:=w) a v h
 cases a with
 | tup l=>
  unfold Dd
  rw[RV] at h ⊢
  obtain⟨l',rfl,h⟩:=h
  exact⟨l',rfl,tr (vo hT) _ _ h⟩
 | _=>exact H
def qp (T:PT) (E:Env) (fuel d:Nat) (f:FuncId) (args:List AV) (av:AV):Bool:=
 nh args&&iT av&&Nat.blt f 4294967296&&match xq E fuel d f args ⟨.lf,0,0⟩ with
  | some (av',_)=>db (nrm T (Dd av')) (nrm T av)
  | none=>false
theorem GA (hT:Sem ρ σ T) {P:Program} {E:Env} {fuel d:Nat} {f:FuncId} {args:List AV} {av:AV} (hm:P.follows .mixedOrders=true) (hty:∀ t ti,E.ty.get t=some ti→TyOK P t ti) (hfn:ua P E fl) (hpr:fF P E)
  (hb:∀ fn,P.funcs[f]?=some fn→fn.body.isNone=false) (h:qp T E fuel d f args av=true) (m:Nm) (w:World) (hf:Hf) (vals:List Value) (hv:RVs m w args vals) (hs:RS m w hf) :
  Calls P f vals.toArray w fun e w'=>∃ v,e=.returned v∧RV m w' av v∧Below w.heap.size w w':=by
 unfold qp at h
 simp only[Bool.and_eq_true] at h
 obtain⟨⟨⟨h1,h2⟩,hf0⟩,h3⟩:=h
 split at h3
 ·rename_i av' st' hr
  have he:=ja _ _ h3
  rcases (rR hm hty hfn hpr d f args _ _ _ hr).1 (Nat.le_of_ble_eq_true hf0) with ⟨g1,g2,g3⟩|⟨_,⟨fn,g1,g2⟩,_⟩
  ·have hg:∀ b,(Tr.lf:AH).get b=none:=fun b=>rfl
   refine (g3 (fun _=>none) w vals (fy _ _ h1 hv) ⟨fun b cells rb hb' hm'=>(by cases hm'),fun b b' x hb' hb2 hm' hm2=>(by cases hm'),fun g as hga=>⟨(hs.glob g as hga).1,fun b hb'=>absurd (hg b) hb'⟩⟩ (fun b _=>hg b) (fun b _ _=>rfl)).mono ?_
   rintro e w' ⟨v,m',rfl,q1,q2,q3,q4⟩
   have q5:=(DB hT _ _).2 (De hT _ _ q1)
   rw[he] at q5
   refine ⟨v,rfl,pT _ _ h2 ((DB hT _ _).1 q5),?_⟩
   exact⟨q3.env.1,q3.env.2.1,q3.env.2.2,q3.grow.1,fun b hb'=>q3.keep b hb' fun b' hb2=>absurd (hg b') hb2⟩
  ·have:=hb fn g1
   rw[g2] at this
   cases this
 ·cases h3
end
abbrev uj [Glob] (w:World):Prop:=iZ (fun _=>none) w (fun _=>none)
def Yields [Glob] (P:Program) (ρ:Nat→Rat) (σ:Nat→ByteArray) (f:FuncId) (args:List AV) (av:AV):Prop:=
 ∃ (U:Unk) (T:PT),@Sem U ρ σ T∧∀ (w:World) (vals:List Value),uj w→@RVs U (fun _=>none) w args vals →
  Calls P f vals.toArray w fun e w'=>∃ v,e=.returned v∧@RV U (fun _=>none) w' av v∧Below w.heap.size w w'
def cC (ρ:Nat→Rat) (σ:Nat→ByteArray) (L:List PT):Prop:=∃ T∈L,TOK ρ σ T
theorem leaf [Glob] {ρ:Nat→Rat} {σ:Nat→ByteArray} {L:List PT} (hL:cC ρ σ L) {P:Program} {E:PT→Env} {fuel d:Nat} {f:FuncId} {args:List AV} {av:AV} (hm:P.follows .mixedOrders=true) (hty:∀ T,∀ t ti,(E T).ty.get t=some ti→TyOK P t ti) (hfn:∀ T,ua P (E T) fl)
  (hpr:∀ (U:Unk) T,@Sem U ρ σ T→@fF U _ P (E T)) (hb:∀ fn,P.funcs[f]?=some fn→fn.body.isNone=false) (h:(L.all fun T=>@qp (gn ρ σ T) _ T (E T) fuel d f args av)=true):Yields P ρ σ f args av:=by
 obtain⟨T,hm',hT⟩:=hL
 exact⟨gn ρ σ T,T,ye hT,fun w vals ht hv=>@GA ρ σ T (gn ρ σ T) _ (ye hT) P (E T) fuel d f args av hm (hty T) (hfn T) (hpr _ T (ye hT)) hb (List.all_eq_true.1 h T hm') (fun _=>none) w (fun _=>none) vals hv (@RS.mk (gn ρ σ T) _ _ _ _ (fun b cells rb h1 h2=>by cases h2) (fun b b' x h1 h2 h3=>by cases h3) ht)⟩
def PT.add (T:PT) (a b:SE) (s:Int):PT:={ T with cmp:=(a,b,s)::T.cmp }
theorem TOK.add {ρ:Nat→Rat} {σ:Nat→ByteArray} {T:PT} (hT:TOK ρ σ T) {a b:SE} {s:Int} (h:sg (a.val ρ) (b.val ρ)=s):TOK ρ σ (T.add a b s):=
 ⟨fun x hx=>by
  rcases List.mem_cons.1 hx with rfl|hx
  ·exact h
  ·exact hT.cmp x hx,hT.chk,hT.says,hT.len,hT.clen,hT.lrg,hT.le,hT.few,hT.bd⟩
section
variable {ρ : Nat → Rat} {σ : Nat → ByteArray} {L : List PT}
theorem cC.one {T:PT} (h:TOK ρ σ T):cC ρ σ [T]:=⟨T,List.mem_cons_self,h⟩
def sp2 (a b:SE) (L:List PT):List PT:=L.flatMap fun T=>[T.add a b (-1),T.add a b 0]
theorem cC.sp2 (h:cC ρ σ L) {a b:SE} (hle:a.val ρ≤b.val ρ):cC ρ σ (sp2 a b L):=by
 obtain⟨T,hm,hT⟩:=h
 have h1:=gC.1 hle
 rcases cG (a.val ρ) (b.val ρ) with h|h|h
 ·exact⟨_,List.mem_flatMap.2 ⟨T,hm,by simp⟩,hT.add h⟩
 ·exact⟨_,List.mem_flatMap.2 ⟨T,hm,by simp⟩,hT.add h⟩
 ·omega
structure Ends where
 T:PT
 lo:SE
 hi:SE
 one:Bool
def sn (p:SE) (s:Ends):List Ends:=match s.one with
 | true=>[⟨s.T.add p s.lo (-1),p,s.hi,false⟩,⟨s.T.add p s.lo 0,s.lo,s.hi,true⟩,⟨s.T.add p s.lo 1,s.lo,p,false⟩]
 | false=>[⟨(s.T.add p s.lo (-1)).add p s.hi (-1),p,s.hi,false⟩,⟨(s.T.add p s.lo 0).add p s.hi (-1),s.lo,s.hi,false⟩,⟨(s.T.add p s.lo 1).add p s.hi (-1),s.lo,s.hi,false⟩,⟨(s.T.add p s.lo 1).add p s.hi 0,s.lo,s.hi,false⟩,⟨(s.T.add p s.lo 1).add p s.hi 1,s.lo,p,false⟩]
def wF (ρ:Nat→Rat) (σ:Nat→ByteArray) (s:Ends):Prop:=TOK ρ σ s.T∧match s.one with
 | true=>s.lo=s.hi
 | false=>s.lo.val ρ<s.hi.val ρ
theorem fR {x y:Rat}:sg x y = -1↔x<y:=by
 have h1:=@gC x y
 have h2:=@gC y x
 rw[gD] at h2
 rw[←Rat.not_le,h2]
 have:=cG x y
 omega
theorem qL {L:List Ends} (p:SE) (h:∃ s∈L,wF ρ σ s):∃ s∈L.flatMap (sn p),wF ρ σ s:=by
 obtain⟨s,hm,hT,hs⟩:=h
 have key:∃ q∈sn p s,wF ρ σ q:=by
  unfold sn
  cases ho:s.one with
  | true=>
   rw[ho] at hs
   simp only at hs
   rcases cG (p.val ρ) (s.lo.val ρ) with h|h|h
   ·exact⟨_,List.mem_cons_self,hT.add h,by rw[←hs];exact fR.1 h⟩
   ·exact⟨_,List.mem_cons_of_mem _ List.mem_cons_self,hT.add h,hs⟩
   ·exact⟨_,List.mem_cons_of_mem _ (List.mem_cons_of_mem _ List.mem_cons_self),hT.add h,by show s.lo.val ρ<p.val ρ;exact fR.1 (by rw[gD,h])⟩
  | false=>
   rw[ho] at hs
   simp only at hs
   rcases cG (p.val ρ) (s.lo.val ρ) with h|h|h
   ·have h2:p.val ρ<s.hi.val ρ:=Rat.not_le.1 fun hc=>Rat.not_le.2 (fR.1 h) (Rat.le_trans (Rat.le_of_lt hs) hc)
    exact⟨_,List.mem_cons_self,(hT.add h).add (fR.2 h2),h2⟩
   ·have h2:p.val ρ<s.hi.val ρ:=by rw[cK.1 h];exact hs
    exact⟨_,List.mem_cons_of_mem _ List.mem_cons_self,(hT.add h).add (fR.2 h2),hs⟩
   ·rcases cG (p.val ρ) (s.hi.val ρ) with g|g|g
    ·exact⟨_,List.mem_cons_of_mem _ (List.mem_cons_of_mem _ List.mem_cons_self),(hT.add h).add g,hs⟩
    ·exact⟨_,List.mem_cons_of_mem _ (List.mem_cons_of_mem _ (List.mem_cons_of_mem _ List.mem_cons_self)),(hT.add h).add g,hs⟩
    ·exact⟨_,List.mem_cons_of_mem _ (List.mem_cons_of_mem _ (List.mem_cons_of_mem _ (List.mem_cons_of_mem _ List.mem_cons_self))),(hT.add h).add g,by show s.lo.val ρ<p.val ρ;exact fR.1 (by rw[gD,h])⟩
 obtain⟨q,h1,h2⟩:=key
 exact⟨q,List.mem_flatMap.2 ⟨s,hm,h1⟩,h2⟩
def lo4 (p q r s:SE):SE:=.bin 0 (.bin 0 (.bin 0 p q) r) s
def hi4 (p q r s:SE):SE:=.bin 1 (.bin 1 (.bin 1 p q) r) s
def yF (p q r s:SE) (T:PT):List PT:=((([(⟨T,p,p,true⟩:Ends)].flatMap (sn q)).flatMap (sn r)).flatMap (sn s)).map Ends.T
theorem cC.yF {T:PT} (h:TOK ρ σ T) (p q r s:SE):cC ρ σ (yF p q r s T):=by
 obtain⟨e,h1,h2⟩:=qL s (qL r (qL q ⟨(⟨T,p,p,true⟩:Ends),List.mem_cons_self,h,rfl⟩))
 exact⟨e.T,List.mem_map.2 ⟨e,h1,rfl⟩,h2.1⟩
end
def mg (n K:Nat):PT:=⟨[],(List.range n).map fun i=>(i,0),[],[],[],K⟩
def sig (ss:List ByteArray) (i:Nat):ByteArray:=ss.getD i ⟨#[]⟩
end Go.Sx
namespace Go.Sx
open LimbNum DigNum Go.RowKit
abbrev Sb:=List (Nat × SE)
def zu (θ:Sb) (i:Nat):SE:=match θ with
 | []=>.int 0
 |(j,e)::l=>match Nat.beq i j with
  | true=>e
  | false=>zu l i
def SE.eT (θ:Sb):SE→SE
 | .v i=>zu θ i
 | .int n=>.int n
 | .add a b=>.add (a.eT θ) (b.eT θ)
 | .sub a b=>.sub (a.eT θ) (b.eT θ)
 | .mul a b=>.mul (a.eT θ) (b.eT θ)
 | .quo a b=>.quo (a.eT θ) (b.eT θ)
 | .neg a=>.neg (a.eT θ)
 | .bin k a b=>.bin k (a.eT θ) (b.eT θ)
def iX (ρ:Nat→Rat) (θ:Sb) (i:Nat):Rat:=(zu θ i).val ρ
theorem bX (ρ:Nat→Rat) (θ:Sb):∀ e:SE,(e.eT θ).val ρ=e.val (iX ρ θ)
 | .v _=>rfl
 | .int _=>rfl
 | .add a b=>by simp only[SE.eT,SE.val,bX ρ θ a,bX ρ θ b]
 | .sub a b=>by simp only[SE.eT,SE.val,bX ρ θ a,bX ρ θ b]
 | .mul a b=>by simp only[SE.eT,SE.val,bX ρ θ a,bX ρ θ b]
 | .quo a b=>by simp only[SE.eT,SE.val,bX ρ θ a,bX ρ θ b]
 | .neg a=>by simp only[SE.eT,SE.val,bX ρ θ a]
 | .bin k a b=>by simp only[SE.eT,SE.val,bX ρ θ a,bX ρ θ b]
def plain:AV→Bool
 | .bool _ | .int _ _ | .float _ _ | .str _ | .nilp | .nils | .nilm | .nilf=>true
 | .fn _ cs=>match cs with
  | []=>true
  | _=>false
 | _=>false
theorem ql {U U':Unk} {m m':Nm} {w w':World} {a:AV} {v:Value} (h:plain a=true) (hv:@RV U m w a v):@RV U' m' w' a v:=by
 cases a<;>simp only[plain,Bool.false_eq_true] at h
 case fn f cs=>
  cases cs with
  | nil=>
   rw[@RV.eq_def U] at hv
   rw[@RV.eq_def U']
   obtain⟨l,h1,h2⟩:=hv
   rw[@RVs.eq_def U] at h2
   exact⟨l,h1,by rw[@RVs.eq_def U'];exact h2⟩
  | cons _ _=>simp at h
 all_goals
  rw[@RV.eq_def U] at hv
  rw[@RV.eq_def U']
  exact hv
def FP (T:PT) (θ:Sb) (p a:AV):Bool:=match p with
 | .sym s=>match s with
  | .nc e k=>match a with
   | .sym (.nc e' k')=>SE.eq (e.eT θ) e'&&Nat.beq k k'
   | _=>false
  | .ss e=>match ru T a with
   | some e'=>SE.eq (e.eT θ) e'
   | none=>false
  | _=>false
 | p=>plain p&&db p a
def FQ (T:PT) (θ:Sb):List AV→List AV→Bool
 | [],[]=>true
 | p::l,a::l'=>FP T θ p a&&FQ T θ l l'
 | _,_=>false
def IN (T:PT) (θ:Sb) (p a:AV):Bool:=match p with
 | .agg l=>match a with
  | .agg l'=>FQ T θ l (jY l')
  | _=>false
 | p=>FP T θ p a
def yJ (T:PT) (θ:Sb):List AV→List AV→Bool
 | [],[]=>true
 | p::l,a::l'=>IN T θ p a&&yJ T θ l l'
 | _,_=>false
def bC (θ:Sb):AV→AV
 | .sym s=>match s with
  | .nc e k=>.sym (.nc (e.eT θ) k)
  | .ss e=>.sym (.ss (e.eT θ))
  | s=>.sym s
 | a=>a
def GP (θ:Sb):AV→AV
 | .agg l=>.agg (l.map (bC θ))
 | a=>bC θ a
def JJ (θ:Sb):AV→AV
 | .tup l=>.tup (l.map (GP θ))
 | a=>GP θ a
def Jk:AV→Bool
 | .sym s=>match s with
  | .nc _ _=>true
  | .ss _=>true
  | _=>false
 | a=>plain a
def Jl:AV→Bool
 | .agg l=>l.all Jk
 | a=>Jk a
def Jj:AV→Bool
 | .tup l=>l.all Jl
 | a=>Jl a
section
variable {U U' : Unk} [Glob] {ρ : Nat → Rat} {σ σ' : Nat → ByteArray} {T T' : PT} {θ : Sb}
theorem yK (hT:@Sem U ρ σ T) (hT':@Sem U' (iX ρ θ) σ' T') {p a:AV} {m m':Nm} {w:World} {v:Value} (h:FP T θ p a=true) (hv:@RV U m w a v):@RV U' m' w p v:=by
 unfold FP at h
 split at h
 ·split at h
  ·rename_i e k
   split at h
   ·rename_i e' k'
    rw[Bool.and_eq_true] at h
    have e1:=SE.eq_eq _ _ h.1
    have e2:=Nat.eq_of_beq_eq_true h.2
    subst e1 e2
    rw[@RV.eq_def U] at hv
    rw[@RV.eq_def U']
    simp only at hv ⊢
    rw[@Sem.is U _ _ _ hT] at hv
    rw[@Sem.is U' _ _ _ hT']
    have hv':kI ((e.eT θ).val ρ) k w v:=hv
    rw[bX] at hv'
    exact hv'
   ·cases h
  ·rename_i e
   split at h
   ·rename_i e' he
    have e1:=SE.eq_eq _ _ h
    subst e1
    obtain⟨s,rfl,hs⟩:=@oR _ _ _ U _ hT _ _ _ _ _ he hv
    rw[bX] at hs
    exact @zt _ _ _ U' _ hT' _ _ _ _ hs
   ·cases h
  ·cases h
 ·rw[Bool.and_eq_true] at h
  have:=ja _ _ h.2
  subst this
  exact ql h.1 hv
theorem yL (hT:@Sem U ρ σ T) (hT':@Sem U' (iX ρ θ) σ' T') {m m':Nm} {w:World}:∀ (p a:List AV) (v:List Value),FQ T θ p a=true→@RVs U m w a v→@RVs U' m' w p v
 | [],[],v,_,hv=>by rw[@RVs.eq_def U] at hv;rw[@RVs.eq_def U'];exact hv
 | p::l,a::l',v,h,hv=>by
  rw[FQ,Bool.and_eq_true] at h
  rw[@RVs.eq_def U] at hv
  rw[@RVs.eq_def U']
  obtain⟨x,xs,rfl,h1,h2⟩:=hv
  exact⟨x,xs,rfl,yK hT hT' h.1 h1,yL hT hT' l l' xs h.2 h2⟩
theorem FO (hT:@Sem U ρ σ T) (hT':@Sem U' (iX ρ θ) σ' T') {p a:AV} {m m':Nm} {w:World} {v:Value} (h:IN T θ p a=true) (hv:@RV U m w a v):@RV U' m' w p v:=by
 unfold IN at h
 split at h
 ·split at h
  ·rw[@RV.eq_def U] at hv
   rw[@RV.eq_def U']
   obtain⟨l,rfl,hv⟩:=hv
   exact⟨l,rfl,yL hT hT' _ _ _ h (@vm _ _ _ U _ hT _ _ _ _ hv)⟩
  ·cases h
 ·exact yK hT hT' h hv
theorem uP (hT:@Sem U ρ σ T) (hT':@Sem U' (iX ρ θ) σ' T') {m m':Nm} {w:World}:∀ (p a:List AV) (v:List Value),yJ T θ p a=true→@RVs U m w a v→@RVs U' m' w p v
 | [],[],v,_,hv=>by rw[@RVs.eq_def U] at hv;rw[@RVs.eq_def U'];exact hv
 | p::l,a::l',v,h,hv=>by
  rw[yJ,Bool.and_eq_true] at h
  rw[@RVs.eq_def U] at hv
  rw[@RVs.eq_def U']
  obtain⟨x,xs,rfl,h1,h2⟩:=hv
  exact⟨x,xs,rfl,FO hT hT' h.1 h1,uP hT hT' l l' xs h.2 h2⟩
theorem zB (hT:@Sem U ρ σ T) (hT':@Sem U' (iX ρ θ) σ' T') {m m':Nm} {w:World} (a:AV) (v:Value) (ho:Jk a=true) (hv:@RV U' m' w a v):@RV U m w (bC θ a) v:=by
 cases a with
 | sym s=>
  cases s with
  | nc e k=>
   rw[@RV.eq_def U'] at hv
   simp only at hv
   rw[@Sem.is U' _ _ _ hT'] at hv
   unfold bC
   rw[@RV.eq_def U]
   simp only
   rw[@Sem.is U _ _ _ hT]
   have hv':kI (e.val (iX ρ θ)) k w v:=hv
   show kI ((e.eT θ).val ρ) k w v
   rw[bX]
   exact hv'
  | ss e=>
   rw[@RV.eq_def U'] at hv
   simp only at hv
   rw[@Sem.is U' _ _ _ hT'] at hv
   unfold bC
   rw[@RV.eq_def U]
   simp only
   rw[@Sem.is U _ _ _ hT]
   have hv':∃ s,v=.string s∧aG s (e.val (iX ρ θ)):=hv
   show ∃ s,v=.string s∧aG s ((e.eT θ).val ρ)
   rw[bX]
   exact hv'
  | _=>cases ho
 | _=>exact ql ho hv
theorem tH {g:AV→AV} {o:AV→Bool} {m m':Nm} {w:World} (H:∀ a v,o a=true→@RV U' m' w a v→@RV U m w (g a) v):∀ (l:List AV) (vs:List Value),l.all o=true→@RVs U' m' w l vs→@RVs U m w (l.map g) vs
 | [],vs,_,hv=>by rw[@RVs.eq_def U'] at hv;rw[List.map_nil,@RVs.eq_def U];exact hv
 | a::l,vs,h,hv=>by
  rw[List.all_cons,Bool.and_eq_true] at h
  rw[@RVs.eq_def U'] at hv
  rw[List.map_cons,@RVs.eq_def U]
  obtain⟨x,xs,rfl,h1,h2⟩:=hv
  exact⟨x,xs,rfl,H a x h.1 h1,tH H l xs h.2 h2⟩
theorem zC (hT:@Sem U ρ σ T) (hT':@Sem U' (iX ρ θ) σ' T') {m m':Nm} {w:World} (a:AV) (v:Value) (ho:Jl a=true) (hv:@RV U' m' w a v):@RV U m w (GP θ a) v:=by
 have H:=fun h=>zB (m:=m) hT hT' a v h hv
 cases a with
 | agg l=>
  unfold GP
  rw[@RV.eq_def U'] at hv
  rw[@RV.eq_def U]
  obtain⟨l',rfl,hv⟩:=hv
  exact⟨l',rfl,tH (zB hT hT') _ _ ho hv⟩
 | _=>exact H ho
theorem GO (hT:@Sem U ρ σ T) (hT':@Sem U' (iX ρ θ) σ' T') {m m':Nm} {w:World} (a:AV) (v:Value) (ho:Jj a=true) (hv:@RV U' m' w a v):@RV U m w (JJ θ a) v:=by
 have H:=fun h=>zC (m:=m) hT hT' a v h hv
 cases a with
 | tup l=>
  unfold JJ
  rw[@RV.eq_def U'] at hv
  rw[@RV.eq_def U]
  obtain⟨l',rfl,hv⟩:=hv
  exact⟨l',rfl,tH (zC hT hT') _ _ ho hv⟩
 | _=>exact H ho
end
def Is (T:PT) (p a:AV) (θ:Sb):Sb:=match p with
 | .sym s=>match s with
  | .nc (.v i) 0=>match a with
   | .sym (.nc e _)=>(i,e)::θ
   | _=>θ
  | .ss (.v i)=>match ru T a with
   | some e=>(i,e)::θ
   | none=>θ
  | _=>θ
 | _=>θ
def It (T:PT):List AV→List AV→Sb→Sb
 | p::l,a::l',θ=>It T l l' (Is T p a θ)
 | _,_,θ=>θ
def KB (T:PT) (p a:AV) (θ:Sb):Sb:=match p with
 | .agg l=>match a with
  | .agg l'=>It T l (jY l') θ
  | _=>θ
 | p=>Is T p a θ
def yd (T:PT):List AV→List AV→Sb→Sb
 | p::l,a::l',θ=>yd T l l' (KB T p a θ)
 | _,_,θ=>θ
structure Rule where
 args:List AV
 out:AV
 K:Nat
 need:List (SE × SE × Bool)
def uc (ρ:Nat→Rat) (c:SE × SE × Bool):Prop:=match c.2.2 with
 | true=>c.1.val ρ<c.2.1.val ρ
 | false=>c.1.val ρ≤c.2.1.val ρ
def fG [Glob] (P:Program) (f:FuncId) (r:Rule):Prop:=Jj r.out=true∧∀ ρ:Nat→Rat,(∀ i,Bd (ρ i) r.K)→(∀ c∈r.need,uc ρ c)→Yields P ρ (fun _=>⟨#[]⟩) f r.args r.out
def yX (a b:SE):List (SE × SE)→Bool
 | []=>false
 |(x,y)::l=>match SE.eq a x&&SE.eq b y with
  | true=>true
  | false=>yX a b l
theorem vD {a b:SE}:∀ l:List (SE × SE),yX a b l=true→(a,b)∈l
 | [],h=>by cases h
 |(x,y)::l,h=>by
  rw[yX] at h
  split at h
  ·rename_i he
   rw[Bool.and_eq_true] at he
   rw[SE.eq_eq _ _ he.1,SE.eq_eq _ _ he.2]
   exact List.mem_cons_self
  ·exact List.mem_cons_of_mem _ (vD l h)
def Du (T:PT) (a b:SE) (strict:Bool):Bool:=match T.look a b with
 | some s=>match s with
  | .negSucc _=>true
  | .ofNat n=>match strict with
   | true=>false
   | false=>Nat.beq n 0
 | none=>match strict with
  | true=>false
  | false=>yX a b T.le
def Ds (T:PT) (θ:Sb) (c:SE × SE × Bool):Bool:=Du T (c.1.eT θ) (c.2.1.eT θ) c.2.2
def Eo (T:PT) (K:Nat) (θ:Sb):Bool:=Nat.ble 1 K&&θ.all fun x=>Nat.ble (x.2.bd T.K) K
def DU (T:PT) (r:Rule) (a:List AV) (θ:Sb):Option AV:=match yJ T θ r.args a&&(Eo T r.K θ&&r.need.all (Ds T θ)) with
 | true=>some (JJ θ r.out)
 | false=>none
def DT (T:PT) (r:Rule):Prm:=fun _ a=>DU T r a (yd T r.args a [])
theorem Dt {ρ:Nat→Rat} {σ:Nat→ByteArray} {T:PT} (hT:TOK ρ σ T) {θ:Sb} {c:SE × SE × Bool} (h:Ds T θ c=true):uc (iX ρ θ) c:=by
 unfold Ds Du at h
 split at h
 ·rename_i s hs
  have hl:=hT.look hs
  rw[bX,bX] at hl
  unfold uc
  split at h
  ·rename_i n
   have h1:sg (c.1.val (iX ρ θ)) (c.2.1.val (iX ρ θ)) = -1:=by
    rcases cG (c.1.val (iX ρ θ)) (c.2.1.val (iX ρ θ)) with h|h|h
    ·exact h
    ·rw[h] at hl;cases hl
    ·rw[h] at hl;cases hl
   split
   ·exact fR.1 h1
   ·exact Rat.le_of_lt (fR.1 h1)
  ·rename_i n
   cases hc:c.2.2 with
   | true=>rw[hc] at h;cases h
   | false=>
    rw[hc] at h
    have:=Nat.eq_of_beq_eq_true h
    subst this
    exact gC.2 (by rw[hl];decide)
 ·unfold uc
  cases hc:c.2.2 with
  | true=>rw[hc] at h;cases h
  | false=>
   rw[hc] at h
   have:=hT.le _ (vD _ h)
   simp only at this
   rw[bX,bX] at this
   exact this
theorem Ep {ρ:Nat→Rat} {σ:Nat→ByteArray} {T:PT} (hT:TOK ρ σ T) {K:Nat} {θ:Sb} (h:Eo T K θ=true) (i:Nat):Bd (iX ρ θ i) K:=by
 unfold Eo at h
 rw[Bool.and_eq_true] at h
 have hK:=Nat.le_of_ble_eq_true h.1
 have h2:=h.2
 clear h
 unfold iX
 induction θ with
 | nil=>exact ll hK
 | cons x l ih=>
  rw[List.all_cons,Bool.and_eq_true] at h2
  obtain⟨j,e⟩:=x
  rw[zu]
  split
  ·exact (SE.fZ hT.bd e).mono (Nat.le_of_ble_eq_true h2.1)
  ·exact ih h2.2
theorem GC [Glob] {P:Program} {f:FuncId} {r:Rule} (hr:fG P f r) {U:Unk} {ρ:Nat→Rat} {σ:Nat→ByteArray} {T:PT} (hT:@Sem U ρ σ T):@au U _ P f (DT T r):=by
 intro h args av hg m w vals hv hs
 unfold DT DU at hg
 generalize yd T r.args args []=θ at hg
 split at hg
 ·rename_i hc
  cases hg
  rw[Bool.and_eq_true,Bool.and_eq_true] at hc
  obtain⟨h1,h2,h3⟩:=hc
  have hgl:uj w:=fun g as hga=>⟨(hs.glob g as hga).1,fun b hb=>absurd rfl hb⟩
  obtain⟨U',T',hT',H⟩:=hr.2 (iX ρ θ) (Ep (@Sem.ok U _ _ _ hT) h2) (fun c hc=>Dt (@Sem.ok U _ _ _ hT) (List.all_eq_true.1 h3 c hc))
  refine (H w vals hgl (uP hT hT' _ _ _ h1 hv)).mono ?_
  rintro e w' ⟨v,rfl,q1,q2⟩
  exact⟨v,rfl,GO hT hT' _ _ hr.1 q1,q2⟩
 ·cases hg
end Go.Sx
namespace Go.Sx
open LimbNum DigNum Go.RowKit
open Classical in
noncomputable def nB (s:ByteArray):Rat:=if h:cq (chs s)=0 then (lx h).choose else 0
theorem sA {s:ByteArray} (h:cq (chs s)=0):aG s (nB s):=by
 unfold nB;rw[dif_pos h];exact (lx h).choose_spec.1
theorem tS (s:ByteArray):Bd (nB s) 600:=by
 unfold nB
 split
 ·rename_i h;exact (lx h).choose_spec.2
 ·exact ll (by decide)
theorem Em {s:ByteArray} {x:Rat} {k:Nat} (h:aG s x) (hs:s.size≤k) (hk:1≤k):Bd x k:=by
 have h1:(chs s).length≤k:=by rw[ag];exact hs
 rw[show chs s=bR x from h] at h1
 have h2:(bq x.num).length≤(bR x).length:=by
  unfold bR
  rw[List.length_append]
  omega
 have h3:nd x.num.natAbs≤k:=by
  have h4:=bp x.num
  omega
 refine ⟨Nat.lt_of_lt_of_le (cN _) (Nat.pow_le_pow_right (by decide) h3),?_⟩
 by_cases hd:x.den=1
 ·rw[hd];exact Nat.one_lt_pow (by omega) (by decide)
 ·have h5:nd x.den≤k:=by
   have h6:(aW x.den).length≤(bR x).length:=by
    unfold bR
    rw[List.length_append,if_neg hd,List.length_cons]
    omega
   have h7:(aW x.den).length=nd x.den:=by unfold aW;rw[dX]
   omega
  exact Nat.lt_of_lt_of_le (cN _) (Nat.pow_le_pow_right (by decide) h5)
theorem EO {s:ByteArray} {k:Nat} (hs:s.size≤k) (hk:1≤k):Bd (nB s) k:=by
 by_cases h:cq (chs s)=0
 ·exact Em (sA h) hs hk
 ·unfold nB;rw[dif_neg h];exact ll hk
noncomputable def ew (σ:Nat→ByteArray) (i:Nat):Rat:=nB (σ i)
abbrev BO:=List (SE × SE × Int) × List (SE × SE)
def EX (ρ:Nat→Rat) (c:BO):Prop:=(∀ x∈c.1,sg (x.1.val ρ) (x.2.1.val ρ)=x.2.2)∧∀ x∈c.2,x.1.val ρ≤x.2.val ρ
def JN (K:Nat) (cs:List (Nat × Nat)) (c:BO):PT:=⟨c.1,cs,[],c.2,[],K⟩
theorem KG {σ:Nat→ByteArray} {K:Nat} (hs:∀ i,(σ i).size≤1000000) (hb:∀ i,Bd (ew σ i) K) {cs:List (Nat × Nat)} (h1:∀ x∈cs,cq (chs (σ x.1))=x.2) {c:BO} (hc:EX (ew σ) c):TOK (ew σ) σ (JN K cs c) where
 cmp:=hc.1
 chk:=h1
 says:=fun x hx h0=>sA (by rw[h1 x hx,h0])
 len:=fun i=>Nat.le_trans (hs i) (by decide)
 clen:=fun x _=>hs x.1
 lrg:=fun x hx=>absurd hx List.not_mem_nil
 le:=hc.2
 few:=fun x hx=>absurd hx List.not_mem_nil
 bd:=hb
theorem mE (l:List Nat):cq l=0∨cq l=1∨cq l=4:=by
 unfold cq
 repeat' split
 all_goals simp
end Go.Sx
namespace Go.Sx
open LimbNum DigNum Go.RowKit
def plC:AV→Bool
 | .sym s=>match s with
  | .nc e _=>match e with
   | .int _=>true
   | _=>false
  | _=>false
 | a=>plain a
def plT:AV→Bool
 | .agg l=>l.all plC
 | a=>plC a
def plA:AV→Bool
 | .tup l=>l.all plT
 | a=>plT a
section
variable {U U' : Unk} [Glob] {ρ ρ' : Nat → Rat} {σ σ' : Nat → ByteArray} {T T' : PT} {m m' : Nm} {w : World}
theorem tF {o:AV→Bool} (H:∀ a v,o a=true→@RV U m w a v→@RV U' m' w a v):∀ (l:List AV) (vs:List Value),l.all o=true→@RVs U m w l vs→@RVs U' m' w l vs
 | [],vs,_,hv=>by rw[@RVs.eq_def U] at hv;rw[@RVs.eq_def U'];exact hv
 | a::l,vs,h,hv=>by
  rw[List.all_cons,Bool.and_eq_true] at h
  rw[@RVs.eq_def U] at hv
  rw[@RVs.eq_def U']
  obtain⟨x,xs,rfl,h1,h2⟩:=hv
  exact⟨x,xs,rfl,H a x h.1 h1,tF H l xs h.2 h2⟩
theorem DW (hT:@Sem U ρ σ T) (hT':@Sem U' ρ' σ' T') (a:AV) (v:Value) (h:plC a=true) (hv:@RV U m w a v):@RV U' m' w a v:=by
 cases a with
 | sym s=>
  cases s with
  | nc e k=>
   cases e with
   | int n=>
    rw[@RV.eq_def U] at hv
    rw[@RV.eq_def U']
    simp only at hv ⊢
    rw[@Sem.is U _ _ _ hT] at hv
    rw[@Sem.is U' _ _ _ hT']
    exact hv
   | _=>cases h
  | _=>cases h
 | _=>exact ql h hv
theorem DX (hT:@Sem U ρ σ T) (hT':@Sem U' ρ' σ' T') (a:AV) (v:Value) (h:plT a=true) (hv:@RV U m w a v):@RV U' m' w a v:=by
 cases a with
 | agg l=>
  rw[@RV.eq_def U] at hv
  rw[@RV.eq_def U']
  obtain⟨l',rfl,hv⟩:=hv
  exact⟨l',rfl,tF (DW hT hT') _ _ h hv⟩
 | _=>exact DW hT hT' _ _ h hv
theorem Jm (hT:@Sem U ρ σ T) (hT':@Sem U' ρ' σ' T') (a:AV) (v:Value) (h:plA a=true) (hv:@RV U m w a v):@RV U' m' w a v:=by
 cases a with
 | tup l=>
  rw[@RV.eq_def U] at hv
  rw[@RV.eq_def U']
  obtain⟨l',rfl,hv⟩:=hv
  exact⟨l',rfl,tF (DX hT hT') _ _ h hv⟩
 | _=>exact DX hT hT' _ _ h hv
end
def agS (l:List Nat):AV:=.agg (l.map fun i=>.sym (.st i))
def vaS (ss:List ByteArray):Value:=.agg (ss.map Value.string).toArray
def kX [Glob] (P:Program) (f:FuncId) (ss:List ByteArray) (out:AV):Prop:=plA out=true∧∀ w,uj w→Calls P f #[vaS ss] w fun e w'=>∃ v,e=.returned v∧(∀ (U:Unk) (ρ:Nat→Rat) (σ:Nat→ByteArray) (T:PT),@Sem U ρ σ T→∀ m:Nm,@RV U m w' out v)∧Below w.heap.size w w'
def AX (l:List Nat) (out:AV):Prm:=fun _ a=>match a with
 | [x]=>match db x (agS l) with
  | true=>some out
  | false=>none
 | _=>none
section
variable {ρ : Nat → Rat} {σ : Nat → ByteArray} {T : PT}
theorem wK [Unk] [Glob] (hT:Sem ρ σ T) {m:Nm} {w:World} (l:List Nat):RV m w (agS l) (vaS (l.map σ)):=by
 unfold agS vaS
 rw[RV]
 refine ⟨_,rfl,?_⟩
 induction l with
 | nil=>simp only[List.map_nil];rw[RVs]
 | cons i l ih=>
  simp only[List.map_cons]
  rw[RVs]
  exact⟨_,_,rfl,by rw[RV,hT.is];rfl,ih⟩
theorem Iy [Unk] [Glob] (hT:Sem ρ σ T) {m:Nm} {w:World} {l:List Nat} {v:Value} (h:RV m w (agS l) v):v=vaS (l.map σ):=by
 unfold agS at h
 rw[RV] at h
 obtain⟨vs,rfl,h⟩:=h
 unfold vaS
 congr 1
 congr 1
 induction l generalizing vs with
 | nil=>
  simp only[List.map_nil] at h
  rw[RVs] at h
  rw[h];rfl
 | cons i l ih=>
  simp only[List.map_cons] at h
  rw[RVs] at h
  obtain⟨x,xs,rfl,h1,h2⟩:=h
  rw[RV,hT.is] at h1
  rw[show x=.string (σ i) from h1,ih _ h2]
  rfl
theorem oK [Unk] [Glob] (hT:Sem ρ σ T) {P:Program} {f:FuncId} {l:List Nat} {out:AV} (H:kX P f (l.map σ) out):au P f (AX l out):=by
 intro h args av hg m w vals hv hs
 unfold AX at hg
 split at hg
 ·rename_i x
  split at hg
  ·rename_i hx
   cases hg
   have:=ja _ _ hx
   subst this
   rw[RVs] at hv
   obtain⟨v,l',rfl,h1,h2⟩:=hv
   rw[RVs] at h2
   subst h2
   rw[Iy hT h1]
   have hgl:uj w:=fun g as hga=>⟨(hs.glob g as hga).1,fun b hb=>absurd rfl hb⟩
   refine (H.2 w hgl).mono ?_
   rintro e w' ⟨v,rfl,q1,q2⟩
   exact⟨v,rfl,q1 _ _ _ _ hT m,q2⟩
  ·cases hg
 ·cases hg
theorem yp [Glob] {P:Program} {f:FuncId} {l:List Nat} {out:AV} (ho:plA out=true) (H:Yields P ρ σ f [agS l] out):kX P f (l.map σ) out:=by
 refine ⟨ho,fun w hw=>?_⟩
 obtain⟨U,T,hT,H⟩:=H
 refine (H w [vaS (l.map σ)] hw (by rw[@RVs.eq_def U];exact⟨_,_,rfl,@wK _ _ _ U _ hT _ _ _,by rw[@RVs.eq_def U]⟩)).mono ?_
 rintro e w' ⟨v,rfl,q1,q2⟩
 exact⟨v,rfl,fun U' _ _ _ hT' m=>Jm hT hT' _ _ ho q1,q2⟩
end
def stL:List AV→Option (List Nat)
 | []=>some []
 | a::l=>match a with
  | .sym s=>match s with
   | .st i=>match stL l with
    | some r=>some (i::r)
    | none=>none
   | _=>none
  | _=>none
def yy:List Nat→List Nat→Bool
 | [],[]=>true
 | a::l,b::m=>Nat.beq a b&&yy l m
 | _,_=>false
theorem uz:∀ l m,yy l m=true→l=m
 | [],[],_=>rfl
 | [],_::_,h=>by cases h
 | _::_,[],h=>by cases h
 | a::l,b::m,h=>by
  rw[yy,Bool.and_eq_true] at h
  rw[Nat.eq_of_beq_eq_true h.1,uz l m h.2]
def DV (is:List Nat) (r:Bool):Prm:=fun h a=>match a with
 | [.sl b o n e]=>match eW h b with
  | some cs=>match Nat.beq e 1&&(Nat.ble (o+n) cs.length&&Nat.ble n 1000000) with
   | true=>match stL ((cs.drop o).take n) with
    | some l=>match yy l is with
     | true=>some (.bool r)
     | false=>none
    | none=>none
   | false=>none
  | none=>none
 | _=>none
theorem Ey:∀ (l:List AV) (r:List Nat),stL l=some r→l=r.map fun i=>.sym (.st i)
 | [],r,h=>by rw[stL] at h;cases h;rfl
 | a::l,r,h=>by
  cases a with
  | sym s=>
   cases s with
   | st i=>
    rw[stL] at h
    split at h
    ·rename_i r' hr
     cases h
     rw[Ey l r' hr];rfl
    ·cases h
   | _=>simp[stL] at h
  | _=>simp[stL] at h
theorem Ii [Unk] [Glob] {ρ:Nat→Rat} {σ:Nat→ByteArray} {T:PT} (hT:Sem ρ σ T) {P:Program} {f:FuncId} {is:List Nat} {r:Bool} (hr:((is.map σ).any fun x=>decide (60<x.size))=r)
  (H:∀ (g o c:Nat) (xs:List ByteArray) (w:World),(∀ (j:Nat) x,xs[j]?=some x→w.cell? ⟨g,o+j,none⟩=some (.string x))→xs.length≤1000000→(∀ x∈xs,x.size≤9223372036854775807) →
   Calls P f #[.slice (some ⟨g,o,none⟩) xs.length c] w fun e w'=>e=.returned (.bool (xs.any fun x=>decide (60<x.size)))∧Below w.heap.size w w'):au P f (DV is r):=by
 intro h args av hg m w vals hv hs
 unfold DV at hg
 split at hg
 ·rename_i b o n e
  split at hg
  ·rename_i cs hcs
   split at hg
   ·rename_i hc
    simp only[Bool.and_eq_true] at hc
    obtain⟨c1,c2,c3⟩:=hc
    have c1:=Nat.eq_of_beq_eq_true c1
    have c2:=Nat.le_of_ble_eq_true c2
    have c3:=Nat.le_of_ble_eq_true c3
    subst c1
    split at hg
    ·rename_i l hl
     split at hg
     ·rename_i hb
      cases hg
      have:=uz _ _ hb
      subst this
      rw[RVs] at hv
      obtain⟨u,l',rfl,h1,h2⟩:=hv
      rw[RVs] at h2
      subst h2
      rw[RV] at h1
      obtain⟨rb,cap,hm,rfl,hcap,hroom⟩:=h1
      obtain⟨hget,hM⟩:=bE hcs
      obtain⟨ca,e2,g1,g2,g3,g4⟩:=hs.blk b cs rb hget hM hm
      have e1:=Ey _ _ hl
      have hlen:l.length=n:=by
       have:=congrArg List.length e1
       rw[List.length_take,List.length_drop,List.length_map] at this
       omega
      have hlm:(l.map σ).length=n:=by rw[List.length_map];exact hlen
      have H1:=H rb o cap (l.map σ) w (fun j x hx=>?_) (by omega) (fun x hx=>by
       obtain⟨i,_,rfl⟩:=List.mem_map.1 hx
       exact hT.ok.len i)
      ·rw[hlm] at H1
       refine H1.mono ?_
       rintro e w' ⟨rfl,h6⟩
       exact⟨_,rfl,by rw[RV,hr],h6⟩
      ·rw[List.getElem?_map,Option.map_eq_some_iff] at hx
       obtain⟨i,hi,rfl⟩:=hx
       have hj:j<l.length:=(List.getElem?_eq_some_iff.1 hi).1
       have h5:cs[o+j]?=some (.sym (.st i)):=by
        have:((cs.drop o).take n)[j]?=some (.sym (.st i)):=by rw[e1,List.getElem?_map,hi];rfl
        rwa [List.getElem?_take,if_pos (by omega),List.getElem?_drop] at this
       obtain⟨v,q1,q2⟩:=g3 _ _ h5
       rw[RV,hT.is] at q2
       rw[show v=.string (σ i) from q2] at q1
       unfold World.cell?
       rw[g1]
       simpa using q1
     ·cases hg
    ·cases hg
   ·cases hg
  ·cases hg
 ·cases hg
end Go.Sx
