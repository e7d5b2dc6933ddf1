import Derived.Test.YtjbcmmaniphkkaaGreatDoorDig
import Derived.Test.YtjbcmmaniphkkaaGreatDoorPr
set_option linter.unusedSectionVars false
set_option linter.unusedVariables false
set_option linter.unusedSimpArgs false
namespace Go.Sx
open LimbNum DigNum
def zZ (k:Nat) (a b:Rat):Rat:=match k with
 | 0=>if a≤b then a else b
 | 1=>if a≤b then b else a
 | 2=>if a≤0∧0≤b then 0 else if a*a≤b*b then a*a else b*b
 | 3=>if a*a≤b*b then b*b else a*a
 | _=>0
theorem ll {k:Nat} (h:1≤k):Bd 0 k:=by
 have:=Nat.one_lt_pow (n:=k) (a:=10) (by omega) (by decide)
 exact⟨by show 0<10^k;omega,by show 1<10^k;omega⟩
def bdB (i k l:Nat):Nat:=match i with
 | 0=>match Nat.ble k l with
  | true=>l
  | false=>k
 | 1=>match Nat.ble k l with
  | true=>l
  | false=>k
 | _=>2*(k+l)
theorem IB (k l:Nat):k≤(match Nat.ble k l with|true=>l|false=>k)∧l≤(match Nat.ble k l with|true=>l|false=>k):=by
 cases h:Nat.ble k l with
 | true=>exact⟨Nat.le_of_ble_eq_true h,K6 _⟩
 | false=>
  have:¬k≤l:=fun hc=>by have:=Nat.ble_eq_true_of_le hc;rw[h] at this;cases this
  exact⟨K6 _,by show l≤k;omega⟩
theorem IC {a b:Rat} {k l:Nat} (i:Nat) (h1:Bd a k) (h2:Bd b l):Bd (zZ i a b) (bdB i k l):=by
 have:=h1.pos
 have:=h2.pos
 have hb:=IB k l
 unfold zZ
 split
 ·split
  ·exact h1.mono hb.1
  ·exact h2.mono hb.2
 ·split
  ·exact h2.mono hb.2
  ·exact h1.mono hb.1
 ·split
  ·exact ll (by show 1≤2*(k+l);omega)
  ·split
   ·exact (mC h1 h1).mono (by show k+k≤2*(k+l);omega)
   ·exact (mC h2 h2).mono (by show l+l≤2*(k+l);omega)
 ·split
  ·exact (mC h2 h2).mono (by show l+l≤2*(k+l);omega)
  ·exact (mC h1 h1).mono (by show k+k≤2*(k+l);omega)
 ·rename_i n h0 h1' h2' h3'
  refine ll ?_
  unfold bdB
  split
  ·exact absurd rfl h0
  ·exact absurd rfl h1'
  ·omega
def SE.val (ρ:Nat→Rat):SE→Rat
 | .v i=>ρ i
 | .int n=>(n:Rat)
 | .add a b=>a.val ρ+b.val ρ
 | .sub a b=>a.val ρ-b.val ρ
 | .mul a b=>a.val ρ*b.val ρ
 | .quo a b=>a.val ρ/b.val ρ
 | .neg a=>- a.val ρ
 | .bin k a b=>zZ k (a.val ρ) (b.val ρ)
def SE.bd (K:Nat):SE→Nat
 | .v _=>K
 | .int n=>match n with
  | .ofNat n=>n.log2+1
  | .negSucc n=>n.log2+2
 | .add a b=>a.bd K+b.bd K+1
 | .sub a b=>a.bd K+b.bd K+1
 | .mul a b=>a.bd K+b.bd K
 | .quo a b=>a.bd K+b.bd K
 | .neg a=>a.bd K
 | .bin k a b=>bdB k (a.bd K) (b.bd K)
theorem wR (n:Int) (k:Nat) (h:n.natAbs<2^k) (hk:1≤k):Bd (n:Rat) k:=
 ⟨by rw[Rat.num_intCast];exact Nat.lt_of_lt_of_le h (Nat.pow_le_pow_left (by decide) k),by rw[Rat.den_intCast];exact Nat.one_lt_pow (by omega) (by decide)⟩
theorem SE.fZ {ρ:Nat→Rat} {K:Nat} (hρ:∀ i,Bd (ρ i) K):∀ e:SE,Bd (e.val ρ) (e.bd K)
 | .v i=>hρ i
 | .int n=>by
  cases n with
  | ofNat n=>
   refine wR _ _ ?_ (by simp[SE.bd])
   show n<2^(n.log2+1)
   exact Nat.lt_log2_self
  | negSucc n=>
   refine wR _ _ ?_ (by simp[SE.bd])
   show n+1<2^(n.log2+2)
   have:n<2^(n.log2+1):=Nat.lt_log2_self
   have h2:2^(n.log2+2)=2*2^(n.log2+1):=by rw[Nat.pow_succ,Nat.mul_comm]
   have h3:0<2^(n.log2+1):=Nat.two_pow_pos _
   have h4:2≤2^(n.log2+1):=by rw[Nat.pow_succ];have:=Nat.two_pow_pos n.log2;omega
   omega
 | .add a b=>Cp (fZ hρ a) (fZ hρ b)
 | .sub a b=>by
  show Bd (a.val ρ-b.val ρ) _
  rw[Rat.sub_eq_add_neg];exact Cp (fZ hρ a) (sN (fZ hρ b))
 | .mul a b=>mC (fZ hρ a) (fZ hρ b)
 | .quo a b=>by
  show Bd (a.val ρ/b.val ρ) _
  rw[Rat.div_def];exact mC (fZ hρ a) (ID (fZ hρ b))
 | .neg a=>sN (fZ hρ a)
 | .bin k a b=>IC k (fZ hρ a) (fZ hρ b)
structure PT where
 cmp:List (SE × SE × Int)
 chk:List (Nat × Nat)
 lrg:List (SE × Nat)
 le:List (SE × SE)
 few:List (Nat × Nat × Bool)
 K:Nat
def Kg:Int→Int
 | .ofNat 0=>0
 | .ofNat (n+1)=>.negSucc n
 | .negSucc n=>.ofNat (n+1)
theorem Gt (n:Int):Kg n = -n:=by
 cases n with
 | ofNat n=>cases n<;>rfl
 | negSucc n=>rfl
def yT (a b:SE):List (SE × SE × Int)→Option Int
 | []=>none
 |(x,y,s)::l=>match SE.eq a x&&SE.eq b y with
  | true=>some s
  | false=>match SE.eq a y&&SE.eq b x with
   | true=>some (Kg s)
   | false=>yT a b l
def PT.look (T:PT) (a b:SE):Option Int:=match SE.eq a b with
 | true=>some 0
 | false=>yT a b T.cmp
def nP (i:Nat):List (Nat × Nat)→Option Nat
 | []=>none
 |(j,c)::l=>match Nat.beq i j with
  | true=>some c
  | false=>nP i l
def sg (x y:Rat):Int:=(x-y).num.sign
theorem tL (x:Rat):sg x x=0:=by unfold sg;rw[Rat.sub_self];rfl
theorem gD (x y:Rat):sg y x = - sg x y:=by
 unfold sg
 rw[show y-x = -(x-y) by rw[Rat.neg_sub],Rat.neg_num,Int.sign_neg]
theorem cK {x y:Rat}:sg x y=0↔x=y:=by
 unfold sg
 rw[Int.sign_eq_zero_iff_zero,Rat.num_eq_zero]
 constructor
 ·intro h;have:=congrArg (· + y) h;simpa [Rat.sub_add_cancel,Rat.zero_add] using this
 ·intro h;rw[h];exact Rat.sub_self
def Few (s:ByteArray) (d:Nat):Prop:=∃ x,aG s x∧Bd x d
open Classical in
structure TOK (ρ : Nat → Rat) (σ : Nat → ByteArray) (T : PT) : Prop where
 cmp:∀ x∈T.cmp,sg (x.1.val ρ) (x.2.1.val ρ)=x.2.2
 chk:∀ x∈T.chk,cq (chs (σ x.1))=x.2
 says:∀ x∈T.chk,x.2=0→aG (σ x.1) (ρ x.1)
 len:∀ i,(σ i).size≤9223372036854775807
 clen:∀ x∈T.chk,(σ x.1).size≤1000000
 lrg:∀ x∈T.lrg,fh (x.1.val ρ)=x.2
 le:∀ x∈T.le,x.1.val ρ≤x.2.val ρ
 few:∀ x∈T.few,decide (Few (σ x.1) x.2.1)=x.2.2
 bd:∀ i,Bd (ρ i) T.K
theorem IE (s t:ByteArray):(s==t)=decide (s=t):=by
 rw[beq_toListBytes]
 by_cases h:s=t
 ·subst h;simp
 ·rw[decide_eq_false h]
  cases hb:(s.toList==t.toList) with
  | false=>rfl
  | true=>
   have hl:=eq_of_beq hb
   obtain⟨⟨l⟩⟩:=s
   obtain⟨⟨m⟩⟩:=t
   have e1:(⟨⟨l⟩⟩:ByteArray).toList=l:=by simp
   have e2:(⟨⟨m⟩⟩:ByteArray).toList=m:=by simp
   rw[e1,e2] at hl
   subst hl
   exact absurd rfl h
theorem vw {ρ:Nat→Rat} {a b:SE} {s:Int}:∀ (l:List (SE × SE × Int)),(∀ x∈l,sg (x.1.val ρ) (x.2.1.val ρ)=x.2.2)→yT a b l=some s→sg (a.val ρ) (b.val ρ)=s
 | [],_,h=>by cases h
 |(x,y,q)::l,hl,h=>by
  rw[yT] at h
  split at h
  ·rename_i he
   rw[Bool.and_eq_true] at he
   have e1:=SE.eq_eq a x he.1
   have e2:=SE.eq_eq b y he.2
   subst e1 e2
   cases h
   exact hl (a,b,s) List.mem_cons_self
  ·split at h
   ·rename_i he
    rw[Bool.and_eq_true] at he
    have e1:=SE.eq_eq a y he.1
    have e2:=SE.eq_eq b x he.2
    subst e1 e2
    cases h
    rw[gD,Gt]
    exact congrArg _ (hl (b,a,q) List.mem_cons_self)
   ·exact vw l (fun x hx=>hl x (List.mem_cons_of_mem _ hx)) h
theorem TOK.look {ρ:Nat→Rat} {σ:Nat→ByteArray} {T:PT} (h:TOK ρ σ T) {a b:SE} {s:Int} (hl:T.look a b=some s):sg (a.val ρ) (b.val ρ)=s:=by
 unfold PT.look at hl
 split at hl
 ·rename_i he
  have e1:=SE.eq_eq a b he
  subst e1
  cases hl
  exact tL _
 ·exact vw _ h.cmp hl
def kI (x:Rat) (i:Nat) (w:World) (v:Value):Prop:=match i with
 | 0=>v=.bool (decide (x.num<0))
 | 1=>Lim w v x.num.natAbs
 | 2=>v=.bool false
 | 3=>Lim w v x.den∨(x.den=1∧Lim w v 0)
 | _=>False
theorem vu {w:World} {v:Value} {n:Nat} (h:Lim w v n):(∀ n,v≠.int .u64 n)∧(∀ c,v≠.agg c)∧∀ c,v≠.tuple c:=by
 obtain⟨_,_,rfl,_⟩:=h;simp
theorem Gp {x:Rat} {i:Nat} {w:World} {v:Value} (h:kI x i w v):(∀ n,v≠.int .u64 n)∧(∀ c,v≠.agg c)∧∀ c,v≠.tuple c:=by
 unfold kI at h
 split at h
 ·subst h;simp
 ·exact vu h
 ·subst h;simp
 ·rcases h with h|⟨_,h⟩<;>exact vu h
 ·exact h.elim
theorem Gq {x:Rat} {i:Nat} {w w':World} {v:Value} (hg:Grow w w') (hu:U64 w w') (h:kI x i w v):kI x i w' v:=by
 unfold kI at *
 split at h
 ·exact h
 ·exact Lim.keep h hg.1 hu
 ·exact h
 ·exact h.imp (fun h=>Lim.keep h hg.1 hu) fun h=>⟨h.1,Lim.keep h.2 hg.1 hu⟩
 ·exact h
def nX (ρ:Nat→Rat) (σ:Nat→ByteArray):Sy→World→Value→Prop
 | .nc e i,w,v=>kI (e.val ρ) i w v
 | .ss e,_,v=>∃ s,v=.string s∧aG s (e.val ρ)
 | .st i,_,v=>v=.string (σ i)
 | .junk,_,v=>(∀ n,v≠.int .u64 n)∧(∀ c,v≠.agg c)∧∀ c,v≠.tuple c
 | .si i,_,v=>match Nat.blt i 500 with
  | true=>∃ n:Nat,n≤255∧v=.int .u8 n∧ρ (1000+i)=((n:Int):Rat)
  | false=>∃ n:Nat,n≤255∧v=.int .i64 n∧ρ (500+i)=((n:Int):Rat)
def Ia (T:PT):Sy→Option SE
 | .ss a=>some a
 | .st i=>match nP i T.chk with
  | some c=>match c with
   | 0=>some (.v i)
   | _+1=>none
  | none=>none
 | _=>none
theorem pK {i c:Nat}:∀ (l:List (Nat × Nat)),nP i l=some c→(i,c)∈l
 | [],h=>by cases h
 |(j,q)::l,h=>by
  rw[nP] at h
  split at h
  ·rename_i he
   rw[Nat.eq_of_beq_eq_true he,Option.some.inj h]
   exact List.mem_cons_self
  ·exact List.mem_cons_of_mem _ (pK l h)
theorem zE {ρ:Nat→Rat} {σ:Nat→ByteArray} {T:PT} (hT:TOK ρ σ T) {s:Sy} {e:SE} {w:World} {v:Value} (h:Ia T s=some e) (hv:nX ρ σ s w v):∃ t,v=.string t∧aG t (e.val ρ):=by
 cases s with
 | ss a=>cases h;exact hv
 | st i=>
  unfold Ia at h
  simp only at h
  split at h
  ·rename_i c hc
   split at h
   ·cases h
    exact⟨_,hv,hT.says _ (pK _ hc) rfl⟩
   ·cases h
  ·cases h
 | _=>cases h
def EH (T:PT) (x y:Sy):Option Bool:=match Ia T x,Ia T y with
 | some a,some b=>match T.look a b with
  | some (.ofNat 0)=>some true
  | some _=>some false
  | none=>none
 | _,_=>none
def EG (T:PT):Sy→List UInt8→Option Bool
 | .ss _,[]=>some false
 | .ss a,l=>match l with
  | [48]=>match T.look a (.int 0) with
   | some (.ofNat 0)=>some true
   | some _=>some false
   | none=>none
  | _=>none
 | _,_=>none
def KF:Sy→IntKind→Option Sy
 | .si i,k=>match k with
  | .i64=>match Nat.blt i 500 with
   | true=>some (.si (i+500))
   | false=>none
  | _=>none
 | _,_=>none
theorem wrap_small (n:Nat) (hn:n≤255):IntKind.i64.wrap (n:Int)=(n:Int):=by
 have h:(2:Int)^IntKind.i64.bits=18446744073709551616:=by decide
 have h3:(2:Int)^(IntKind.i64.bits-1)=9223372036854775808:=by decide
 simp only[IntKind.wrap,h]
 rw[if_neg]
 ·omega
 ·intro hc
  rw[Bool.and_eq_true,decide_eq_true_iff,h3] at hc
  omega
theorem Fp (i:Nat):Nat.blt (i+500) 500=false:=by
 cases h:Nat.blt (i+500) 500 with
 | false=>rfl
 | true=>have:i+500+1≤500:=Nat.le_of_ble_eq_true h;omega
@[instance_reducible] def gn (ρ : Nat → Rat) (σ : Nat → ByteArray) (T : PT) : Unk where
 is:=fun s w v=>TOK ρ σ T∧nX ρ σ s w v
 keep:=fun s w w' v hg hu h=>by
  obtain⟨hT,h⟩:=h
  refine ⟨hT,?_⟩
  cases s with
  | nc e i=>exact Gq hg hu h
  | ss e=>exact h
  | st i=>exact h
  | junk=>exact h
  | si i=>exact h
 cell:=fun s w v h=>by
  obtain⟨_,h⟩:=h
  cases s with
  | nc e i=>exact Gp h
  | ss e=>obtain⟨s,rfl,_⟩:=h;simp
  | st i=>rw[show v=.string (σ i) from h];simp
  | junk=>exact h
  | si i=>
   unfold nX at h
   simp only at h
   split at h<;>(obtain⟨n,_,rfl,_⟩:=h;simp)
 eqS:=EH T
 eqL:=EG T
 okS:=fun a b r h w v u hv hu=>by
  unfold EH at h
  split at h
  case h_2=>cases h
  rename_i a b ha hb
  obtain⟨hT,hv⟩:=hv
  obtain⟨s,rfl,hs⟩:=zE hT ha hv
  obtain⟨t,rfl,ht⟩:=zE hT hb hu.2
  refine ⟨s,t,rfl,rfl,?_⟩
  have key:(s==t)=decide (sg (a.val ρ) (b.val ρ)=0):=by
   rw[IE]
   by_cases he:a.val ρ=b.val ρ
   ·rw[decide_eq_true (cK.2 he),decide_eq_true (hs.same (by rw[he];exact ht))]
   ·rw[decide_eq_false (fun h=>he (cK.1 h)),decide_eq_false (fun h=>by subst h;exact he (hs.eq ht))]
  rw[key]
  split at h
  ·cases h;rw[hT.look ‹_›];rfl
  ·rename_i x hne hx
   cases h
   rw[hT.look hx]
   exact decide_eq_false fun h=>by subst h;exact hne rfl
  ·cases h
 okL:=fun a l r h w v hv=>by
  cases a with
  | ss a=>
   obtain⟨hT,s,rfl,hs⟩:=hv
   refine ⟨s,rfl,?_⟩
   cases l with
   | nil=>
    cases h
    rw[IE]
    refine decide_eq_false fun h=>?_
    have:=hs.pos
    rw[h] at this
    exact absurd this (by decide)
   | cons c l=>
    unfold EG at h
    simp only at h
    split at h
    ·rename_i heq
     have key:(s==⟨#[48]⟩)=decide (sg (a.val ρ) 0=0):=by
      rw[IE]
      by_cases he:a.val ρ=0
      ·rw[decide_eq_true (cK.2 he),decide_eq_true (hs.zero.2 he)]
      ·rw[decide_eq_false (fun h=>he (cK.1 h)),decide_eq_false (fun h=>he (hs.zero.1 h))]
     rw[heq]
     show (s==⟨#[48]⟩)=r
     rw[key]
     have e0:(SE.int 0).val ρ=0:=rfl
     split at h
     ·rename_i hx
      cases h;have:=hT.look hx;rw[e0] at this;rw[this];rfl
     ·rename_i x hne hx
      cases h
      have h2:=hT.look hx
      rw[e0] at h2
      rw[h2]
      exact decide_eq_false fun h=>by subst h;exact hne rfl
     ·cases h
    ·cases h
  | nc _ _=>cases h
  | st _=>cases h
  | junk=>cases h
  | si _=>cases h
 toK:=KF
 okK:=fun a k b h w v hv=>by
  cases a with
  | si i=>
   unfold KF at h
   simp only at h
   split at h
   ·split at h
    ·rename_i hb
     cases h
     obtain⟨hT,hv⟩:=hv
     unfold nX at hv
     simp only[hb] at hv
     obtain⟨n,hn,rfl,hr⟩:=hv
     refine ⟨_,_,rfl,hT,?_⟩
     unfold nX
     simp only[Fp]
     refine ⟨n,hn,?_,by rw[←hr];congr 1;omega⟩
     congr 1
     exact wrap_small n hn
    ·cases h
   ·cases h
  | _=>cases h
end Go.Sx
namespace Go.Sx
open LimbNum DigNum Go.RowKit
def ExG (w:World) (v:Value) (x:Rat):Prop:=∃ a b c d,v=.agg #[a,b,c,d]∧kI x 0 w a∧kI x 1 w b∧kI x 2 w c∧kI x 3 w d
def BC (i:Nat):AV→Option SE
 | .sym (.nc e j)=>match Nat.beq i j with
  | true=>some e
  | false=>none
 | _=>none
def Gj:List AV→Option SE
 | [.bool s,a,.bool false,b]=>match nF a,nF b with
  | some n,some d=>match Nat.ble d 1 with
   | true=>match s with
    | false=>some (.int (.ofNat n))
    | true=>match n with
     | 0=>none
     | m+1=>some (.int (.negSucc m))
   | false=>none
  | _,_=>none
 | _=>none
def DC:AV→Option SE
 | .agg l=>match l with
  | [a,b,c,d]=>match BC 0 a with
   | some e=>match BC 1 b,BC 2 c,BC 3 d with
    | some e1,some e2,some e3=>match SE.eq e e1&&(SE.eq e e2&&SE.eq e e3) with
     | true=>some e
     | false=>none
    | _,_,_=>none
   | none=>Gj [a,b,c,d]
  | _=>none
 | _=>none
def ofE (e:SE):AV:=.agg [.sym (.nc e 0),.sym (.nc e 1),.sym (.nc e 2),.sym (.nc e 3)]
structure Sem [Unk] (ρ : Nat → Rat) (σ : Nat → ByteArray) (T : PT) : Prop where
 is:∀ s w v,Unk.is s w v=nX ρ σ s w v
 ok:TOK ρ σ T
theorem ye {ρ:Nat→Rat} {σ:Nat→ByteArray} {T:PT} (hT:TOK ρ σ T):@Sem (gn ρ σ T) ρ σ T:=@Sem.mk (gn ρ σ T) ρ σ T (fun _ _ _=>propext ⟨fun h=>h.2,fun h=>⟨hT,h⟩⟩) hT
section
variable {ρ : Nat → Rat} {σ : Nat → ByteArray} {T : PT} [Unk] [Glob]
theorem oS (hT:Sem ρ σ T) {i:Nat} {a:AV} {e:SE} {m:Nm} {w:World} {v:Value} (h:BC i a=some e) (hv:RV m w a v):kI (e.val ρ) i w v:=by
 unfold BC at h
 split at h
 ·rename_i e' j
  split at h
  ·rename_i hb
   have:=Nat.eq_of_beq_eq_true hb
   subst this
   cases h
   rw[RV,hT.is] at hv
   exact hv
  ·cases h
 ·cases h
theorem yR {l:List AV} {e:SE} {m:Nm} {w:World} {vs:List Value} (h:Gj l=some e) (hv:RVs m w l vs):ExG w (.agg vs.toArray) (e.val ρ):=by
 unfold Gj at h
 split at h
 ·rename_i s a b
  rw[RVs] at hv
  obtain⟨v0,l0,rfl,h0,hv⟩:=hv
  rw[RVs] at hv
  obtain⟨v1,l1,rfl,h1,hv⟩:=hv
  rw[RVs] at hv
  obtain⟨v2,l2,rfl,h2,hv⟩:=hv
  rw[RVs] at hv
  obtain⟨v3,l3,rfl,h3,hv⟩:=hv
  rw[RVs] at hv
  subst hv
  rw[RV] at h0 h2
  subst h0 h2
  split at h
  ·rename_i n d hn hd
   have g1:=mS hn h1
   have g2:=mS hd h3
   split at h
   ·rename_i hb
    have hd1:d≤1:=Nat.le_of_ble_eq_true hb
    have key:∀ x:Rat,x.den=1→kI x 3 w v3:=by
     intro x hx
     rcases Nat.lt_or_ge d 1 with h|h
     ·have:d=0:=by omega
      subst this
      exact .inr ⟨hx,g2⟩
     ·have:d=1:=by omega
      subst this
      exact .inl (by rw[hx];exact g2)
    split at h
    ·cases h
     refine ⟨_,_,_,_,rfl,?_,?_,rfl,key _ rfl⟩
     ·show Value.bool false=Value.bool (decide (((Int.ofNat n:Int):Rat).num<0))
      rw[Rat.num_intCast,decide_eq_false (by simp)]
     ·show Lim w v1 (((Int.ofNat n:Int):Rat).num).natAbs
      rw[Rat.num_intCast];exact g1
    ·split at h
     ·cases h
     ·rename_i k
      cases h
      refine ⟨_,_,_,_,rfl,?_,?_,rfl,key _ rfl⟩
      ·show Value.bool true=Value.bool (decide (((Int.negSucc k:Int):Rat).num<0))
       rw[Rat.num_intCast,decide_eq_true (Int.negSucc_lt_zero _)]
      ·show Lim w v1 (((Int.negSucc k:Int):Rat).num).natAbs
       rw[Rat.num_intCast];exact g1
   ·cases h
  ·cases h
 ·cases h
theorem oJ (hT:Sem ρ σ T) {a:AV} {e:SE} {m:Nm} {w:World} {v:Value} (h:DC a=some e) (hv:RV m w a v):ExG w v (e.val ρ):=by
 unfold DC at h
 split at h
 ·rename_i l
  rw[RV] at hv
  obtain⟨vs,rfl,hv⟩:=hv
  split at h
  ·rename_i a b c d
   split at h
   ·rename_i e0 q0
    split at h
    ·rename_i e1 e2 e3 q1 q2 q3
     split at h
     ·rename_i hb
      simp only[Bool.and_eq_true] at hb
      have t1:=SE.eq_eq _ _ hb.1
      have t2:=SE.eq_eq _ _ hb.2.1
      have t3:=SE.eq_eq _ _ hb.2.2
      subst t1 t2 t3
      cases h
      rw[RVs] at hv
      obtain⟨v0,l0,rfl,h0,hv⟩:=hv
      rw[RVs] at hv
      obtain⟨v1,l1,rfl,h1,hv⟩:=hv
      rw[RVs] at hv
      obtain⟨v2,l2,rfl,h2,hv⟩:=hv
      rw[RVs] at hv
      obtain⟨v3,l3,rfl,h3,hv⟩:=hv
      rw[RVs] at hv
      subst hv
      exact⟨_,_,_,_,rfl,oS hT q0 h0,oS hT q1 h1,oS hT q2 h2,oS hT q3 h3⟩
     ·cases h
    ·cases h
   ·exact yR h hv
  ·cases h
 ·cases h
theorem np (hT:Sem ρ σ T) {e:SE} {m:Nm} {w:World} {v:Value} (h:ExG w v (e.val ρ)):RV m w (ofE e) v:=by
 obtain⟨a,b,c,d,rfl,h0,h1,h2,h3⟩:=h
 unfold ofE
 rw[RV]
 refine ⟨[a,b,c,d],rfl,?_⟩
 rw[RVs];refine ⟨_,_,rfl,by rw[RV,hT.is];exact h0,?_⟩
 rw[RVs];refine ⟨_,_,rfl,by rw[RV,hT.is];exact h1,?_⟩
 rw[RVs];refine ⟨_,_,rfl,by rw[RV,hT.is];exact h2,?_⟩
 rw[RVs];exact⟨_,_,rfl,by rw[RV,hT.is];exact h3,by rw[RVs]⟩
def fit (T:PT) (e:SE):Bool:=Nat.ble (e.bd T.K) 100000
theorem kz (hT:TOK ρ σ T) {e:SE} (h:fit T e=true):∃ k,k≤100000∧Bd (e.val ρ) k:=⟨_,Nat.le_of_ble_eq_true h,SE.fZ hT.bd e⟩
def e1 (T:PT) (f:SE→Option AV):Prm:=fun _ a=>match a with
 | [x]=>match DC x with
  | some p=>match fit T p with
   | true=>f p
   | false=>none
  | none=>none
 | _=>none
def e2 (T:PT) (f:SE→SE→Option AV):Prm:=fun _ a=>match a with
 | [x,y]=>match DC x,DC y with
  | some p,some q=>match fit T p&&fit T q with
   | true=>f p q
   | false=>none
  | _,_=>none
 | _=>none
variable {P : Program} {F : FuncId}
theorem yE (hT:Sem ρ σ T) {f:SE→Option AV} (H:∀ p av,f p=some av→∀ v k w,ExG w v (p.val ρ)→Bd (p.val ρ) k→k≤100000→Calls P F #[v] w fun e w'=>∃ v',e=.returned v'∧(∀ m,RV m w' av v')∧Below w.heap.size w w'):au P F (e1 T f):=by
 intro h args av hg m w vals hv hs
 unfold e1 at hg
 split at hg
 ·rename_i x
  split at hg
  ·rename_i p hp
   split at hg
   ·rename_i hf
    rw[RVs] at hv
    obtain⟨v,l,rfl,h1,h2⟩:=hv
    rw[RVs] at h2
    subst h2
    obtain⟨k,hk,hb⟩:=kz hT.ok hf
    refine (H p av hg v k w (oJ hT hp h1) hb hk).mono ?_
    rintro e w' ⟨v',h3,h4,h5⟩
    exact⟨v',h3,h4 m,h5⟩
   ·cases hg
  ·cases hg
 ·cases hg
theorem CH (hT:Sem ρ σ T) {f:SE→SE→Option AV} (H:∀ p q av,f p q=some av→∀ u v k l w,ExG w u (p.val ρ)→ExG w v (q.val ρ)→Bd (p.val ρ) k→Bd (q.val ρ) l→k≤100000→l≤100000→Calls P F #[u,v] w fun e w'=>∃ v',e=.returned v'∧(∀ m,RV m w' av v')∧Below w.heap.size w w'):au P F (e2 T f):=by
 intro h args av hg m w vals hv hs
 unfold e2 at hg
 split at hg
 ·rename_i x y
  split at hg
  ·rename_i p q hp hq
   split at hg
   ·rename_i hf
    rw[Bool.and_eq_true] at hf
    rw[RVs] at hv
    obtain⟨u,l,rfl,h1,h2⟩:=hv
    rw[RVs] at h2
    obtain⟨v,l,rfl,h2,h3⟩:=h2
    rw[RVs] at h3
    subst h3
    obtain⟨k,hk,hb⟩:=kz hT.ok hf.1
    obtain⟨k2,hk2,hb2⟩:=kz hT.ok hf.2
    refine (H p q av hg u v k k2 w (oJ hT hp h1) (oJ hT hq h2) hb hb2 hk hk2).mono ?_
    rintro e w' ⟨v',h3,h4,h5⟩
    exact⟨v',h3,h4 m,h5⟩
   ·cases hg
  ·cases hg
 ·cases hg
def op2 (op:SE→SE→SE):SE→SE→Option AV:=fun p q=>some (ofE (op p q))
def Kc (T:PT):Prm:=e2 T (op2 .add)
def Ke (T:PT):Prm:=e2 T (op2 .sub)
def Kd (T:PT):Prm:=e2 T (op2 .mul)
def II (T:PT):Prm:=e2 T fun p q=>match T.look p q with
 | some s=>some (.int .i64 s)
 | none=>none
def IJ (T:PT):Prm:=e1 T fun p=>some (ofE (.neg p))
def CI (T:PT):Prm:=e1 T fun p=>match T.look p (.int 0) with
 | some s=>some (.int .i64 s)
 | none=>none
def yU (e:SE):List (SE × Nat)→Option Nat
 | []=>none
 |(x,c)::l=>match SE.eq e x with
  | true=>some c
  | false=>yU e l
def PT.big (T:PT) (e:SE):Option Nat:=match Nat.ble (e.bd T.K) 600 with
 | true=>some 0
 | false=>yU e T.lrg
theorem AS {x:Rat} {k:Nat} (h:Bd x k) (hk:k≤600):fh x=0:=by
 have h6:=h.mono hk
 unfold fh
 rw[if_pos ⟨(gv (by decide)).2 h6.1,(gv (by decide)).2 h6.2⟩]
theorem vz {e:SE} {c:Nat}:∀ (l:List (SE × Nat)),(∀ x∈l,fh (x.1.val ρ)=x.2)→yU e l=some c→fh (e.val ρ)=c
 | [],_,h=>by cases h
 |(x,q)::l,hl,h=>by
  rw[yU] at h
  split at h
  ·rename_i he
   have e1:=SE.eq_eq _ _ he
   subst e1
   have e2:q=c:=Option.some.inj h
   subst e2
   exact hl (e,q) List.mem_cons_self
  ·exact vz l (fun x hx=>hl x (List.mem_cons_of_mem _ hx)) h
theorem wS (hT:TOK ρ σ T) {e:SE} {c:Nat} (h:T.big e=some c):fh (e.val ρ)=c:=by
 unfold PT.big at h
 split at h
 ·rename_i hb
  cases h
  exact AS (SE.fZ hT.bd e) (Nat.le_of_ble_eq_true hb)
 ·exact vz _ hT.lrg h
def Ec (e:SE):Nat→AV
 | 0=>.tup [.sym (.ss e),.int .i64 0]
 | c+1=>.tup [.str [],.int .i64 (.ofNat (c+1))]
def FK (T:PT):Prm:=e1 T fun p=>match T.big p with
 | some c=>some (Ec p c)
 | none=>none
theorem xL (hT:Sem ρ σ T) {op:SE→SE→SE} (H:∀ u v p q k l w,ExG w u (p.val ρ)→ExG w v (q.val ρ)→Bd (p.val ρ) k→Bd (q.val ρ) l→k≤100000→l≤100000→Calls P F #[u,v] w fun e w'=>∃ v',e=.returned v'∧ExG w' v' ((op p q).val ρ)∧Below w.heap.size w w'):au P F (e2 T (op2 op)):=CH hT fun p q av hav u v k l w h1 h2 b1 b2 hk hl=>by
 cases hav
 refine (H u v p q k l w h1 h2 b1 b2 hk hl).mono ?_
 rintro e w' ⟨v',h3,h4,h5⟩
 exact⟨v',h3,fun _=>np hT h4,h5⟩
theorem FI (hT:Sem ρ σ T) (H:∀ u v x y k l w,ExG w u x→ExG w v y→Bd x k→Bd y l→k≤100000→l≤100000→Calls P F #[u,v] w fun e w'=>e=.returned (.int .i64 (x-y).num.sign)∧Below w.heap.size w w'):au P F (II T):=CH hT fun p q av hav u v k l w h1 h2 b1 b2 hk hl=>by
 split at hav
 ·rename_i s hs
  cases hav
  refine (H u v _ _ k l w h1 h2 b1 b2 hk hl).mono ?_
  rintro e w' ⟨h3,h5⟩
  exact⟨_,h3,fun _=>by rw[RV];exact congrArg _ (hT.ok.look hs),h5⟩
 ·cases hav
theorem FJ (hT:Sem ρ σ T) (H:∀ u x k w,ExG w u x→Bd x k→k≤100000→Calls P F #[u] w fun e w'=>∃ v',e=.returned v'∧ExG w' v' (-x)∧Below w.heap.size w w'):au P F (IJ T):=yE hT fun p av hav v k w h1 b1 hk=>by
 cases hav
 refine (H v _ k w h1 b1 hk).mono ?_
 rintro e w' ⟨v',h3,h4,h5⟩
 exact⟨v',h3,fun _=>np hT h4,h5⟩
theorem CJ (hT:Sem ρ σ T) (H:∀ u x k w,ExG w u x→Bd x k→k≤100000→Calls P F #[u] w fun e w'=>e=.returned (.int .i64 x.num.sign)∧Below w.heap.size w w'):au P F (CI T):=yE hT fun p av hav v k w h1 b1 hk=>by
 split at hav
 ·rename_i s hs
  cases hav
  refine (H v _ k w h1 b1 hk).mono ?_
  rintro e w' ⟨h3,h5⟩
  have key:(p.val ρ).num.sign=s:=by
   have:=hT.ok.look hs
   rw[←this]
   unfold sg
   rw[show (SE.int 0).val ρ=0 from rfl,Rat.sub_eq_add_neg,show (-(0:Rat))=0 from rfl,Rat.add_zero]
  exact⟨_,h3,fun _=>by rw[RV,key],h5⟩
 ·cases hav
def JV (T:PT) (p:SE):Option SE:=match T.look p (.int 0) with
 | some s=>match s with
  | .negSucc _=>some (.neg p)
  | .ofNat _=>some p
 | none=>none
def IH (T:PT):Prm:=e1 T fun p=>match JV T p with
 | some q=>some (ofE q)
 | none=>none
theorem FH (hT:Sem ρ σ T) (H:∀ u x k w,ExG w u x→Bd x k→k≤100000→Calls P F #[u] w fun e w'=>∃ v',e=.returned v'∧(∀ y:Rat,y.num=(x.num.natAbs:Int)→y.den=x.den→ExG w' v' y)∧Below w.heap.size w w'):au P F (IH T):=yE hT fun p av hav v k w h1 b1 hk=>by
 split at hav
 ·rename_i q hq
  cases hav
  refine (H v _ k w h1 b1 hk).mono ?_
  rintro e w' ⟨v',h3,h4,h5⟩
  have key:(p.val ρ).num.sign=sg (p.val ρ) 0:=by
   unfold sg
   rw[Rat.sub_eq_add_neg,show (-(0:Rat))=0 from rfl,Rat.add_zero]
  refine ⟨v',h3,fun _=>np hT (h4 _ ?_ ?_),h5⟩
  all_goals
   unfold JV at hq
   split at hq
   ·rename_i s hs
    have hl:sg (p.val ρ) 0=s:=hT.ok.look hs
    rw[hl] at key
    split at hq
    ·cases hq
     have:(p.val ρ).num<0:=by
      rw[←Int.sign_eq_neg_one_iff_neg]
      have:=Int.sign_trichotomy (p.val ρ).num
      have:=Int.negSucc_lt_zero ‹Nat›
      omega
     first
     | exact Rat.neg_den _
     |(show (-(p.val ρ)).num=_;rw[Rat.neg_num];omega)
    ·cases hq
     have:0≤(p.val ρ).num:=by
      rw[←Int.sign_nonneg_iff,key]
      exact Int.natCast_nonneg _
     first
     | rfl
     |(show (p.val ρ).num=_;omega)
   ·cases hq
 ·cases hav
def sqE (p:SE):SE:=match p with
 | .neg x=>.mul x x
 | .int n=>match n with
  | .ofNat k=>match k with
   | 0=>.int 0
   | k=>.mul (.int (.ofNat k)) (.int (.ofNat k))
  | n=>.mul (.int n) (.int n)
 | p=>.mul p p
theorem GK (p:SE):(sqE p).val ρ=p.val ρ*p.val ρ:=by
 unfold sqE
 split
 ·show _ = -_ * -_
  rw[Rat.neg_mul,Rat.mul_neg,Rat.neg_neg];rfl
 ·split
  ·split
   ·exact (Rat.zero_mul 0).symm
   ·rfl
  ·rfl
 ·rfl
def sS (T:PT):Prm:=e1 T fun p=>some (ofE (sqE p))
theorem xe (hT:Sem ρ σ T) (H:∀ u x k w,ExG w u x→Bd x k→k≤100000→Calls P F #[u] w fun e w'=>∃ v',e=.returned v'∧ExG w' v' (x*x)∧Below w.heap.size w w'):au P F (sS T):=yE hT fun p av hav v k w h1 b1 hk=>by
 cases hav
 refine (H v _ k w h1 b1 hk).mono ?_
 rintro e w' ⟨v',h3,h4,h5⟩
 exact⟨v',h3,fun _=>np hT (by rw[GK];exact h4),h5⟩
def xd (T:PT):Prm:=e2 T fun p q=>match T.look p q with
 | some s=>match s with
  | .ofNat n=>match n with
   | 0=>some (.bool true)
   | _+1=>some (.bool false)
  | .negSucc _=>some (.bool false)
 | none=>none
theorem Ap (hT:Sem ρ σ T) (H:∀ u v x y k l w,ExG w u x→ExG w v y→Bd x k→Bd y l→k≤100000→l≤100000→Calls P F #[u,v] w fun e w'=>e=.returned (.bool (decide (x=y)))∧Below w.heap.size w w'):au P F (xd T):=CH hT fun p q av hav u v k l w h1 h2 b1 b2 hk hl=>by
 refine (H u v _ _ k l w h1 h2 b1 b2 hk hl).mono ?_
 rintro e w' ⟨h3,h5⟩
 refine ⟨_,h3,fun _=>?_,h5⟩
 split at hav
 ·rename_i s hs
  have hl:sg (p.val ρ) (q.val ρ)=s:=hT.ok.look hs
  split at hav
  ·split at hav
   ·cases hav
    rw[RV,decide_eq_true (cK.1 hl)]
   ·cases hav
    rw[RV,decide_eq_false fun h=>by rw[cK.2 h] at hl;exact absurd hl (by first|(simp;done)|(simp;omega))]
  ·cases hav
   rw[RV,decide_eq_false fun h=>by rw[cK.2 h] at hl;exact absurd hl (by first|(simp;done)|(simp;omega))]
 ·cases hav
end
end Go.Sx
namespace Go.Sx
open LimbNum DigNum Go.RowKit
theorem vU (n:Nat) (s:ByteArray) (h:chs s=aW n):aG s ((n:Int):Rat):=sd (h.trans (dn n).symm)
def xx:List UInt8→Option SE
 | [48]=>some (.int 0)
 | [49]=>some (.int 1)
 | _=>none
theorem th {l:List UInt8} {e:SE} {ρ:Nat→Rat} (h:xx l=some e):aG ⟨l.toArray⟩ (e.val ρ):=by
 unfold xx at h
 split at h
 ·cases h;exact vU 0 _ (by rw[dV];rfl)
 ·cases h;exact vU 1 _ (by rw[ji];rfl)
 ·cases h
theorem rI {x:Rat} {k:Nat} (hk:1≤k) (h1:nd x.num.natAbs≤k) (h2:nd x.den≤k):Bd x k:=⟨(gv hk).1 h1,(gv hk).1 h2⟩
def ru (T:PT):AV→Option SE
 | .sym s=>match s with
  | .ss e=>some e
  | .st i=>match nP i T.chk with
   | some 0=>some (.v i)
   | _=>none
  | _=>none
 | .str l=>xx l
 | _=>none
theorem mT {i c:Nat}:∀ (l:List (Nat × Nat)),nP i l=some c→(i,c)∈l
 | [],h=>by cases h
 |(j,q)::l,h=>by
  rw[nP] at h
  split at h
  ·rename_i he
   have e1:=Nat.eq_of_beq_eq_true he
   subst e1
   have e2:q=c:=Option.some.inj h
   subst e2
   exact List.mem_cons_self
  ·exact List.mem_cons_of_mem _ (mT l h)
section
variable {ρ : Nat → Rat} {σ : Nat → ByteArray} {T : PT} [Unk] [Glob]
theorem oR (hT:Sem ρ σ T) {a:AV} {e:SE} {m:Nm} {w:World} {v:Value} (h:ru T a=some e) (hv:RV m w a v):∃ s,v=.string s∧aG s (e.val ρ):=by
 unfold ru at h
 split at h
 ·split at h
  ·cases h
   rw[RV,hT.is] at hv
   exact hv
  ·rename_i i
   split at h
   ·rename_i hl
    cases h
    rw[RV,hT.is] at hv
    exact⟨_,hv,hT.ok.says _ (mT _ hl) rfl⟩
   ·cases h
  ·cases h
 ·rw[RV] at hv
  exact⟨_,hv,th h⟩
 ·cases h
theorem zt (hT:Sem ρ σ T) {e:SE} {m:Nm} {w:World} {s:ByteArray} (h:aG s (e.val ρ)):RV m w (.sym (.ss e)) (.string s):=by
 rw[RV,hT.is]
 exact⟨s,rfl,h⟩
def s1 (T:PT) (f:SE→Option AV):Prm:=fun _ a=>match a with
 | [x]=>match ru T x with
  | some p=>match fit T p with
   | true=>f p
   | false=>none
  | none=>none
 | _=>none
def s2 (T:PT) (f:SE→SE→Option AV):Prm:=fun _ a=>match a with
 | [x,y]=>match ru T x,ru T y with
  | some p,some q=>match fit T p&&fit T q with
   | true=>f p q
   | false=>none
  | _,_=>none
 | _=>none
variable {P : Program} {F : FuncId}
theorem Iq (hT:Sem ρ σ T) {f:SE→Option AV} (H:∀ p av,f p=some av→∀ s k w,aG s (p.val ρ)→Bd (p.val ρ) k→k≤100000→Calls P F #[.string s] w fun e w'=>∃ v',e=.returned v'∧(∀ m,RV m w' av v')∧Below w.heap.size w w'):au P F (s1 T f):=by
 intro h args av hg m w vals hv hs
 unfold s1 at hg
 split at hg
 ·rename_i x
  split at hg
  ·rename_i p hp
   split at hg
   ·rename_i hf
    rw[RVs] at hv
    obtain⟨v,l,rfl,h1,h2⟩:=hv
    rw[RVs] at h2
    subst h2
    obtain⟨s,rfl,g1⟩:=oR hT hp h1
    obtain⟨k,hk,hb⟩:=kz hT.ok hf
    refine (H p av hg s k w g1 hb hk).mono ?_
    rintro e w' ⟨v',h3,h4,h5⟩
    exact⟨v',h3,h4 m,h5⟩
   ·cases hg
  ·cases hg
 ·cases hg
theorem Ir (hT:Sem ρ σ T) {f:SE→SE→Option AV} (H:∀ p q av,f p q=some av→∀ s t k l w,aG s (p.val ρ)→aG t (q.val ρ)→Bd (p.val ρ) k→Bd (q.val ρ) l→k≤100000→l≤100000→Calls P F #[.string s,.string t] w fun e w'=>∃ v',e=.returned v'∧(∀ m,RV m w' av v')∧Below w.heap.size w w'):au P F (s2 T f):=by
 intro h args av hg m w vals hv hs
 unfold s2 at hg
 split at hg
 ·rename_i x y
  split at hg
  ·rename_i p q hp hq
   split at hg
   ·rename_i hf
    rw[Bool.and_eq_true] at hf
    rw[RVs] at hv
    obtain⟨u,l,rfl,h1,h2⟩:=hv
    rw[RVs] at h2
    obtain⟨v,l,rfl,h2,h3⟩:=h2
    rw[RVs] at h3
    subst h3
    obtain⟨s,rfl,g1⟩:=oR hT hp h1
    obtain⟨t,rfl,g2⟩:=oR hT hq h2
    obtain⟨k,hk,hb⟩:=kz hT.ok hf.1
    obtain⟨k2,hk2,hb2⟩:=kz hT.ok hf.2
    refine (H p q av hg s t k k2 w g1 g2 hb hb2 hk hk2).mono ?_
    rintro e w' ⟨v',h3,h4,h5⟩
    exact⟨v',h3,h4 m,h5⟩
   ·cases hg
  ·cases hg
 ·cases hg
def os2 (op:SE→SE→SE):SE→SE→Option AV:=fun p q=>some (.sym (.ss (op p q)))
def Ky (T:PT):Prm:=s2 T (os2 .add)
def KA (T:PT):Prm:=s2 T (os2 .sub)
def Kz (T:PT):Prm:=s2 T (os2 .mul)
def Jz (T:PT):Prm:=s2 T fun p q=>match T.look p q with
 | some s=>some (.int .i64 s)
 | none=>none
def Ek (T:PT):Prm:=s1 T fun p=>match T.look p (.int 0) with
 | some s=>some (.int .i64 s)
 | none=>none
def yc (T:PT):Prm:=s1 T fun p=>match T.big p with
 | some c=>some (.int .i64 (.ofNat c))
 | none=>none
theorem xN (hT:Sem ρ σ T) {op:SE→SE→SE} (H:∀ s t p q k l w,aG s (p.val ρ)→aG t (q.val ρ)→Bd (p.val ρ) k→Bd (q.val ρ) l→k≤100000→l≤100000→Calls P F #[.string s,.string t] w fun e w'=>∃ u:ByteArray,e=.returned (.string u)∧aG u ((op p q).val ρ)∧Below w.heap.size w w'):au P F (s2 T (os2 op)):=Ir hT fun p q av hav s t k l w h1 h2 b1 b2 hk hl=>by
 cases hav
 refine (H s t p q k l w h1 h2 b1 b2 hk hl).mono ?_
 rintro e w' ⟨u,h3,h4,h5⟩
 exact⟨_,h3,fun _=>zt hT h4,h5⟩
theorem GG (hT:Sem ρ σ T) (H:∀ s t x y k l w,aG s x→aG t y→Bd x k→Bd y l→k≤100000→l≤100000→Calls P F #[.string s,.string t] w fun e w'=>e=.returned (.int .i64 (x-y).num.sign)∧Below w.heap.size w w'):au P F (Jz T):=Ir hT fun p q av hav s t k l w h1 h2 b1 b2 hk hl=>by
 split at hav
 ·rename_i c hs
  cases hav
  refine (H s t _ _ k l w h1 h2 b1 b2 hk hl).mono ?_
  rintro e w' ⟨h3,h5⟩
  have key:(p.val ρ-q.val ρ).num.sign=c:=hT.ok.look hs
  exact⟨_,h3,fun _=>by rw[RV,key],h5⟩
 ·cases hav
theorem El (hT:Sem ρ σ T) (H:∀ s x k w,aG s x→Bd x k→k≤100000→Calls P F #[.string s] w fun e w'=>e=.returned (.int .i64 x.num.sign)∧Below w.heap.size w w'):au P F (Ek T):=Iq hT fun p av hav s k w h1 b1 hk=>by
 split at hav
 ·rename_i c hs
  cases hav
  refine (H s _ k w h1 b1 hk).mono ?_
  rintro e w' ⟨h3,h5⟩
  have key:(p.val ρ).num.sign=c:=by
   have:=hT.ok.look hs
   rw[←this]
   unfold sg
   rw[show (SE.int 0).val ρ=0 from rfl,Rat.sub_eq_add_neg,show (-(0:Rat))=0 from rfl,Rat.add_zero]
  exact⟨_,h3,fun _=>by rw[RV,key],h5⟩
 ·cases hav
theorem Bm (hT:Sem ρ σ T) (H:∀ s x k w,aG s x→Bd x k→k≤100000→Calls P F #[.string s] w fun e w'=>e=.returned (.int .i64 ((fh x:Nat):Int))∧Below w.heap.size w w'):au P F (yc T):=Iq hT fun p av hav s k w h1 b1 hk=>by
 split at hav
 ·rename_i c hc
  cases hav
  refine (H s _ k w h1 b1 hk).mono ?_
  rintro e w' ⟨h3,h5⟩
  have key:=wS hT.ok hc
  exact⟨_,h3,fun _=>by rw[RV,key];rfl,h5⟩
 ·cases hav
def Fs (T:PT):AV→Option Nat
 | .sym s=>match s with
  | .st i=>nP i T.chk
  | .ss e=>match T.big e with
   | some 0=>some 0
   | _=>none
  | _=>none
 | .str l=>match xx l with
  | some _=>some 0
  | none=>none
 | _=>none
theorem Bp {s:ByteArray} {x:Rat} (h:aG s x) (hl:fh x=0):Bd x 600∧cq (chs s)=0:=by
 have hb:Bd x 600:=by
  unfold fh at hl
  split at hl
  ·rename_i hc
   exact rI (by decide) hc.1 hc.2
  ·cases hl
 exact⟨hb,by rw[show chs s=bR x from h];exact ph hb⟩
theorem vT {s:ByteArray} {x:Rat} (h:aG s x) (hb:Bd x 600):s.size≤1000000:=by
 rw[h.size];exact Nat.le_trans (iC hb) (by decide)
theorem IV {l:List UInt8} {e:SE} (h:xx l=some e):Bd (e.val ρ) 600:=by
 have key:∀ n:Nat,n<10→Bd (((n:Int):Rat)) 600:=fun n hn=>(wR (n:Int) 4 (by show n<2^4;omega) (by decide)).mono (by decide)
 unfold xx at h
 split at h
 ·cases h;exact key 0 (by decide)
 ·cases h;exact key 1 (by decide)
 ·cases h
theorem yA (hT:Sem ρ σ T) {a:AV} {c:Nat} {m:Nm} {w:World} {v:Value} (h:Fs T a=some c) (hv:RV m w a v):∃ s,v=.string s∧s.size≤1000000∧cq (chs s)=c∧(c=0→∃ e,ru T a=some e∧aG s (e.val ρ)∧Bd (e.val ρ) 600):=by
 unfold Fs at h
 split at h
 ·split at h
  ·rename_i i
   rw[RV,hT.is] at hv
   have hm:=mT _ h
   have h1:=hT.ok.chk _ hm
   refine ⟨_,hv,hT.ok.clen _ hm,h1,fun h0=>?_⟩
   subst h0
   have h2:=hT.ok.says _ hm rfl
   refine ⟨.v i,by rw[ru,h];rfl,h2,?_⟩
   obtain⟨x,q1,q2⟩:=lx h1
   have:x=ρ i:=aG.eq (s:=σ i) q1 h2
   subst this
   exact q2
  ·rename_i e
   split at h
   ·rename_i hb
    cases h
    rw[RV,hT.is] at hv
    obtain⟨s,rfl,hs⟩:=hv
    obtain⟨q1,q2⟩:=Bp hs (wS hT.ok hb)
    exact⟨s,rfl,vT hs q1,q2,fun _=>⟨e,rfl,hs,q1⟩⟩
   ·cases h
  ·cases h
 ·rename_i l
  split at h
  ·rename_i e he
   cases h
   rw[RV] at hv
   have h1:=th (ρ:=ρ) he
   have h2:=IV (ρ:=ρ) he
   exact⟨_,hv,vT h1 h2,by rw[show chs _=bR _ from h1];exact ph h2,fun _=>⟨e,he,h1,h2⟩⟩
  ·cases h
 ·cases h
def vL (T:PT) (a:AV):Nat→Option AV
 | 0=>match ru T a with
  | some e=>some (.tup [ofE e,.int .i64 0])
  | none=>none
 | c+1=>some (.tup [ofE (.int 0),.int .i64 (.ofNat (c+1))])
def sR (T:PT):Prm:=fun _ a=>match a with
 | [x]=>match Fs T x with
  | some c=>vL T x c
  | none=>none
 | _=>none
def tK (T:PT):Prm:=fun _ a=>match a with
 | [x]=>match Fs T x with
  | some c=>some (.int .i64 (.ofNat c))
  | none=>none
 | _=>none
theorem Bl (hT:Sem ρ σ T) (H:∀ s w,s.size≤1000000→Calls P F #[.string s] w fun e w'=>e=.returned (.int .i64 ((cq (chs s):Nat):Int))∧Below w.heap.size w w'):au P F (tK T):=by
 intro h args av hg m w vals hv hs
 unfold tK at hg
 split at hg
 ·rename_i x
  split at hg
  ·rename_i c hc
   cases hg
   rw[RVs] at hv
   obtain⟨v,l,rfl,h1,h2⟩:=hv
   rw[RVs] at h2
   subst h2
   obtain⟨s,rfl,q1,q2,_⟩:=yA hT hc h1
   refine (H s w q1).mono ?_
   rintro e w' ⟨h3,h5⟩
   exact⟨_,h3,by rw[RV,q2];rfl,h5⟩
  ·cases hg
 ·cases hg
theorem oO {m:Nm} {w:World} {a b:AV} {u v:Value} (h1:RV m w a u) (h2:RV m w b v):RV m w (.tup [a,b]) (.tuple #[u,v]):=by
 rw[RV]
 refine ⟨[u,v],rfl,?_⟩
 rw[RVs]
 refine ⟨_,_,rfl,h1,?_⟩
 rw[RVs]
 exact⟨_,_,rfl,h2,by rw[RVs]⟩
theorem Aq (hT:Sem ρ σ T) (H:∀ s w,s.size≤1000000→Calls P F #[.string s] w fun e w'=>∃ v,e=.returned (.tuple #[v,.int .i64 ((cq (chs s):Nat):Int)])∧((cq (chs s)≠0→ExG w' v 0)∧∀ x,aG s x→Bd x 600→ExG w' v x)∧Below w.heap.size w w'):au P F (sR T):=by
 intro h args av hg m w vals hv hs
 unfold sR at hg
 split at hg
 ·rename_i x
  split at hg
  ·rename_i c hc
   rw[RVs] at hv
   obtain⟨v,l,rfl,h1,h2⟩:=hv
   rw[RVs] at h2
   subst h2
   obtain⟨s,rfl,q1,q2,q3⟩:=yA hT hc h1
   refine (H s w q1).mono ?_
   rintro e w' ⟨v',h3,⟨h4,h6⟩,h5⟩
   refine ⟨_,h3,?_,h5⟩
   rw[q2]
   unfold vL at hg
   split at hg
   ·obtain⟨e,g1,g2,g3⟩:=q3 rfl
    rw[g1] at hg
    cases hg
    exact oO (np hT (h6 _ g2 g3)) (by rw[RV];rfl)
   ·cases hg
    exact oO (np hT (h4 (by rw[q2];omega))) (by rw[RV];rfl)
  ·cases hg
 ·cases hg
theorem FL (hT:Sem ρ σ T) (H:∀ u x k w,ExG w u x→Bd x k→k≤100000→(∃ m h,RS m w h)→Calls P F #[u] w fun e w'=>∃ t:ByteArray,e=.returned (.tuple #[.string t,.int .i64 ((fh x:Nat):Int)])∧(fh x=0→aG t x)∧(fh x≠0→t=ByteArray.mk #[])∧Below w.heap.size w w'):au P F (FK T):=by
 intro h args av hg m w vals hv hs
 unfold FK e1 at hg
 split at hg
 ·rename_i x
  split at hg
  ·rename_i p hp
   split at hg
   ·rename_i hf
    dsimp only at hg
    split at hg
    ·rename_i c hc
     cases hg
     rw[RVs] at hv
     obtain⟨v,l,rfl,h1,h2⟩:=hv
     rw[RVs] at h2
     subst h2
     obtain⟨k,hk,hb⟩:=kz hT.ok hf
     refine (H v _ k w (oJ hT hp h1) hb hk ⟨m,_,hs⟩).mono ?_
     rintro e w' ⟨t,h3,h4,h6,h5⟩
     refine ⟨_,h3,?_,h5⟩
     have key:=wS hT.ok hc
     rw[key]
     unfold Ec
     split
     ·exact oO (zt hT (h4 key)) (by rw[RV];rfl)
     ·rw[h6 (by rw[key];omega)]
      exact oO (by rw[RV]) (by rw[RV];rfl)
    ·cases hg
   ·cases hg
  ·cases hg
 ·cases hg
end
end Go.Sx
