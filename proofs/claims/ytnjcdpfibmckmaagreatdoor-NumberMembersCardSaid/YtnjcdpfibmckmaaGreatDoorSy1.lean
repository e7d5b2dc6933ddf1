import Derived.Test.YtnjcdpfibmckmaaGreatDoorDig
import Derived.Test.YtnjcdpfibmckmaaGreatDoorPr
set_option linter.unusedSectionVars false
set_option linter.unusedVariables false
set_option linter.unusedSimpArgs false
namespace Go.Sx
open LimbNum DigNum
def bP (k:Nat) (a b:Rat):Rat:=match k with
 | 0=>if a≤b then a else b
 | 1=>if a≤b then b else a
 | 2=>if a≤0∧0≤b then 0 else if a*a≤b*b then a*a else b*b
 | 3=>if a*a≤b*b then b*b else a*a
 | _=>0
theorem kP {k:Nat} (h:1≤k):Bd 0 k:=by
 have:=Nat.one_lt_pow (n:=k) (a:=10) (by omega) (by decide)
 exact⟨by show 0<10^k;omega,by show 1<10^k;omega⟩
def bdB (i k l:Nat):Nat:=match i with
 | 0=>match Nat.ble k l with
  | true=>l
  | false=>k
 | 1=>match Nat.ble k l with
  | true=>l
  | false=>k
 | _=>2*(k+l)
theorem FZ (k l:Nat):k≤(match Nat.ble k l with|true=>l|false=>k)∧l≤(match Nat.ble k l with|true=>l|false=>k):=by
 cases h:Nat.ble k l with
 | true=>exact⟨Nat.le_of_ble_eq_true h,Nat.le_refl _⟩
 | false=>
  have:¬k≤l:=fun hc=>by have:=Nat.ble_eq_true_of_le hc;rw[h] at this;cases this
  exact⟨Nat.le_refl _,by show l≤k;omega⟩
theorem G0 {a b:Rat} {k l:Nat} (i:Nat) (h1:Bd a k) (h2:Bd b l):Bd (bP i a b) (bdB i k l):=by
 have:=h1.pos
 have:=h2.pos
 have hb:=FZ k l
 unfold bP
 split
 ·split
  ·exact h1.mono hb.1
  ·exact h2.mono hb.2
 ·split
  ·exact h2.mono hb.2
  ·exact h1.mono hb.1
 ·split
  ·exact kP (by show 1≤2*(k+l);omega)
  ·split
   ·exact (lT h1 h1).mono (by show k+k≤2*(k+l);omega)
   ·exact (lT h2 h2).mono (by show l+l≤2*(k+l);omega)
 ·split
  ·exact (lT h2 h2).mono (by show l+l≤2*(k+l);omega)
  ·exact (lT h1 h1).mono (by show k+k≤2*(k+l);omega)
 ·rename_i n h0 h1' h2' h3'
  refine kP ?_
  unfold bdB
  split
  ·exact absurd rfl h0
  ·exact absurd rfl h1'
  ·omega
def SE.val (ρ:Nat→Rat):SE→Rat
 | .v i=>ρ i
 | .int n=>(n:Rat)
 | .add a b=>a.val ρ+b.val ρ
 | .sub a b=>a.val ρ-b.val ρ
 | .mul a b=>a.val ρ*b.val ρ
 | .quo a b=>a.val ρ/b.val ρ
 | .neg a=>- a.val ρ
 | .bin k a b=>bP k (a.val ρ) (b.val ρ)
def SE.bd (K:Nat):SE→Nat
 | .v _=>K
 | .int n=>match n with
  | .ofNat n=>n.log2+1
  | .negSucc n=>n.log2+2
 | .add a b=>a.bd K+b.bd K+1
 | .sub a b=>a.bd K+b.bd K+1
 | .mul a b=>a.bd K+b.bd K
 | .quo a b=>a.bd K+b.bd K
 | .neg a=>a.bd K
 | .bin k a b=>bdB k (a.bd K) (b.bd K)
theorem vZ (n:Int) (k:Nat) (h:n.natAbs<2^k) (hk:1≤k):Bd (n:Rat) k:=
 ⟨by rw[Rat.num_intCast];exact Nat.lt_of_lt_of_le h (Nat.pow_le_pow_left (by decide) k),by rw[Rat.den_intCast];exact Nat.one_lt_pow (by omega) (by decide)⟩
theorem SE.gg {ρ:Nat→Rat} {K:Nat} (hρ:∀ i,Bd (ρ i) K):∀ e:SE,Bd (e.val ρ) (e.bd K)
 | .v i=>hρ i
 | .int n=>by
  cases n with
  | ofNat n=>
   refine vZ _ _ ?_ (by simp[SE.bd])
   show n<2^(n.log2+1)
   exact Nat.lt_log2_self
  | negSucc n=>
   refine vZ _ _ ?_ (by simp[SE.bd])
   show n+1<2^(n.log2+2)
   have:n<2^(n.log2+1):=Nat.lt_log2_self
   have h2:2^(n.log2+2)=2*2^(n.log2+1):=by rw[Nat.pow_succ,Nat.mul_comm]
   have h3:0<2^(n.log2+1):=Nat.two_pow_pos _
   have h4:2≤2^(n.log2+1):=by rw[Nat.pow_succ];have:=Nat.two_pow_pos n.log2;omega
   omega
 | .add a b=>Bt (gg hρ a) (gg hρ b)
 | .sub a b=>by
  show Bd (a.val ρ-b.val ρ) _
  rw[Rat.sub_eq_add_neg];exact Bt (gg hρ a) (sj (gg hρ b))
 | .mul a b=>lT (gg hρ a) (gg hρ b)
 | .quo a b=>by
  show Bd (a.val ρ/b.val ρ) _
  rw[Rat.div_def];exact lT (gg hρ a) (sh (gg hρ b))
 | .neg a=>sj (gg hρ a)
 | .bin k a b=>G0 k (gg hρ a) (gg hρ b)
structure PT where
 cmp:List (SE × SE × Int)
 chk:List (Nat × Nat)
 lrg:List (SE × Nat)
 le:List (SE × SE)
 few:List (Nat × Nat × Bool)
 K:Nat
def I7:Int→Int
 | .ofNat 0=>0
 | .ofNat (n+1)=>.negSucc n
 | .negSucc n=>.ofNat (n+1)
theorem EL (n:Int):I7 n = -n:=by
 cases n with
 | ofNat n=>cases n<;>rfl
 | negSucc n=>rfl
def yj (a b:SE):List (SE × SE × Int)→Option Int
 | []=>none
 |(x,y,s)::l=>match SE.eq a x&&SE.eq b y with
  | true=>some s
  | false=>match SE.eq a y&&SE.eq b x with
   | true=>some (I7 s)
   | false=>yj a b l
def PT.look (T:PT) (a b:SE):Option Int:=match SE.eq a b with
 | true=>some 0
 | false=>yj a b T.cmp
def uI (i:Nat):List (Nat × Nat)→Option Nat
 | []=>none
 |(j,c)::l=>match Nat.beq i j with
  | true=>some c
  | false=>uI i l
def sg (x y:Rat):Int:=(x-y).num.sign
theorem F7 (x:Rat):sg x x=0:=by unfold sg;rw[Rat.sub_self];rfl
theorem gB (x y:Rat):sg y x = - sg x y:=by
 unfold sg
 rw[show y-x = -(x-y) by rw[Rat.neg_sub],Rat.neg_num,Int.sign_neg]
theorem dN {x y:Rat}:sg x y=0↔x=y:=by
 unfold sg
 rw[Int.sign_eq_zero_iff_zero,Rat.num_eq_zero]
 constructor
 ·intro h;have:=congrArg (· + y) h;simpa [Rat.sub_add_cancel,Rat.zero_add] using this
 ·intro h;rw[h];exact Rat.sub_self
def Few (s:ByteArray) (d:Nat):Prop:=∃ x,aC s x∧Bd x d
open Classical in
structure TOK (ρ : Nat → Rat) (σ : Nat → ByteArray) (T : PT) : Prop where
 cmp:∀ x∈T.cmp,sg (x.1.val ρ) (x.2.1.val ρ)=x.2.2
 chk:∀ x∈T.chk,cN (chs (σ x.1))=x.2
 says:∀ x∈T.chk,x.2=0→aC (σ x.1) (ρ x.1)
 len:∀ i,(σ i).size≤9223372036854775807
 clen:∀ x∈T.chk,(σ x.1).size≤1000000
 lrg:∀ x∈T.lrg,fh (x.1.val ρ)=x.2
 le:∀ x∈T.le,x.1.val ρ≤x.2.val ρ
 few:∀ x∈T.few,decide (Few (σ x.1) x.2.1)=x.2.2
 bd:∀ i,Bd (ρ i) T.K
theorem G3 (s t:ByteArray):(s==t)=decide (s=t):=by
 rw[beq_toListBytes]
 by_cases h:s=t
 ·subst h;simp
 ·rw[decide_eq_false h]
  cases hb:(s.toList==t.toList) with
  | false=>rfl
  | true=>
   have hl:=eq_of_beq hb
   obtain⟨⟨l⟩⟩:=s
   obtain⟨⟨m⟩⟩:=t
   have e1:(⟨⟨l⟩⟩:ByteArray).toList=l:=by simp
   have e2:(⟨⟨m⟩⟩:ByteArray).toList=m:=by simp
   rw[e1,e2] at hl
   subst hl
   exact absurd rfl h
theorem uH {ρ:Nat→Rat} {a b:SE} {s:Int}:∀ (l:List (SE × SE × Int)),(∀ x∈l,sg (x.1.val ρ) (x.2.1.val ρ)=x.2.2)→yj a b l=some s→sg (a.val ρ) (b.val ρ)=s
 | [],_,h=>by cases h
 |(x,y,q)::l,hl,h=>by
  rw[yj] at h
  split at h
  ·rename_i he
   rw[Bool.and_eq_true] at he
   have e1:=SE.eq_eq a x he.1
   have e2:=SE.eq_eq b y he.2
   subst e1 e2
   cases h
   exact hl (a,b,s) List.mem_cons_self
  ·split at h
   ·rename_i he
    rw[Bool.and_eq_true] at he
    have e1:=SE.eq_eq a y he.1
    have e2:=SE.eq_eq b x he.2
    subst e1 e2
    cases h
    rw[gB,EL]
    exact congrArg _ (hl (b,a,q) List.mem_cons_self)
   ·exact uH l (fun x hx=>hl x (List.mem_cons_of_mem _ hx)) h
theorem TOK.look {ρ:Nat→Rat} {σ:Nat→ByteArray} {T:PT} (h:TOK ρ σ T) {a b:SE} {s:Int} (hl:T.look a b=some s):sg (a.val ρ) (b.val ρ)=s:=by
 unfold PT.look at hl
 split at hl
 ·rename_i he
  have e1:=SE.eq_eq a b he
  subst e1
  cases hl
  exact F7 _
 ·exact uH _ h.cmp hl
def kq (x:Rat) (i:Nat) (w:World) (v:Value):Prop:=match i with
 | 0=>v=.bool (decide (x.num<0))
 | 1=>Lim w v x.num.natAbs
 | 2=>v=.bool false
 | 3=>Lim w v x.den∨(x.den=1∧Lim w v 0)
 | _=>False
theorem uF {w:World} {v:Value} {n:Nat} (h:Lim w v n):(∀ n,v≠.int .u64 n)∧(∀ c,v≠.agg c)∧∀ c,v≠.tuple c:=by
 obtain⟨_,_,rfl,_⟩:=h;simp
theorem EH {x:Rat} {i:Nat} {w:World} {v:Value} (h:kq x i w v):(∀ n,v≠.int .u64 n)∧(∀ c,v≠.agg c)∧∀ c,v≠.tuple c:=by
 unfold kq at h
 split at h
 ·subst h;simp
 ·exact uF h
 ·subst h;simp
 ·rcases h with h|⟨_,h⟩<;>exact uF h
 ·exact h.elim
theorem EI {x:Rat} {i:Nat} {w w':World} {v:Value} (hg:Grow w w') (hu:U64 w w') (h:kq x i w v):kq x i w' v:=by
 unfold kq at *
 split at h
 ·exact h
 ·exact Lim.keep h hg.1 hu
 ·exact h
 ·exact h.imp (fun h=>Lim.keep h hg.1 hu) fun h=>⟨h.1,Lim.keep h.2 hg.1 hu⟩
 ·exact h
def nB (ρ:Nat→Rat) (σ:Nat→ByteArray):Sy→World→Value→Prop
 | .nc e i,w,v=>kq (e.val ρ) i w v
 | .ss e,_,v=>∃ s,v=.string s∧aC s (e.val ρ)
 | .st i,_,v=>v=.string (σ i)
 | .junk,_,v=>(∀ n,v≠.int .u64 n)∧(∀ c,v≠.agg c)∧∀ c,v≠.tuple c
 | .si i,_,v=>match Nat.blt i 500 with
  | true=>∃ n:Nat,n≤255∧v=.int .u8 n∧ρ (1000+i)=((n:Int):Rat)
  | false=>∃ n:Nat,n≤255∧v=.int .i64 n∧ρ (500+i)=((n:Int):Rat)
def Dl (T:PT):Sy→Sy→Option Bool
 | .ss a,.ss b=>match T.look a b with
  | some (.ofNat 0)=>some true
  | some _=>some false
  | none=>none
 | _,_=>none
def Dk (T:PT):Sy→List UInt8→Option Bool
 | .ss _,[]=>some false
 | .ss a,l=>match l with
  | [48]=>match T.look a (.int 0) with
   | some (.ofNat 0)=>some true
   | some _=>some false
   | none=>none
  | _=>none
 | _,_=>none
def IF:Sy→IntKind→Option Sy
 | .si i,k=>match k with
  | .i64=>match Nat.blt i 500 with
   | true=>some (.si (i+500))
   | false=>none
  | _=>none
 | _,_=>none
theorem wrap_small (n:Nat) (hn:n≤255):IntKind.i64.wrap (n:Int)=(n:Int):=by
 have h:(2:Int)^IntKind.i64.bits=18446744073709551616:=by decide
 have h3:(2:Int)^(IntKind.i64.bits-1)=9223372036854775808:=by decide
 simp only[IntKind.wrap,h]
 rw[if_neg]
 ·omega
 ·intro hc
  rw[Bool.and_eq_true,decide_eq_true_iff,h3] at hc
  omega
theorem DL (i:Nat):Nat.blt (i+500) 500=false:=by
 cases h:Nat.blt (i+500) 500 with
 | false=>rfl
 | true=>have:i+500+1≤500:=Nat.le_of_ble_eq_true h;omega
@[instance_reducible] def lv (ρ : Nat → Rat) (σ : Nat → ByteArray) (T : PT) : Unk where
 is:=fun s w v=>TOK ρ σ T∧nB ρ σ s w v
 keep:=fun s w w' v hg hu h=>by
  obtain⟨hT,h⟩:=h
  refine ⟨hT,?_⟩
  cases s with
  | nc e i=>exact EI hg hu h
  | ss e=>exact h
  | st i=>exact h
  | junk=>exact h
  | si i=>exact h
 cell:=fun s w v h=>by
  obtain⟨_,h⟩:=h
  cases s with
  | nc e i=>exact EH h
  | ss e=>obtain⟨s,rfl,_⟩:=h;simp
  | st i=>rw[show v=.string (σ i) from h];simp
  | junk=>exact h
  | si i=>
   unfold nB at h
   simp only at h
   split at h<;>(obtain⟨n,_,rfl,_⟩:=h;simp)
 eqS:=Dl T
 eqL:=Dk T
 okS:=fun a b r h w v u hv hu=>by
  cases a<;>cases b<;>try (cases h;done)
  rename_i a b
  obtain⟨hT,s,rfl,hs⟩:=hv
  obtain⟨_,t,rfl,ht⟩:=hu
  refine ⟨s,t,rfl,rfl,?_⟩
  have key:(s==t)=decide (sg (a.val ρ) (b.val ρ)=0):=by
   rw[G3]
   by_cases he:a.val ρ=b.val ρ
   ·rw[decide_eq_true (dN.2 he),decide_eq_true (hs.same (by rw[he];exact ht))]
   ·rw[decide_eq_false (fun h=>he (dN.1 h)),decide_eq_false (fun h=>by subst h;exact he (hs.eq ht))]
  rw[key]
  unfold Dl at h
  simp only at h
  split at h
  ·cases h;rw[hT.look ‹_›];rfl
  ·rename_i x hne hx
   cases h
   rw[hT.look hx]
   exact decide_eq_false fun h=>by subst h;exact hne rfl
  ·cases h
 okL:=fun a l r h w v hv=>by
  cases a with
  | ss a=>
   obtain⟨hT,s,rfl,hs⟩:=hv
   refine ⟨s,rfl,?_⟩
   cases l with
   | nil=>
    cases h
    rw[G3]
    refine decide_eq_false fun h=>?_
    have:=hs.pos
    rw[h] at this
    exact absurd this (by decide)
   | cons c l=>
    unfold Dk at h
    simp only at h
    split at h
    ·rename_i heq
     have key:(s==⟨#[48]⟩)=decide (sg (a.val ρ) 0=0):=by
      rw[G3]
      by_cases he:a.val ρ=0
      ·rw[decide_eq_true (dN.2 he),decide_eq_true (hs.zero.2 he)]
      ·rw[decide_eq_false (fun h=>he (dN.1 h)),decide_eq_false (fun h=>he (hs.zero.1 h))]
     rw[heq]
     show (s==⟨#[48]⟩)=r
     rw[key]
     have e0:(SE.int 0).val ρ=0:=rfl
     split at h
     ·rename_i hx
      cases h;have:=hT.look hx;rw[e0] at this;rw[this];rfl
     ·rename_i x hne hx
      cases h
      have h2:=hT.look hx
      rw[e0] at h2
      rw[h2]
      exact decide_eq_false fun h=>by subst h;exact hne rfl
     ·cases h
    ·cases h
  | nc _ _=>cases h
  | st _=>cases h
  | junk=>cases h
  | si _=>cases h
 toK:=IF
 okK:=fun a k b h w v hv=>by
  cases a with
  | si i=>
   unfold IF at h
   simp only at h
   split at h
   ·split at h
    ·rename_i hb
     cases h
     obtain⟨hT,hv⟩:=hv
     unfold nB at hv
     simp only[hb] at hv
     obtain⟨n,hn,rfl,hr⟩:=hv
     refine ⟨_,_,rfl,hT,?_⟩
     unfold nB
     simp only[DL]
     refine ⟨n,hn,?_,by rw[←hr];congr 1;omega⟩
     congr 1
     exact wrap_small n hn
    ·cases h
   ·cases h
  | _=>cases h
end Go.Sx
namespace Go.Sx
open LimbNum DigNum Go.RowKit
def ExG (w:World) (v:Value) (x:Rat):Prop:=∃ a b c d,v=.agg #[a,b,c,d]∧kq x 0 w a∧kq x 1 w b∧kq x 2 w c∧kq x 3 w d
def AD (i:Nat):AV→Option SE
 | .sym (.nc e j)=>match Nat.beq i j with
  | true=>some e
  | false=>none
 | _=>none
def EA:List AV→Option SE
 | [.bool s,a,.bool false,b]=>match mV a,mV b with
  | some n,some d=>match Nat.ble d 1 with
   | true=>match s with
    | false=>some (.int (.ofNat n))
    | true=>match n with
     | 0=>none
     | m+1=>some (.int (.negSucc m))
   | false=>none
  | _,_=>none
 | _=>none
def Cu:AV→Option SE
 | .agg l=>match l with
  | [a,b,c,d]=>match AD 0 a with
   | some e=>match AD 1 b,AD 2 c,AD 3 d with
    | some e1,some e2,some e3=>match SE.eq e e1&&(SE.eq e e2&&SE.eq e e3) with
     | true=>some e
     | false=>none
    | _,_,_=>none
   | none=>EA [a,b,c,d]
  | _=>none
 | _=>none
def ofE (e:SE):AV:=.agg [.sym (.nc e 0),.sym (.nc e 1),.sym (.nc e 2),.sym (.nc e 3)]
structure Sem [Unk] (ρ : Nat → Rat) (σ : Nat → ByteArray) (T : PT) : Prop where
 is:∀ s w v,Unk.is s w v=nB ρ σ s w v
 ok:TOK ρ σ T
theorem xA {ρ:Nat→Rat} {σ:Nat→ByteArray} {T:PT} (hT:TOK ρ σ T):@Sem (lv ρ σ T) ρ σ T:=@Sem.mk (lv ρ σ T) ρ σ T (fun _ _ _=>propext ⟨fun h=>h.2,fun h=>⟨hT,h⟩⟩) hT
section
variable {ρ : Nat → Rat} {σ : Nat → ByteArray} {T : PT} [Unk] [Glob]
theorem ou (hT:Sem ρ σ T) {i:Nat} {a:AV} {e:SE} {m:Nm} {w:World} {v:Value} (h:AD i a=some e) (hv:RV m w a v):kq (e.val ρ) i w v:=by
 unfold AD at h
 split at h
 ·rename_i e' j
  split at h
  ·rename_i hb
   have:=Nat.eq_of_beq_eq_true hb
   subst this
   cases h
   rw[RV,hT.is] at hv
   exact hv
  ·cases h
 ·cases h
theorem yg {l:List AV} {e:SE} {m:Nm} {w:World} {vs:List Value} (h:EA l=some e) (hv:RVs m w l vs):ExG w (.agg vs.toArray) (e.val ρ):=by
 unfold EA at h
 split at h
 ·rename_i s a b
  rw[RVs] at hv
  obtain⟨v0,l0,rfl,h0,hv⟩:=hv
  rw[RVs] at hv
  obtain⟨v1,l1,rfl,h1,hv⟩:=hv
  rw[RVs] at hv
  obtain⟨v2,l2,rfl,h2,hv⟩:=hv
  rw[RVs] at hv
  obtain⟨v3,l3,rfl,h3,hv⟩:=hv
  rw[RVs] at hv
  subst hv
  rw[RV] at h0 h2
  subst h0 h2
  split at h
  ·rename_i n d hn hd
   have g1:=mv hn h1
   have g2:=mv hd h3
   split at h
   ·rename_i hb
    have hd1:d≤1:=Nat.le_of_ble_eq_true hb
    have key:∀ x:Rat,x.den=1→kq x 3 w v3:=by
     intro x hx
     rcases Nat.lt_or_ge d 1 with h|h
     ·have:d=0:=by omega
      subst this
      exact .inr ⟨hx,g2⟩
     ·have:d=1:=by omega
      subst this
      exact .inl (by rw[hx];exact g2)
    split at h
    ·cases h
     refine ⟨_,_,_,_,rfl,?_,?_,rfl,key _ rfl⟩
     ·show Value.bool false=Value.bool (decide (((Int.ofNat n:Int):Rat).num<0))
      rw[Rat.num_intCast,decide_eq_false (by simp)]
     ·show Lim w v1 (((Int.ofNat n:Int):Rat).num).natAbs
      rw[Rat.num_intCast];exact g1
    ·split at h
     ·cases h
     ·rename_i k
      cases h
      refine ⟨_,_,_,_,rfl,?_,?_,rfl,key _ rfl⟩
      ·show Value.bool true=Value.bool (decide (((Int.negSucc k:Int):Rat).num<0))
       rw[Rat.num_intCast,decide_eq_true (Int.negSucc_lt_zero _)]
      ·show Lim w v1 (((Int.negSucc k:Int):Rat).num).natAbs
       rw[Rat.num_intCast];exact g1
   ·cases h
  ·cases h
 ·cases h
theorem o9 (hT:Sem ρ σ T) {a:AV} {e:SE} {m:Nm} {w:World} {v:Value} (h:Cu a=some e) (hv:RV m w a v):ExG w v (e.val ρ):=by
 unfold Cu at h
 split at h
 ·rename_i l
  rw[RV] at hv
  obtain⟨vs,rfl,hv⟩:=hv
  split at h
  ·rename_i a b c d
   split at h
   ·rename_i e0 q0
    split at h
    ·rename_i e1 e2 e3 q1 q2 q3
     split at h
     ·rename_i hb
      simp only[Bool.and_eq_true] at hb
      have t1:=SE.eq_eq _ _ hb.1
      have t2:=SE.eq_eq _ _ hb.2.1
      have t3:=SE.eq_eq _ _ hb.2.2
      subst t1 t2 t3
      cases h
      rw[RVs] at hv
      obtain⟨v0,l0,rfl,h0,hv⟩:=hv
      rw[RVs] at hv
      obtain⟨v1,l1,rfl,h1,hv⟩:=hv
      rw[RVs] at hv
      obtain⟨v2,l2,rfl,h2,hv⟩:=hv
      rw[RVs] at hv
      obtain⟨v3,l3,rfl,h3,hv⟩:=hv
      rw[RVs] at hv
      subst hv
      exact⟨_,_,_,_,rfl,ou hT q0 h0,ou hT q1 h1,ou hT q2 h2,ou hT q3 h3⟩
     ·cases h
    ·cases h
   ·exact yg h hv
  ·cases h
 ·cases h
theorem ta (hT:Sem ρ σ T) {e:SE} {m:Nm} {w:World} {v:Value} (h:ExG w v (e.val ρ)):RV m w (ofE e) v:=by
 obtain⟨a,b,c,d,rfl,h0,h1,h2,h3⟩:=h
 unfold ofE
 rw[RV]
 refine ⟨[a,b,c,d],rfl,?_⟩
 rw[RVs];refine ⟨_,_,rfl,by rw[RV,hT.is];exact h0,?_⟩
 rw[RVs];refine ⟨_,_,rfl,by rw[RV,hT.is];exact h1,?_⟩
 rw[RVs];refine ⟨_,_,rfl,by rw[RV,hT.is];exact h2,?_⟩
 rw[RVs];exact⟨_,_,rfl,by rw[RV,hT.is];exact h3,by rw[RVs]⟩
def fit (T:PT) (e:SE):Bool:=Nat.ble (e.bd T.K) 100000
theorem ke (hT:TOK ρ σ T) {e:SE} (h:fit T e=true):∃ k,k≤100000∧Bd (e.val ρ) k:=⟨_,Nat.le_of_ble_eq_true h,SE.gg hT.bd e⟩
def e1 (T:PT) (f:SE→Option AV):Prm:=fun _ a=>match a with
 | [x]=>match Cu x with
  | some p=>match fit T p with
   | true=>f p
   | false=>none
  | none=>none
 | _=>none
def e2 (T:PT) (f:SE→SE→Option AV):Prm:=fun _ a=>match a with
 | [x,y]=>match Cu x,Cu y with
  | some p,some q=>match fit T p&&fit T q with
   | true=>f p q
   | false=>none
  | _,_=>none
 | _=>none
variable {P : Program} {F : FuncId}
theorem FK (hT:Sem ρ σ T) {f:SE→Option AV} (H:∀ p av,f p=some av→∀ v k w,ExG w v (p.val ρ)→Bd (p.val ρ) k→k≤100000→Calls P F #[v] w fun e w'=>∃ v',e=.returned v'∧(∀ m,RV m w' av v')∧Below w.heap.size w w'):au P F (e1 T f):=by
 intro h args av hg m w vals hv hs
 unfold e1 at hg
 split at hg
 ·rename_i x
  split at hg
  ·rename_i p hp
   split at hg
   ·rename_i hf
    rw[RVs] at hv
    obtain⟨v,l,rfl,h1,h2⟩:=hv
    rw[RVs] at h2
    subst h2
    obtain⟨k,hk,hb⟩:=ke hT.ok hf
    refine (H p av hg v k w (o9 hT hp h1) hb hk).mono ?_
    rintro e w' ⟨v',h3,h4,h5⟩
    exact⟨v',h3,h4 m,h5⟩
   ·cases hg
  ·cases hg
 ·cases hg
theorem BP (hT:Sem ρ σ T) {f:SE→SE→Option AV} (H:∀ p q av,f p q=some av→∀ u v k l w,ExG w u (p.val ρ)→ExG w v (q.val ρ)→Bd (p.val ρ) k→Bd (q.val ρ) l→k≤100000→l≤100000→Calls P F #[u,v] w fun e w'=>∃ v',e=.returned v'∧(∀ m,RV m w' av v')∧Below w.heap.size w w'):au P F (e2 T f):=by
 intro h args av hg m w vals hv hs
 unfold e2 at hg
 split at hg
 ·rename_i x y
  split at hg
  ·rename_i p q hp hq
   split at hg
   ·rename_i hf
    rw[Bool.and_eq_true] at hf
    rw[RVs] at hv
    obtain⟨u,l,rfl,h1,h2⟩:=hv
    rw[RVs] at h2
    obtain⟨v,l,rfl,h2,h3⟩:=h2
    rw[RVs] at h3
    subst h3
    obtain⟨k,hk,hb⟩:=ke hT.ok hf.1
    obtain⟨k2,hk2,hb2⟩:=ke hT.ok hf.2
    refine (H p q av hg u v k k2 w (o9 hT hp h1) (o9 hT hq h2) hb hb2 hk hk2).mono ?_
    rintro e w' ⟨v',h3,h4,h5⟩
    exact⟨v',h3,h4 m,h5⟩
   ·cases hg
  ·cases hg
 ·cases hg
def op2 (op:SE→SE→SE):SE→SE→Option AV:=fun p q=>some (ofE (op p q))
def I1 (T:PT):Prm:=e2 T (op2 .add)
def I3 (T:PT):Prm:=e2 T (op2 .sub)
def I2 (T:PT):Prm:=e2 T (op2 .mul)
def EN (T:PT) (e:SE):Bool:=match T.look e (.int 0) with
 | some (.ofNat 0)=>false
 | some _=>true
 | none=>false
theorem yy (hT:TOK ρ σ T) {e:SE} (h:EN T e=true):e.val ρ≠0:=by
 unfold EN at h
 split at h
 ·cases h
 ·rename_i s hs hl
  intro he
  have h2:=hT.look hl
  rw[show (SE.int 0).val ρ=0 from rfl,dN.2 he] at h2
  subst h2
  exact hs rfl
 ·cases h
def G8 (T:PT):Prm:=e2 T fun p q=>match EN T q with
 | true=>some (ofE (.quo p q))
 | false=>none
def G6 (T:PT):Prm:=e2 T fun p q=>match T.look p q with
 | some s=>some (.int .i64 s)
 | none=>none
def G7 (T:PT):Prm:=e1 T fun p=>some (ofE (.neg p))
def BQ (T:PT):Prm:=e1 T fun p=>match T.look p (.int 0) with
 | some s=>some (.int .i64 s)
 | none=>none
def ym (e:SE):List (SE × Nat)→Option Nat
 | []=>none
 |(x,c)::l=>match SE.eq e x with
  | true=>some c
  | false=>ym e l
def PT.big (T:PT) (e:SE):Option Nat:=match Nat.ble (e.bd T.K) 600 with
 | true=>some 0
 | false=>ym e T.lrg
theorem A9 {x:Rat} {k:Nat} (h:Bd x k) (hk:k≤600):fh x=0:=by
 have h6:=h.mono hk
 unfold fh
 rw[if_pos ⟨(ew (by decide)).2 h6.1,(ew (by decide)).2 h6.2⟩]
theorem uJ {e:SE} {c:Nat}:∀ (l:List (SE × Nat)),(∀ x∈l,fh (x.1.val ρ)=x.2)→ym e l=some c→fh (e.val ρ)=c
 | [],_,h=>by cases h
 |(x,q)::l,hl,h=>by
  rw[ym] at h
  split at h
  ·rename_i he
   have e1:=SE.eq_eq _ _ he
   subst e1
   have e2:q=c:=Option.some.inj h
   subst e2
   exact hl (e,q) List.mem_cons_self
  ·exact uJ l (fun x hx=>hl x (List.mem_cons_of_mem _ hx)) h
theorem wb (hT:TOK ρ σ T) {e:SE} {c:Nat} (h:T.big e=some c):fh (e.val ρ)=c:=by
 unfold PT.big at h
 split at h
 ·rename_i hb
  cases h
  exact A9 (SE.gg hT.bd e) (Nat.le_of_ble_eq_true hb)
 ·exact uJ _ hT.lrg h
def CP (e:SE):Nat→AV
 | 0=>.tup [.sym (.ss e),.int .i64 0]
 | c+1=>.tup [.str [],.int .i64 (.ofNat (c+1))]
def E9 (T:PT):Prm:=e1 T fun p=>match T.big p with
 | some c=>some (CP p c)
 | none=>none
theorem xf (hT:Sem ρ σ T) {op:SE→SE→SE} (H:∀ u v p q k l w,ExG w u (p.val ρ)→ExG w v (q.val ρ)→Bd (p.val ρ) k→Bd (q.val ρ) l→k≤100000→l≤100000→Calls P F #[u,v] w fun e w'=>∃ v',e=.returned v'∧ExG w' v' ((op p q).val ρ)∧Below w.heap.size w w'):au P F (e2 T (op2 op)):=BP hT fun p q av hav u v k l w h1 h2 b1 b2 hk hl=>by
 cases hav
 refine (H u v p q k l w h1 h2 b1 b2 hk hl).mono ?_
 rintro e w' ⟨v',h3,h4,h5⟩
 exact⟨v',h3,fun _=>ta hT h4,h5⟩
theorem E8 (hT:Sem ρ σ T) (H:∀ u v x y k l w,ExG w u x→ExG w v y→Bd x k→Bd y l→k≤100000→l≤100000→y≠0→Calls P F #[u,v] w fun e w'=>∃ v',e=.returned v'∧ExG w' v' (x/y)∧Below w.heap.size w w'):au P F (G8 T):=BP hT fun p q av hav u v k l w h1 h2 b1 b2 hk hl=>by
 split at hav
 ·rename_i h0
  cases hav
  refine (H u v _ _ k l w h1 h2 b1 b2 hk hl (yy hT.ok h0)).mono ?_
  rintro e w' ⟨v',h3,h4,h5⟩
  exact⟨v',h3,fun _=>ta hT h4,h5⟩
 ·cases hav
theorem E6 (hT:Sem ρ σ T) (H:∀ u v x y k l w,ExG w u x→ExG w v y→Bd x k→Bd y l→k≤100000→l≤100000→Calls P F #[u,v] w fun e w'=>e=.returned (.int .i64 (x-y).num.sign)∧Below w.heap.size w w'):au P F (G6 T):=BP hT fun p q av hav u v k l w h1 h2 b1 b2 hk hl=>by
 split at hav
 ·rename_i s hs
  cases hav
  refine (H u v _ _ k l w h1 h2 b1 b2 hk hl).mono ?_
  rintro e w' ⟨h3,h5⟩
  exact⟨_,h3,fun _=>by rw[RV];exact congrArg _ (hT.ok.look hs),h5⟩
 ·cases hav
theorem E7 (hT:Sem ρ σ T) (H:∀ u x k w,ExG w u x→Bd x k→k≤100000→Calls P F #[u] w fun e w'=>∃ v',e=.returned v'∧ExG w' v' (-x)∧Below w.heap.size w w'):au P F (G7 T):=FK hT fun p av hav v k w h1 b1 hk=>by
 cases hav
 refine (H v _ k w h1 b1 hk).mono ?_
 rintro e w' ⟨v',h3,h4,h5⟩
 exact⟨v',h3,fun _=>ta hT h4,h5⟩
theorem BR (hT:Sem ρ σ T) (H:∀ u x k w,ExG w u x→Bd x k→k≤100000→Calls P F #[u] w fun e w'=>e=.returned (.int .i64 x.num.sign)∧Below w.heap.size w w'):au P F (BQ T):=FK hT fun p av hav v k w h1 b1 hk=>by
 split at hav
 ·rename_i s hs
  cases hav
  refine (H v _ k w h1 b1 hk).mono ?_
  rintro e w' ⟨h3,h5⟩
  have key:(p.val ρ).num.sign=s:=by
   have:=hT.ok.look hs
   rw[←this]
   unfold sg
   rw[show (SE.int 0).val ρ=0 from rfl,Rat.sub_eq_add_neg,show (-(0:Rat))=0 from rfl,Rat.add_zero]
  exact⟨_,h3,fun _=>by rw[RV,key],h5⟩
 ·cases hav
end
end Go.Sx
namespace Go.Sx
open LimbNum DigNum Go.RowKit
theorem vl (n:Nat) (s:ByteArray) (h:chs s=bf n):aC s ((n:Int):Rat):=jG (h.trans (di n).symm)
def A6:List UInt8→Option SE
 | [48]=>some (.int 0)
 | [49]=>some (.int 1)
 | _=>none
theorem yh {l:List UInt8} {e:SE} {ρ:Nat→Rat} (h:A6 l=some e):aC ⟨l.toArray⟩ (e.val ρ):=by
 unfold A6 at h
 split at h
 ·cases h;exact vl 0 _ (by rw[dX];rfl)
 ·cases h;exact vl 1 _ (by rw[j8];rfl)
 ·cases h
theorem xO {x:Rat} {k:Nat} (hk:1≤k) (h1:nd x.num.natAbs≤k) (h2:nd x.den≤k):Bd x k:=⟨(ew hk).1 h1,(ew hk).1 h2⟩
def qK (T:PT):AV→Option SE
 | .sym s=>match s with
  | .ss e=>some e
  | .st i=>match uI i T.chk with
   | some 0=>some (.v i)
   | _=>none
  | _=>none
 | .str l=>A6 l
 | _=>none
theorem mw {i c:Nat}:∀ (l:List (Nat × Nat)),uI i l=some c→(i,c)∈l
 | [],h=>by cases h
 |(j,q)::l,h=>by
  rw[uI] at h
  split at h
  ·rename_i he
   have e1:=Nat.eq_of_beq_eq_true he
   subst e1
   have e2:q=c:=Option.some.inj h
   subst e2
   exact List.mem_cons_self
  ·exact List.mem_cons_of_mem _ (mw l h)
section
variable {ρ : Nat → Rat} {σ : Nat → ByteArray} {T : PT} [Unk] [Glob]
theorem ot (hT:Sem ρ σ T) {a:AV} {e:SE} {m:Nm} {w:World} {v:Value} (h:qK T a=some e) (hv:RV m w a v):∃ s,v=.string s∧aC s (e.val ρ):=by
 unfold qK at h
 split at h
 ·split at h
  ·cases h
   rw[RV,hT.is] at hv
   exact hv
  ·rename_i i
   split at h
   ·rename_i hl
    cases h
    rw[RV,hT.is] at hv
    exact⟨_,hv,hT.ok.says _ (mw _ hl) rfl⟩
   ·cases h
  ·cases h
 ·rw[RV] at hv
  exact⟨_,hv,yh h⟩
 ·cases h
theorem rG (hT:Sem ρ σ T) {e:SE} {m:Nm} {w:World} {s:ByteArray} (h:aC s (e.val ρ)):RV m w (.sym (.ss e)) (.string s):=by
 rw[RV,hT.is]
 exact⟨s,rfl,h⟩
def s1 (T:PT) (f:SE→Option AV):Prm:=fun _ a=>match a with
 | [x]=>match qK T x with
  | some p=>match fit T p with
   | true=>f p
   | false=>none
  | none=>none
 | _=>none
def s2 (T:PT) (f:SE→SE→Option AV):Prm:=fun _ a=>match a with
 | [x,y]=>match qK T x,qK T y with
  | some p,some q=>match fit T p&&fit T q with
   | true=>f p q
   | false=>none
  | _,_=>none
 | _=>none
variable {P : Program} {F : FuncId}
theorem CV (hT:Sem ρ σ T) {f:SE→Option AV} (H:∀ p av,f p=some av→∀ s k w,aC s (p.val ρ)→Bd (p.val ρ) k→k≤100000→Calls P F #[.string s] w fun e w'=>∃ v',e=.returned v'∧(∀ m,RV m w' av v')∧Below w.heap.size w w'):au P F (s1 T f):=by
 intro h args av hg m w vals hv hs
 unfold s1 at hg
 split at hg
 ·rename_i x
  split at hg
  ·rename_i p hp
   split at hg
   ·rename_i hf
    rw[RVs] at hv
    obtain⟨v,l,rfl,h1,h2⟩:=hv
    rw[RVs] at h2
    subst h2
    obtain⟨s,rfl,g1⟩:=ot hT hp h1
    obtain⟨k,hk,hb⟩:=ke hT.ok hf
    refine (H p av hg s k w g1 hb hk).mono ?_
    rintro e w' ⟨v',h3,h4,h5⟩
    exact⟨v',h3,h4 m,h5⟩
   ·cases hg
  ·cases hg
 ·cases hg
theorem CW (hT:Sem ρ σ T) {f:SE→SE→Option AV} (H:∀ p q av,f p q=some av→∀ s t k l w,aC s (p.val ρ)→aC t (q.val ρ)→Bd (p.val ρ) k→Bd (q.val ρ) l→k≤100000→l≤100000→Calls P F #[.string s,.string t] w fun e w'=>∃ v',e=.returned v'∧(∀ m,RV m w' av v')∧Below w.heap.size w w'):au P F (s2 T f):=by
 intro h args av hg m w vals hv hs
 unfold s2 at hg
 split at hg
 ·rename_i x y
  split at hg
  ·rename_i p q hp hq
   split at hg
   ·rename_i hf
    rw[Bool.and_eq_true] at hf
    rw[RVs] at hv
    obtain⟨u,l,rfl,h1,h2⟩:=hv
    rw[RVs] at h2
    obtain⟨v,l,rfl,h2,h3⟩:=h2
    rw[RVs] at h3
    subst h3
    obtain⟨s,rfl,g1⟩:=ot hT hp h1
    obtain⟨t,rfl,g2⟩:=ot hT hq h2
    obtain⟨k,hk,hb⟩:=ke hT.ok hf.1
    obtain⟨k2,hk2,hb2⟩:=ke hT.ok hf.2
    refine (H p q av hg s t k k2 w g1 g2 hb hb2 hk hk2).mono ?_
    rintro e w' ⟨v',h3,h4,h5⟩
    exact⟨v',h3,h4 m,h5⟩
   ·cases hg
  ·cases hg
 ·cases hg
def os1 (op:SE→SE):SE→Option AV:=fun p=>some (.sym (.ss (op p)))
def os2 (op:SE→SE→SE):SE→SE→Option AV:=fun p q=>some (.sym (.ss (op p q)))
def Iz (T:PT):Prm:=s2 T (os2 .add)
def IC (T:PT):Prm:=s2 T (os2 .sub)
def IA (T:PT):Prm:=s2 T (os2 .mul)
def IB (T:PT):Prm:=s1 T (os1 .neg)
def GR (T:PT):Prm:=s2 T fun p q=>match EN T q with
 | true=>some (.sym (.ss (.quo p q)))
 | false=>none
def GQ (T:PT):Prm:=s2 T fun p q=>match T.look p q with
 | some s=>some (.int .i64 s)
 | none=>none
def CX (T:PT):Prm:=s1 T fun p=>match T.look p (.int 0) with
 | some s=>some (.int .i64 s)
 | none=>none
def xy (T:PT):Prm:=s1 T fun p=>match T.big p with
 | some c=>some (.int .i64 (.ofNat c))
 | none=>none
theorem xi (hT:Sem ρ σ T) {op:SE→SE→SE} (H:∀ s t p q k l w,aC s (p.val ρ)→aC t (q.val ρ)→Bd (p.val ρ) k→Bd (q.val ρ) l→k≤100000→l≤100000→Calls P F #[.string s,.string t] w fun e w'=>∃ u:ByteArray,e=.returned (.string u)∧aC u ((op p q).val ρ)∧Below w.heap.size w w'):au P F (s2 T (os2 op)):=CW hT fun p q av hav s t k l w h1 h2 b1 b2 hk hl=>by
 cases hav
 refine (H s t p q k l w h1 h2 b1 b2 hk hl).mono ?_
 rintro e w' ⟨u,h3,h4,h5⟩
 exact⟨_,h3,fun _=>rG hT h4,h5⟩
theorem GD (hT:Sem ρ σ T) {op:SE→SE} (H:∀ s p k w,aC s (p.val ρ)→Bd (p.val ρ) k→k≤100000→Calls P F #[.string s] w fun e w'=>∃ u:ByteArray,e=.returned (.string u)∧aC u ((op p).val ρ)∧Below w.heap.size w w'):au P F (s1 T (os1 op)):=CV hT fun p av hav s k w h1 b1 hk=>by
 cases hav
 refine (H s p k w h1 b1 hk).mono ?_
 rintro e w' ⟨u,h3,h4,h5⟩
 exact⟨_,h3,fun _=>rG hT h4,h5⟩
theorem F5 (hT:Sem ρ σ T) (H:∀ s t x y k l w,aC s x→aC t y→Bd x k→Bd y l→k≤100000→l≤100000→y≠0→Calls P F #[.string s,.string t] w fun e w'=>∃ u:ByteArray,e=.returned (.string u)∧aC u (x/y)∧Below w.heap.size w w'):au P F (GR T):=CW hT fun p q av hav s t k l w h1 h2 b1 b2 hk hl=>by
 split at hav
 ·rename_i h0
  cases hav
  refine (H s t _ _ k l w h1 h2 b1 b2 hk hl (yy hT.ok h0)).mono ?_
  rintro e w' ⟨u,h3,h4,h5⟩
  exact⟨_,h3,fun _=>rG hT h4,h5⟩
 ·cases hav
theorem F4 (hT:Sem ρ σ T) (H:∀ s t x y k l w,aC s x→aC t y→Bd x k→Bd y l→k≤100000→l≤100000→Calls P F #[.string s,.string t] w fun e w'=>e=.returned (.int .i64 (x-y).num.sign)∧Below w.heap.size w w'):au P F (GQ T):=CW hT fun p q av hav s t k l w h1 h2 b1 b2 hk hl=>by
 split at hav
 ·rename_i c hs
  cases hav
  refine (H s t _ _ k l w h1 h2 b1 b2 hk hl).mono ?_
  rintro e w' ⟨h3,h5⟩
  have key:(p.val ρ-q.val ρ).num.sign=c:=hT.ok.look hs
  exact⟨_,h3,fun _=>by rw[RV,key],h5⟩
 ·cases hav
theorem CY (hT:Sem ρ σ T) (H:∀ s x k w,aC s x→Bd x k→k≤100000→Calls P F #[.string s] w fun e w'=>e=.returned (.int .i64 x.num.sign)∧Below w.heap.size w w'):au P F (CX T):=CV hT fun p av hav s k w h1 b1 hk=>by
 split at hav
 ·rename_i c hs
  cases hav
  refine (H s _ k w h1 b1 hk).mono ?_
  rintro e w' ⟨h3,h5⟩
  have key:(p.val ρ).num.sign=c:=by
   have:=hT.ok.look hs
   rw[←this]
   unfold sg
   rw[show (SE.int 0).val ρ=0 from rfl,Rat.sub_eq_add_neg,show (-(0:Rat))=0 from rfl,Rat.add_zero]
  exact⟨_,h3,fun _=>by rw[RV,key],h5⟩
 ·cases hav
theorem Ap (hT:Sem ρ σ T) (H:∀ s x k w,aC s x→Bd x k→k≤100000→Calls P F #[.string s] w fun e w'=>e=.returned (.int .i64 ((fh x:Nat):Int))∧Below w.heap.size w w'):au P F (xy T):=CV hT fun p av hav s k w h1 b1 hk=>by
 split at hav
 ·rename_i c hc
  cases hav
  refine (H s _ k w h1 b1 hk).mono ?_
  rintro e w' ⟨h3,h5⟩
  have key:=wb hT.ok hc
  exact⟨_,h3,fun _=>by rw[RV,key];rfl,h5⟩
 ·cases hav
def DM (T:PT):AV→Option Nat
 | .sym s=>match s with
  | .st i=>uI i T.chk
  | .ss e=>match T.big e with
   | some 0=>some 0
   | _=>none
  | _=>none
 | .str l=>match A6 l with
  | some _=>some 0
  | none=>none
 | _=>none
theorem Aq {s:ByteArray} {x:Rat} (h:aC s x) (hl:fh x=0):Bd x 600∧cN (chs s)=0:=by
 have hb:Bd x 600:=by
  unfold fh at hl
  split at hl
  ·rename_i hc
   exact xO (by decide) hc.1 hc.2
  ·cases hl
 exact⟨hb,by rw[show chs s=bW x from h];exact j4 hb⟩
theorem vj {s:ByteArray} {x:Rat} (h:aC s x) (hb:Bd x 600):s.size≤1000000:=by
 rw[h.size];exact Nat.le_trans (fx hb) (by decide)
theorem Gn {l:List UInt8} {e:SE} (h:A6 l=some e):Bd (e.val ρ) 600:=by
 have key:∀ n:Nat,n<10→Bd (((n:Int):Rat)) 600:=fun n hn=>(vZ (n:Int) 4 (by show n<2^4;omega) (by decide)).mono (by decide)
 unfold A6 at h
 split at h
 ·cases h;exact key 0 (by decide)
 ·cases h;exact key 1 (by decide)
 ·cases h
theorem xQ (hT:Sem ρ σ T) {a:AV} {c:Nat} {m:Nm} {w:World} {v:Value} (h:DM T a=some c) (hv:RV m w a v):∃ s,v=.string s∧s.size≤1000000∧cN (chs s)=c∧(c=0→∃ e,qK T a=some e∧aC s (e.val ρ)∧Bd (e.val ρ) 600):=by
 unfold DM at h
 split at h
 ·split at h
  ·rename_i i
   rw[RV,hT.is] at hv
   have hm:=mw _ h
   have h1:=hT.ok.chk _ hm
   refine ⟨_,hv,hT.ok.clen _ hm,h1,fun h0=>?_⟩
   subst h0
   have h2:=hT.ok.says _ hm rfl
   refine ⟨.v i,by rw[qK,h];rfl,h2,?_⟩
   obtain⟨x,q1,q2⟩:=oJ h1
   have:x=ρ i:=aC.eq (s:=σ i) q1 h2
   subst this
   exact q2
  ·rename_i e
   split at h
   ·rename_i hb
    cases h
    rw[RV,hT.is] at hv
    obtain⟨s,rfl,hs⟩:=hv
    obtain⟨q1,q2⟩:=Aq hs (wb hT.ok hb)
    exact⟨s,rfl,vj hs q1,q2,fun _=>⟨e,rfl,hs,q1⟩⟩
   ·cases h
  ·cases h
 ·rename_i l
  split at h
  ·rename_i e he
   cases h
   rw[RV] at hv
   have h1:=yh (ρ:=ρ) he
   have h2:=Gn (ρ:=ρ) he
   exact⟨_,hv,vj h1 h2,by rw[show chs _=bW _ from h1];exact j4 h2,fun _=>⟨e,he,h1,h2⟩⟩
  ·cases h
 ·cases h
def yk (i d:Nat):List (Nat × Nat × Bool)→Option Bool
 | []=>none
 |(j,k,b)::l=>match Nat.beq i j&&Nat.beq d k with
  | true=>some b
  | false=>yk i d l
theorem rm {i d:Nat} {b:Bool}:∀ (l:List (Nat × Nat × Bool)),yk i d l=some b→(i,d,b)∈l
 | [],h=>by cases h
 |(j,k,q)::l,h=>by
  rw[yk] at h
  split at h
  ·rename_i he
   rw[Bool.and_eq_true] at he
   have e1:=Nat.eq_of_beq_eq_true he.1
   have e2:=Nat.eq_of_beq_eq_true he.2
   subst e1 e2
   cases h
   exact List.mem_cons_self
  ·exact List.mem_cons_of_mem _ (rm l h)
def Ao (T:PT) (d:Nat):Prm:=fun _ a=>match a with
 | [.sym (.st i),.int .i64 (.ofNat k)]=>match Nat.beq k d with
  | true=>match yk i d T.few with
   | some b=>some (.bool b)
   | none=>none
  | false=>none
 | _=>none
open Classical in
theorem yM (hT:Sem ρ σ T) {d:Nat} (H:∀ s w,s.size≤9223372036854775807→Calls P F #[.string s,.int .i64 (d:Nat)] w fun e w'=>e=.returned (.bool (decide (Few s d)))∧Below w.heap.size w w'):au P F (Ao T d):=by
 intro h args av hg m w vals hv hs
 unfold Ao at hg
 split at hg
 ·rename_i i k
  split at hg
  ·rename_i hk
   have e1:=Nat.eq_of_beq_eq_true hk
   subst e1
   split at hg
   ·rename_i b hb
    cases hg
    rw[RVs] at hv
    obtain⟨v,l,rfl,h1,h2⟩:=hv
    rw[RVs] at h2
    obtain⟨v2,l,rfl,h2,h3⟩:=h2
    rw[RVs] at h3
    subst h3
    rw[RV,hT.is] at h1
    rw[RV] at h2
    subst h2
    rw[show v=.string (σ i) from h1]
    refine (H _ w (hT.ok.len i)).mono ?_
    rintro e w' ⟨rfl,h5⟩
    have key:=hT.ok.few _ (rm _ hb)
    simp only at key
    exact⟨_,rfl,by rw[RV,key],h5⟩
   ·cases hg
  ·cases hg
 ·cases hg
def sOf:Prm:=fun _ a=>match a with
 | [.sym (.si i),.int .i64 d]=>match Nat.blt i 500,d with
  | false,.ofNat d=>match Nat.ble 1 d&&Nat.ble d 1000000 with
   | true=>some (.sym (.ss (.quo (.v (500+i)) (.int (.ofNat d)))))
   | false=>none
  | _,_=>none
 | _=>none
theorem GS (hT:Sem ρ σ T) (H:∀ (n d:Nat) w,n≤255→1≤d→d≤1000000→Calls P F #[.int .i64 (n:Nat),.int .i64 (d:Nat)] w fun e w'=>∃ u:ByteArray,e=.returned (.string u)∧aC u (Rat.divInt n d)∧Below w.heap.size w w'):au P F sOf:=by
 intro h args av hg m w vals hv hs
 unfold sOf at hg
 split at hg
 ·rename_i i d0
  split at hg
  ·rename_i d hb
   split at hg
   ·rename_i hd
    cases hg
    rw[Bool.and_eq_true] at hd
    rw[RVs] at hv
    obtain⟨v,l,rfl,h1,h2⟩:=hv
    rw[RVs] at h2
    obtain⟨v2,l,rfl,h2,h3⟩:=h2
    rw[RVs] at h3
    subst h3
    rw[RV,hT.is] at h1
    unfold nB at h1
    simp only[hb] at h1
    obtain⟨n,hn,rfl,hr⟩:=h1
    rw[RV] at h2
    subst h2
    refine (H n d w hn (Nat.le_of_ble_eq_true hd.1) (Nat.le_of_ble_eq_true hd.2)).mono ?_
    rintro e w' ⟨u,rfl,h4,h5⟩
    refine ⟨_,rfl,rG hT ?_,h5⟩
    have:(SE.quo (.v (500+i)) (.int (.ofNat d))).val ρ=ρ (500+i)/(((d:Nat):Int):Rat):=rfl
    rw[this,hr,←Rat.divInt_eq_div]
    exact h4
   ·cases hg
  ·cases hg
 ·cases hg
def FL:AV:=.agg [.sym .junk,.sym .junk,.sym .junk,.sym .junk]
def uX (T:PT) (a:AV):Nat→Option AV
 | 0=>match qK T a with
  | some e=>some (.tup [ofE e,.int .i64 0])
  | none=>none
 | c+1=>some (.tup [FL,.int .i64 (.ofNat (c+1))])
def su (T:PT):Prm:=fun _ a=>match a with
 | [x]=>match DM T x with
  | some c=>uX T x c
  | none=>none
 | _=>none
def tc (T:PT):Prm:=fun _ a=>match a with
 | [x]=>match DM T x with
  | some c=>some (.int .i64 (.ofNat c))
  | none=>none
 | _=>none
theorem An (hT:Sem ρ σ T) (H:∀ s w,s.size≤1000000→Calls P F #[.string s] w fun e w'=>e=.returned (.int .i64 ((cN (chs s):Nat):Int))∧Below w.heap.size w w'):au P F (tc T):=by
 intro h args av hg m w vals hv hs
 unfold tc at hg
 split at hg
 ·rename_i x
  split at hg
  ·rename_i c hc
   cases hg
   rw[RVs] at hv
   obtain⟨v,l,rfl,h1,h2⟩:=hv
   rw[RVs] at h2
   subst h2
   obtain⟨s,rfl,q1,q2,_⟩:=xQ hT hc h1
   refine (H s w q1).mono ?_
   rintro e w' ⟨h3,h5⟩
   exact⟨_,h3,by rw[RV,q2];rfl,h5⟩
  ·cases hg
 ·cases hg
theorem og (hT:Sem ρ σ T) {m:Nm} {w:World} {v:Value} (h:(∀ n,v≠.int .u64 n)∧(∀ c,v≠.agg c)∧∀ c,v≠.tuple c):RV m w (.sym .junk) v:=by
 rw[RV,hT.is]
 exact h
theorem oh {m:Nm} {w:World} {a b:AV} {u v:Value} (h1:RV m w a u) (h2:RV m w b v):RV m w (.tup [a,b]) (.tuple #[u,v]):=by
 rw[RV]
 refine ⟨[u,v],rfl,?_⟩
 rw[RVs]
 refine ⟨_,_,rfl,h1,?_⟩
 rw[RVs]
 exact⟨_,_,rfl,h2,by rw[RVs]⟩
theorem zI (hT:Sem ρ σ T) (H:∀ s w,s.size≤1000000→Calls P F #[.string s] w fun e w'=>∃ v,e=.returned (.tuple #[v,.int .i64 ((cN (chs s):Nat):Int)])∧((∃ s1 a1 n1 c1 s2 a2 n2 c2,v=.agg #[.bool s1,.slice a1 n1 c1,.bool s2,.slice a2 n2 c2])∧∀ x,aC s x→Bd x 600→ExG w' v x)∧Below w.heap.size w w'):au P F (su T):=by
 intro h args av hg m w vals hv hs
 unfold su at hg
 split at hg
 ·rename_i x
  split at hg
  ·rename_i c hc
   rw[RVs] at hv
   obtain⟨v,l,rfl,h1,h2⟩:=hv
   rw[RVs] at h2
   subst h2
   obtain⟨s,rfl,q1,q2,q3⟩:=xQ hT hc h1
   refine (H s w q1).mono ?_
   rintro e w' ⟨v',h3,⟨h4,h6⟩,h5⟩
   refine ⟨_,h3,?_,h5⟩
   rw[q2]
   unfold uX at hg
   split at hg
   ·obtain⟨e,g1,g2,g3⟩:=q3 rfl
    rw[g1] at hg
    cases hg
    exact oh (ta hT (h6 _ g2 g3)) (by rw[RV];rfl)
   ·cases hg
    obtain⟨s1,a1,n1,c1,s2,a2,n2,c2,rfl⟩:=h4
    refine oh ?_ (by rw[RV];rfl)
    unfold FL
    rw[RV]
    refine ⟨[_,_,_,_],rfl,?_⟩
    rw[RVs];refine ⟨_,_,rfl,og hT (by simp),?_⟩
    rw[RVs];refine ⟨_,_,rfl,og hT (by simp),?_⟩
    rw[RVs];refine ⟨_,_,rfl,og hT (by simp),?_⟩
    rw[RVs];exact⟨_,_,rfl,og hT (by simp),by rw[RVs]⟩
  ·cases hg
 ·cases hg
theorem Ea (hT:Sem ρ σ T) (H:∀ u x k w,ExG w u x→Bd x k→k≤100000→(∃ m h,RS m w h)→Calls P F #[u] w fun e w'=>∃ t:ByteArray,e=.returned (.tuple #[.string t,.int .i64 ((fh x:Nat):Int)])∧(fh x=0→aC t x)∧(fh x≠0→t=ByteArray.mk #[])∧Below w.heap.size w w'):au P F (E9 T):=by
 intro h args av hg m w vals hv hs
 unfold E9 e1 at hg
 split at hg
 ·rename_i x
  split at hg
  ·rename_i p hp
   split at hg
   ·rename_i hf
    dsimp only at hg
    split at hg
    ·rename_i c hc
     cases hg
     rw[RVs] at hv
     obtain⟨v,l,rfl,h1,h2⟩:=hv
     rw[RVs] at h2
     subst h2
     obtain⟨k,hk,hb⟩:=ke hT.ok hf
     refine (H v _ k w (o9 hT hp h1) hb hk ⟨m,_,hs⟩).mono ?_
     rintro e w' ⟨t,h3,h4,h6,h5⟩
     refine ⟨_,h3,?_,h5⟩
     have key:=wb hT.ok hc
     rw[key]
     unfold CP
     split
     ·exact oh (rG hT (h4 key)) (by rw[RV];rfl)
     ·rw[h6 (by rw[key];omega)]
      exact oh (by rw[RV]) (by rw[RV];rfl)
    ·cases hg
   ·cases hg
  ·cases hg
 ·cases hg
end
end Go.Sx
