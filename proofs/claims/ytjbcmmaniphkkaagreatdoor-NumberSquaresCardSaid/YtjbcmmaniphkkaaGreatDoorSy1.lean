import Derived.Test.YtjbcmmaniphkkaaGreatDoorDig
import Derived.Test.YtjbcmmaniphkkaaGreatDoorPr
set_option linter.unusedSectionVars false
set_option linter.unusedVariables false
set_option linter.unusedSimpArgs false
namespace Go.Sx
open LimbNum DigNum
def isq:Nat→Nat
 | 0=>0
 | n+1=>if (isq n+1)*(isq n+1)≤n+1 then isq n+1 else isq n
theorem pK:∀ n,isq n*isq n≤n∧n<(isq n+1)*(isq n+1)
 | 0=>by decide
 | n+1=>by
  have ih:=pK n
  rw[isq]
  split
  ·rename_i h
   refine ⟨h,?_⟩
   generalize isq n=r at *
   have:(r+1+1)*(r+1+1)=(r+1)*(r+1)+2*(r+1)+1:=by grind
   omega
  ·rename_i h
   exact⟨by omega,by omega⟩
theorem Jr (n:Nat):isq n≤n:=by
 have:=(pK n).1
 rcases Nat.eq_zero_or_pos (isq n) with h|h
 ·omega
 ·exact Nat.le_trans (Nat.le_mul_of_pos_left _ h) this
theorem Df {n r:Nat} (h1:r*r≤n) (h2:n<(r+1)*(r+1)):isq n=r:=by
 obtain⟨g1,g2⟩:=pK n
 rcases Nat.lt_trichotomy (isq n) r with h|h|h
 ·have:=Nat.mul_le_mul (show isq n+1≤r from h) (show isq n+1≤r from h)
  omega
 ·exact h
 ·have:=Nat.mul_le_mul (show r+1≤isq n from h) (show r+1≤isq n from h)
  omega
def zY (k:Nat) (a b:Rat):Rat:=match k with
 | 0=>if a≤b then a else b
 | 1=>if a≤b then b else a
 | 2=>if a≤0∧0≤b then 0 else if a*a≤b*b then a*a else b*b
 | 3=>if a*a≤b*b then b*b else a*a
 | 4=>(a.num:Rat)
 | 5=>(a.den:Rat)
 | 6=>((isq a.num.toNat:Nat):Rat)
 | 7=>((a/b).floor:Rat)
 | _=>0
theorem lA {k:Nat} (h:1≤k):Bd 0 k:=by
 have:=Nat.one_lt_pow (n:=k) (a:=10) (by omega) (by decide)
 exact⟨by show 0<10^k;omega,by show 1<10^k;omega⟩
def bdB (i k l:Nat):Nat:=match i with
 | 0=>match Nat.ble k l with
  | true=>l
  | false=>k
 | 1=>match Nat.ble k l with
  | true=>l
  | false=>k
 | 4=>k
 | 5=>k
 | 6=>k
 | 7=>k+l
 | _=>2*(k+l)
theorem jh (n:Int) {k:Nat} (h:n.natAbs<10^k) (hk:1≤k):Bd (n:Rat) k:=
 ⟨by rw[Rat.num_intCast];exact h,by rw[Rat.den_intCast];exact Nat.one_lt_pow (by omega) (by decide)⟩
theorem At (x:Rat):x.floor.natAbs≤x.num.natAbs:=by
 have h:x.floor=x.num/x.den:=by rw[Rat.floor_def]
 rw[h]
 have hd:0<(x.den:Int):=Int.natCast_pos.2 x.den_pos
 generalize (x.den:Int)=d at *
 generalize x.num=n at *
 rcases Int.lt_or_le n 0 with hn|hn
 ·have h1:n≤n/d:=by
   rw[Int.le_ediv_iff_mul_le hd]
   have:=Int.mul_le_mul_of_nonpos_left (a:=n) (b:=d) (c:=1) (by omega) (by omega)
   omega
  have h2:n/d<0:=Int.ediv_neg_of_neg_of_pos hn hd
  omega
 ·have h1:=Int.ediv_nonneg hn (Int.le_of_lt hd)
  have h2:=Int.ediv_le_self d hn
  omega
theorem Ja (k l:Nat):k≤(match Nat.ble k l with|true=>l|false=>k)∧l≤(match Nat.ble k l with|true=>l|false=>k):=by
 cases h:Nat.ble k l with
 | true=>exact⟨Nat.le_of_ble_eq_true h,K6 _⟩
 | false=>
  have:¬k≤l:=fun hc=>by have:=Nat.ble_eq_true_of_le hc;rw[h] at this;cases this
  exact⟨K6 _,by show l≤k;omega⟩
theorem Jb {a b:Rat} {k l:Nat} (i:Nat) (h1:Bd a k) (h2:Bd b l):Bd (zY i a b) (bdB i k l):=by
 have:=h1.pos
 have:=h2.pos
 have hb:=Ja k l
 unfold zY
 split
 ·split
  ·exact h1.mono hb.1
  ·exact h2.mono hb.2
 ·split
  ·exact h2.mono hb.2
  ·exact h1.mono hb.1
 ·split
  ·exact lA (by show 1≤2*(k+l);omega)
  ·split
   ·exact (kA h1 h1).mono (by show k+k≤2*(k+l);omega)
   ·exact (kA h2 h2).mono (by show l+l≤2*(k+l);omega)
 ·split
  ·exact (kA h2 h2).mono (by show l+l≤2*(k+l);omega)
  ·exact (kA h1 h1).mono (by show k+k≤2*(k+l);omega)
 ·exact jh _ h1.1 h1.pos
 ·exact jh (a.den:Int) (by rw[Int.natAbs_natCast];exact h1.2) h1.pos
 ·refine jh (isq a.num.toNat:Int) ?_ h1.pos
  rw[Int.natAbs_natCast]
  show isq a.num.toNat<10^k
  have:=Jr a.num.toNat
  have:=h1.1
  omega
 ·refine jh _ (Nat.lt_of_le_of_lt (At _) ?_) (by show 1≤k+l;omega)
  rw[Rat.div_def]
  exact (kA h1 (Cu h2)).1
 ·rename_i n h0 h1' h2' h3' h4' h5' h6' h7'
  refine lA ?_
  unfold bdB
  split
  ·exact absurd rfl h0
  ·exact absurd rfl h1'
  ·exact absurd rfl h4'
  ·exact absurd rfl h5'
  ·exact absurd rfl h6'
  ·exact absurd rfl h7'
  ·omega
def SE.val (ρ:Nat→Rat):SE→Rat
 | .v i=>ρ i
 | .int n=>(n:Rat)
 | .add a b=>a.val ρ+b.val ρ
 | .sub a b=>a.val ρ-b.val ρ
 | .mul a b=>a.val ρ*b.val ρ
 | .quo a b=>a.val ρ/b.val ρ
 | .neg a=>- a.val ρ
 | .bin k a b=>zY k (a.val ρ) (b.val ρ)
def SE.bd (K:Nat):SE→Nat
 | .v _=>K
 | .int n=>match n with
  | .ofNat n=>n.log2+1
  | .negSucc n=>n.log2+2
 | .add a b=>a.bd K+b.bd K+1
 | .sub a b=>a.bd K+b.bd K+1
 | .mul a b=>a.bd K+b.bd K
 | .quo a b=>a.bd K+b.bd K
 | .neg a=>a.bd K
 | .bin k a b=>bdB k (a.bd K) (b.bd K)
theorem wP (n:Int) (k:Nat) (h:n.natAbs<2^k) (hk:1≤k):Bd (n:Rat) k:=
 ⟨by rw[Rat.num_intCast];exact Nat.lt_of_lt_of_le h (Nat.pow_le_pow_left (by decide) k),by rw[Rat.den_intCast];exact Nat.one_lt_pow (by omega) (by decide)⟩
theorem SE.gf {ρ:Nat→Rat} {K:Nat} (hρ:∀ i,Bd (ρ i) K):∀ e:SE,Bd (e.val ρ) (e.bd K)
 | .v i=>hρ i
 | .int n=>by
  cases n with
  | ofNat n=>
   refine wP _ _ ?_ (by simp[SE.bd])
   show n<2^(n.log2+1)
   exact Nat.lt_log2_self
  | negSucc n=>
   refine wP _ _ ?_ (by simp[SE.bd])
   show n+1<2^(n.log2+2)
   have:n<2^(n.log2+1):=Nat.lt_log2_self
   have h2:2^(n.log2+2)=2*2^(n.log2+1):=by rw[Nat.pow_succ,Nat.mul_comm]
   have h3:0<2^(n.log2+1):=Nat.two_pow_pos _
   have h4:2≤2^(n.log2+1):=by rw[Nat.pow_succ];have:=Nat.two_pow_pos n.log2;omega
   omega
 | .add a b=>Ct (gf hρ a) (gf hρ b)
 | .sub a b=>by
  show Bd (a.val ρ-b.val ρ) _
  rw[Rat.sub_eq_add_neg];exact Ct (gf hρ a) (wQ (gf hρ b))
 | .mul a b=>kA (gf hρ a) (gf hρ b)
 | .quo a b=>by
  show Bd (a.val ρ/b.val ρ) _
  rw[Rat.div_def];exact kA (gf hρ a) (Cu (gf hρ b))
 | .neg a=>wQ (gf hρ a)
 | .bin k a b=>Jb k (gf hρ a) (gf hρ b)
structure PT where
 cmp:List (SE × SE × Int)
 chk:List (Nat × Nat)
 lrg:List (SE × Nat)
 le:List (SE × SE)
 few:List (Nat × Nat × Bool)
 K:Nat
def KE:Int→Int
 | .ofNat 0=>0
 | .ofNat (n+1)=>.negSucc n
 | .negSucc n=>.ofNat (n+1)
theorem GL (n:Int):KE n = -n:=by
 cases n with
 | ofNat n=>cases n<;>rfl
 | negSucc n=>rfl
def yL (a b:SE):List (SE × SE × Int)→Option Int
 | []=>none
 |(x,y,s)::l=>match SE.eq a x&&SE.eq b y with
  | true=>some s
  | false=>match SE.eq a y&&SE.eq b x with
   | true=>some (KE s)
   | false=>yL a b l
def PT.look (T:PT) (a b:SE):Option Int:=match SE.eq a b with
 | true=>some 0
 | false=>yL a b T.cmp
def nS (i:Nat):List (Nat × Nat)→Option Nat
 | []=>none
 |(j,c)::l=>match Nat.beq i j with
  | true=>some c
  | false=>nS i l
def sg (x y:Rat):Int:=(x-y).num.sign
theorem Hv (x:Rat):sg x x=0:=by unfold sg;rw[Rat.sub_self];rfl
theorem gD (x y:Rat):sg y x = - sg x y:=by
 unfold sg
 rw[show y-x = -(x-y) by rw[Rat.neg_sub],Rat.neg_num,Int.sign_neg]
theorem cW {x y:Rat}:sg x y=0↔x=y:=by
 unfold sg
 rw[Int.sign_eq_zero_iff_zero,Rat.num_eq_zero]
 constructor
 ·intro h;have:=congrArg (· + y) h;simpa [Rat.sub_add_cancel,Rat.zero_add] using this
 ·intro h;rw[h];exact Rat.sub_self
def Few (s:ByteArray) (d:Nat):Prop:=∃ x,aG s x∧Bd x d
open Classical in
structure TOK (ρ : Nat → Rat) (σ : Nat → ByteArray) (T : PT) : Prop where
 cmp:∀ x∈T.cmp,sg (x.1.val ρ) (x.2.1.val ρ)=x.2.2
 chk:∀ x∈T.chk,cX (chs (σ x.1))=x.2
 says:∀ x∈T.chk,x.2=0→aG (σ x.1) (ρ x.1)
 len:∀ i,(σ i).size≤9223372036854775807
 clen:∀ x∈T.chk,(σ x.1).size≤1000000
 lrg:∀ x∈T.lrg,fO (x.1.val ρ)=x.2
 le:∀ x∈T.le,x.1.val ρ≤x.2.val ρ
 few:∀ x∈T.few,decide (Few (σ x.1) x.2.1)=x.2.2
 bd:∀ i,Bd (ρ i) T.K
theorem Jc (s t:ByteArray):(s==t)=decide (s=t):=by
 rw[beq_toListBytes]
 by_cases h:s=t
 ·subst h;simp
 ·rw[decide_eq_false h]
  cases hb:(s.toList==t.toList) with
  | false=>rfl
  | true=>
   have hl:=eq_of_beq hb
   obtain⟨⟨l⟩⟩:=s
   obtain⟨⟨m⟩⟩:=t
   have e1:(⟨⟨l⟩⟩:ByteArray).toList=l:=by simp
   have e2:(⟨⟨m⟩⟩:ByteArray).toList=m:=by simp
   rw[e1,e2] at hl
   subst hl
   exact absurd rfl h
theorem vj {ρ:Nat→Rat} {a b:SE} {s:Int}:∀ (l:List (SE × SE × Int)),(∀ x∈l,sg (x.1.val ρ) (x.2.1.val ρ)=x.2.2)→yL a b l=some s→sg (a.val ρ) (b.val ρ)=s
 | [],_,h=>by cases h
 |(x,y,q)::l,hl,h=>by
  rw[yL] at h
  split at h
  ·rename_i he
   rw[Bool.and_eq_true] at he
   have e1:=SE.eq_eq a x he.1
   have e2:=SE.eq_eq b y he.2
   subst e1 e2
   cases h
   exact hl (a,b,s) List.mem_cons_self
  ·split at h
   ·rename_i he
    rw[Bool.and_eq_true] at he
    have e1:=SE.eq_eq a y he.1
    have e2:=SE.eq_eq b x he.2
    subst e1 e2
    cases h
    rw[gD,GL]
    exact congrArg _ (hl (b,a,q) List.mem_cons_self)
   ·exact vj l (fun x hx=>hl x (List.mem_cons_of_mem _ hx)) h
theorem TOK.look {ρ:Nat→Rat} {σ:Nat→ByteArray} {T:PT} (h:TOK ρ σ T) {a b:SE} {s:Int} (hl:T.look a b=some s):sg (a.val ρ) (b.val ρ)=s:=by
 unfold PT.look at hl
 split at hl
 ·rename_i he
  have e1:=SE.eq_eq a b he
  subst e1
  cases hl
  exact Hv _
 ·exact vj _ h.cmp hl
def fW (x:Rat) (i:Nat) (w:World) (v:Value):Prop:=match i with
 | 0=>v=.bool (decide (x.num<0))
 | 1=>Lim w v x.num.natAbs
 | 2=>v=.bool false
 | 3=>Lim w v x.den∨(x.den=1∧Lim w v 0)
 | _=>False
theorem vf {w:World} {v:Value} {n:Nat} (h:Lim w v n):(∀ n,v≠.int .u64 n)∧(∀ c,v≠.agg c)∧∀ c,v≠.tuple c:=by
 obtain⟨_,_,rfl,_⟩:=h;simp
theorem GH {x:Rat} {i:Nat} {w:World} {v:Value} (h:fW x i w v):(∀ n,v≠.int .u64 n)∧(∀ c,v≠.agg c)∧∀ c,v≠.tuple c:=by
 unfold fW at h
 split at h
 ·subst h;simp
 ·exact vf h
 ·subst h;simp
 ·rcases h with h|⟨_,h⟩<;>exact vf h
 ·exact h.elim
theorem GI {x:Rat} {i:Nat} {w w':World} {v:Value} (hg:Grow w w') (hu:U64 w w') (h:fW x i w v):fW x i w' v:=by
 unfold fW at *
 split at h
 ·exact h
 ·exact Lim.keep h hg.1 hu
 ·exact h
 ·exact h.imp (fun h=>Lim.keep h hg.1 hu) fun h=>⟨h.1,Lim.keep h.2 hg.1 hu⟩
 ·exact h
def km (ρ:Nat→Rat) (σ:Nat→ByteArray):Sy→World→Value→Prop
 | .nc e i,w,v=>fW (e.val ρ) i w v
 | .ss e,_,v=>∃ s,v=.string s∧aG s (e.val ρ)
 | .st i,_,v=>v=.string (σ i)
 | .junk,_,v=>(∀ n,v≠.int .u64 n)∧(∀ c,v≠.agg c)∧∀ c,v≠.tuple c
 | .si i,_,v=>match Nat.blt i 500 with
  | true=>∃ n:Nat,n≤255∧v=.int .u8 n∧ρ (1000+i)=((n:Int):Rat)
  | false=>match Nat.blt i 1000 with
   | true=>∃ n:Nat,n≤255∧v=.int .i64 n∧ρ (500+i)=((n:Int):Rat)
   | false=>∃ n:Int,v=.int .i64 n∧ρ (1000+i)=(n:Rat)
def Iw (T:PT):Sy→Option SE
 | .ss a=>some a
 | .st i=>match nS i T.chk with
  | some c=>match c with
   | 0=>some (.v i)
   | _+1=>none
  | none=>none
 | _=>none
theorem pN {i c:Nat}:∀ (l:List (Nat × Nat)),nS i l=some c→(i,c)∈l
 | [],h=>by cases h
 |(j,q)::l,h=>by
  rw[nS] at h
  split at h
  ·rename_i he
   rw[Nat.eq_of_beq_eq_true he,Option.some.inj h]
   exact List.mem_cons_self
  ·exact List.mem_cons_of_mem _ (pN l h)
theorem zA {ρ:Nat→Rat} {σ:Nat→ByteArray} {T:PT} (hT:TOK ρ σ T) {s:Sy} {e:SE} {w:World} {v:Value} (h:Iw T s=some e) (hv:km ρ σ s w v):∃ t,v=.string t∧aG t (e.val ρ):=by
 cases s with
 | ss a=>cases h;exact hv
 | st i=>
  unfold Iw at h
  simp only at h
  split at h
  ·rename_i c hc
   split at h
   ·cases h
    exact⟨_,hv,hT.says _ (pN _ hc) rfl⟩
   ·cases h
  ·cases h
 | _=>cases h
def EV (T:PT) (x y:Sy):Option Bool:=match Iw T x,Iw T y with
 | some a,some b=>match T.look a b with
  | some (.ofNat 0)=>some true
  | some _=>some false
  | none=>none
 | _,_=>none
def EU (T:PT):Sy→List UInt8→Option Bool
 | .ss _,[]=>some false
 | .ss a,l=>match l with
  | [48]=>match T.look a (.int 0) with
   | some (.ofNat 0)=>some true
   | some _=>some false
   | none=>none
  | _=>none
 | _,_=>none
def Lg:Sy→IntKind→Option Sy
 | .si i,k=>match k with
  | .i64=>match Nat.blt i 500 with
   | true=>some (.si (i+500))
   | false=>none
  | _=>none
 | _,_=>none
theorem wrap_small (n:Nat) (hn:n≤255):IntKind.i64.wrap (n:Int)=(n:Int):=by
 have h:(2:Int)^IntKind.i64.bits=18446744073709551616:=by decide
 have h3:(2:Int)^(IntKind.i64.bits-1)=9223372036854775808:=by decide
 simp only[IntKind.wrap,h]
 rw[if_neg]
 ·omega
 ·intro hc
  rw[Bool.and_eq_true,decide_eq_true_iff,h3] at hc
  omega
theorem Je {i:Nat} (h:Nat.blt i 500=true):Nat.blt (i+500) 1000=true:=by
 have:=Nat.le_of_ble_eq_true h
 exact Nat.ble_eq_true_of_le (by omega)
theorem FF (i:Nat):Nat.blt (i+500) 500=false:=by
 cases h:Nat.blt (i+500) 500 with
 | false=>rfl
 | true=>have:i+500+1≤500:=Nat.le_of_ble_eq_true h;omega
def sgB (op:BinOp) (s:Int):Option Bool:=match op with
 | .lss=>match s with
  | .negSucc _=>some true
  | .ofNat _=>some false
 | .gtr=>match s with
  | .negSucc _=>some false
  | .ofNat n=>match n with
   | 0=>some false
   | _+1=>some true
 | _=>none
def ET (T:PT):Sy→BinOp→IntKind→Int→Option Bool
 | .si i,op,k,n=>match k with
  | .i64=>match Nat.blt i 1000 with
   | true=>none
   | false=>match T.look (.v (1000+i)) (.int n) with
    | some s=>sgB op s
    | none=>none
  | _=>none
 | _,_,_,_=>none
theorem oS (m n:Int):sg (m:Rat) (n:Rat)=(m-n).sign:=by
 unfold sg
 rw[←Rat.intCast_sub,Rat.num_intCast]
theorem JZ {op:BinOp} {m n s:Int} {r:Bool} (h:(m-n).sign=s) (hr:sgB op s=some r):Gl op m n=some r:=by
 cases op<;>simp only[sgB] at hr<;>try (cases hr;done)
 ·split at hr
  ·cases hr
   have:=Int.negSucc_lt_zero ‹Nat›
   have h2:m<n:=by
    rcases Int.lt_or_le m n with h3|h3
    ·exact h3
    ·have:=Int.sign_nonneg_iff.2 (show 0≤m-n by omega)
     omega
   show some (decide (m<n))=some true
   rw[decide_eq_true h2]
  ·cases hr
   rename_i k
   have h0:0≤(m-n).sign:=by rw[h];exact Int.natCast_nonneg _
   have h2:¬m<n:=fun h3=>by
    have:=Int.sign_eq_neg_one_of_neg (show m-n<0 by omega)
    omega
   show some (decide (m<n))=some false
   rw[decide_eq_false h2]
 ·split at hr
  ·cases hr
   have:=Int.negSucc_lt_zero ‹Nat›
   have h2:¬m>n:=fun h3=>by
    have:=Int.sign_eq_one_of_pos (show 0<m-n by omega)
    omega
   show some (decide (m>n))=some false
   rw[decide_eq_false h2]
  ·split at hr
   ·cases hr
    have h2:¬m>n:=fun h3=>by
     have:=Int.sign_eq_one_of_pos (show 0<m-n by omega)
     rw[this] at h
     exact absurd h (by decide)
    show some (decide (m>n))=some false
    rw[decide_eq_false h2]
   ·cases hr
    rename_i k
    have h0:0<(m-n).sign:=by rw[h];exact Int.natCast_pos.2 (Nat.succ_pos _)
    have h2:m>n:=by
     rcases Int.lt_or_le n m with h3|h3
     ·exact h3
     ·rcases Int.lt_or_eq_of_le h3 with h4|h4
      ·have:=Int.sign_eq_neg_one_of_neg (show m-n<0 by omega)
       omega
      ·rw[h4,Int.sub_self] at h0
       exact absurd h0 (by decide)
    show some (decide (m>n))=some true
    rw[decide_eq_true h2]
@[instance_reducible] def gZ (ρ : Nat → Rat) (σ : Nat → ByteArray) (T : PT) : Unk where
 is:=fun s w v=>TOK ρ σ T∧km ρ σ s w v
 keep:=fun s w w' v hg hu h=>by
  obtain⟨hT,h⟩:=h
  refine ⟨hT,?_⟩
  cases s with
  | nc e i=>exact GI hg hu h
  | ss e=>exact h
  | st i=>exact h
  | junk=>exact h
  | si i=>exact h
 cell:=fun s w v h=>by
  obtain⟨_,h⟩:=h
  cases s with
  | nc e i=>exact GH h
  | ss e=>obtain⟨s,rfl,_⟩:=h;simp
  | st i=>rw[show v=.string (σ i) from h];simp
  | junk=>exact h
  | si i=>
   unfold km at h
   simp only at h
   split at h
   ·obtain⟨n,_,rfl,_⟩:=h;simp
   ·split at h
    ·obtain⟨n,_,rfl,_⟩:=h;simp
    ·obtain⟨n,rfl,_⟩:=h;simp
 eqS:=EV T
 eqL:=EU T
 okS:=fun a b r h w v u hv hu=>by
  unfold EV at h
  split at h
  case h_2=>cases h
  rename_i a b ha hb
  obtain⟨hT,hv⟩:=hv
  obtain⟨s,rfl,hs⟩:=zA hT ha hv
  obtain⟨t,rfl,ht⟩:=zA hT hb hu.2
  refine ⟨s,t,rfl,rfl,?_⟩
  have key:(s==t)=decide (sg (a.val ρ) (b.val ρ)=0):=by
   rw[Jc]
   by_cases he:a.val ρ=b.val ρ
   ·rw[decide_eq_true (cW.2 he),decide_eq_true (hs.same (by rw[he];exact ht))]
   ·rw[decide_eq_false (fun h=>he (cW.1 h)),decide_eq_false (fun h=>by subst h;exact he (hs.eq ht))]
  rw[key]
  split at h
  ·cases h;rw[hT.look ‹_›];rfl
  ·rename_i x hne hx
   cases h
   rw[hT.look hx]
   exact decide_eq_false fun h=>by subst h;exact hne rfl
  ·cases h
 okL:=fun a l r h w v hv=>by
  cases a with
  | ss a=>
   obtain⟨hT,s,rfl,hs⟩:=hv
   refine ⟨s,rfl,?_⟩
   cases l with
   | nil=>
    cases h
    rw[Jc]
    refine decide_eq_false fun h=>?_
    have:=hs.pos
    rw[h] at this
    exact absurd this (by decide)
   | cons c l=>
    unfold EU at h
    simp only at h
    split at h
    ·rename_i heq
     have key:(s==⟨#[48]⟩)=decide (sg (a.val ρ) 0=0):=by
      rw[Jc]
      by_cases he:a.val ρ=0
      ·rw[decide_eq_true (cW.2 he),decide_eq_true (hs.zero.2 he)]
      ·rw[decide_eq_false (fun h=>he (cW.1 h)),decide_eq_false (fun h=>he (hs.zero.1 h))]
     rw[heq]
     show (s==⟨#[48]⟩)=r
     rw[key]
     have e0:(SE.int 0).val ρ=0:=rfl
     split at h
     ·rename_i hx
      cases h;have:=hT.look hx;rw[e0] at this;rw[this];rfl
     ·rename_i x hne hx
      cases h
      have h2:=hT.look hx
      rw[e0] at h2
      rw[h2]
      exact decide_eq_false fun h=>by subst h;exact hne rfl
     ·cases h
    ·cases h
  | nc _ _=>cases h
  | st _=>cases h
  | junk=>cases h
  | si _=>cases h
 toK:=Lg
 okK:=fun a k b h w v hv=>by
  cases a with
  | si i=>
   unfold Lg at h
   simp only at h
   split at h
   ·split at h
    ·rename_i hb
     cases h
     obtain⟨hT,hv⟩:=hv
     unfold km at hv
     simp only[hb] at hv
     obtain⟨n,hn,rfl,hr⟩:=hv
     refine ⟨_,_,rfl,hT,?_⟩
     unfold km
     simp only[FF,Je hb]
     refine ⟨n,hn,?_,by rw[←hr];congr 1;omega⟩
     congr 1
     exact wrap_small n hn
    ·cases h
   ·cases h
  | _=>cases h
 cmpB:=ET T
 okB:=fun a op k n r h w v hv=>by
  cases a with
  | si i=>
   unfold ET at h
   simp only at h
   split at h
   ·split at h
    ·cases h
    ·rename_i hb
     split at h
     ·rename_i s hs
      obtain⟨hT,hv⟩:=hv
      have hb2:Nat.blt i 500=false:=by
       cases hc:Nat.blt i 500 with
       | false=>rfl
       | true=>
        have h1:=Nat.le_of_ble_eq_true hc
        have h2:Nat.blt i 1000=true:=Nat.ble_eq_true_of_le (by omega)
        rw[h2] at hb;cases hb
      unfold km at hv
      simp only[hb2,hb] at hv
      obtain⟨m,rfl,hm⟩:=hv
      refine ⟨m,rfl,JZ ?_ h⟩
      have h3:=hT.look hs
      have e:(SE.v (1000+i)).val ρ=(m:Rat):=hm
      rw[e,show (SE.int n).val ρ=(n:Rat) from rfl,oS] at h3
      exact h3
     ·cases h
   ·cases h
  | _=>cases h
end Go.Sx
namespace Go.Sx
open LimbNum DigNum Go.RowKit
def ExG (w:World) (v:Value) (x:Rat):Prop:=∃ a b c d,v=.agg #[a,b,c,d]∧fW x 0 w a∧fW x 1 w b∧fW x 2 w c∧fW x 3 w d
def wk (i:Nat):AV→Option SE
 | .sym (.nc e j)=>match Nat.beq i j with
  | true=>some e
  | false=>none
 | _=>none
def GB:List AV→Option SE
 | [.bool s,a,.bool false,b]=>match lC a,lC b with
  | some n,some d=>match Nat.ble d 1 with
   | true=>match s with
    | false=>some (.int (.ofNat n))
    | true=>match n with
     | 0=>none
     | m+1=>some (.int (.negSucc m))
   | false=>none
  | _,_=>none
 | _=>none
def DJ:AV→Option SE
 | .agg l=>match l with
  | [a,b,c,d]=>match wk 0 a with
   | some e=>match wk 1 b,wk 2 c,wk 3 d with
    | some e1,some e2,some e3=>match SE.eq e e1&&(SE.eq e e2&&SE.eq e e3) with
     | true=>some e
     | false=>none
    | _,_,_=>none
   | none=>GB [a,b,c,d]
  | _=>none
 | _=>none
def ofE (e:SE):AV:=.agg [.sym (.nc e 0),.sym (.nc e 1),.sym (.nc e 2),.sym (.nc e 3)]
structure Sem [Unk] (ρ : Nat → Rat) (σ : Nat → ByteArray) (T : PT) : Prop where
 is:∀ s w v,Unk.is s w v=km ρ σ s w v
 ok:TOK ρ σ T
theorem xW {ρ:Nat→Rat} {σ:Nat→ByteArray} {T:PT} (hT:TOK ρ σ T):@Sem (gZ ρ σ T) ρ σ T:=@Sem.mk (gZ ρ σ T) ρ σ T (fun _ _ _=>propext ⟨fun h=>h.2,fun h=>⟨hT,h⟩⟩) hT
section
variable {ρ : Nat → Rat} {σ : Nat → ByteArray} {T : PT} [Unk] [Glob]
theorem jU (hT:Sem ρ σ T) {i:Nat} {a:AV} {e:SE} {m:Nm} {w:World} {v:Value} (h:wk i a=some e) (hv:RV m w a v):fW (e.val ρ) i w v:=by
 unfold wk at h
 split at h
 ·rename_i e' j
  split at h
  ·rename_i hb
   have:=Nat.eq_of_beq_eq_true hb
   subst this
   cases h
   rw[RV,hT.is] at hv
   exact hv
  ·cases h
 ·cases h
theorem yJ {l:List AV} {e:SE} {m:Nm} {w:World} {vs:List Value} (h:GB l=some e) (hv:RVs m w l vs):ExG w (.agg vs.toArray) (e.val ρ):=by
 unfold GB at h
 split at h
 ·rename_i s a b
  rw[RVs] at hv
  obtain⟨v0,l0,rfl,h0,hv⟩:=hv
  rw[RVs] at hv
  obtain⟨v1,l1,rfl,h1,hv⟩:=hv
  rw[RVs] at hv
  obtain⟨v2,l2,rfl,h2,hv⟩:=hv
  rw[RVs] at hv
  obtain⟨v3,l3,rfl,h3,hv⟩:=hv
  rw[RVs] at hv
  subst hv
  rw[RV] at h0 h2
  subst h0 h2
  split at h
  ·rename_i n d hn hd
   have g1:=kO hn h1
   have g2:=kO hd h3
   split at h
   ·rename_i hb
    have hd1:d≤1:=Nat.le_of_ble_eq_true hb
    have key:∀ x:Rat,x.den=1→fW x 3 w v3:=by
     intro x hx
     rcases Nat.lt_or_ge d 1 with h|h
     ·have:d=0:=by omega
      subst this
      exact .inr ⟨hx,g2⟩
     ·have:d=1:=by omega
      subst this
      exact .inl (by rw[hx];exact g2)
    split at h
    ·cases h
     refine ⟨_,_,_,_,rfl,?_,?_,rfl,key _ rfl⟩
     ·show Value.bool false=Value.bool (decide (((Int.ofNat n:Int):Rat).num<0))
      rw[Rat.num_intCast,decide_eq_false (by simp)]
     ·show Lim w v1 (((Int.ofNat n:Int):Rat).num).natAbs
      rw[Rat.num_intCast];exact g1
    ·split at h
     ·cases h
     ·rename_i k
      cases h
      refine ⟨_,_,_,_,rfl,?_,?_,rfl,key _ rfl⟩
      ·show Value.bool true=Value.bool (decide (((Int.negSucc k:Int):Rat).num<0))
       rw[Rat.num_intCast,decide_eq_true (Int.negSucc_lt_zero _)]
      ·show Lim w v1 (((Int.negSucc k:Int):Rat).num).natAbs
       rw[Rat.num_intCast];exact g1
   ·cases h
  ·cases h
 ·cases h
theorem oN (hT:Sem ρ σ T) {a:AV} {e:SE} {m:Nm} {w:World} {v:Value} (h:DJ a=some e) (hv:RV m w a v):ExG w v (e.val ρ):=by
 unfold DJ at h
 split at h
 ·rename_i l
  rw[RV] at hv
  obtain⟨vs,rfl,hv⟩:=hv
  split at h
  ·rename_i a b c d
   split at h
   ·rename_i e0 q0
    split at h
    ·rename_i e1 e2 e3 q1 q2 q3
     split at h
     ·rename_i hb
      simp only[Bool.and_eq_true] at hb
      have t1:=SE.eq_eq _ _ hb.1
      have t2:=SE.eq_eq _ _ hb.2.1
      have t3:=SE.eq_eq _ _ hb.2.2
      subst t1 t2 t3
      cases h
      rw[RVs] at hv
      obtain⟨v0,l0,rfl,h0,hv⟩:=hv
      rw[RVs] at hv
      obtain⟨v1,l1,rfl,h1,hv⟩:=hv
      rw[RVs] at hv
      obtain⟨v2,l2,rfl,h2,hv⟩:=hv
      rw[RVs] at hv
      obtain⟨v3,l3,rfl,h3,hv⟩:=hv
      rw[RVs] at hv
      subst hv
      exact⟨_,_,_,_,rfl,jU hT q0 h0,jU hT q1 h1,jU hT q2 h2,jU hT q3 h3⟩
     ·cases h
    ·cases h
   ·exact yJ h hv
  ·cases h
 ·cases h
theorem tM (hT:Sem ρ σ T) {e:SE} {m:Nm} {w:World} {v:Value} (h:ExG w v (e.val ρ)):RV m w (ofE e) v:=by
 obtain⟨a,b,c,d,rfl,h0,h1,h2,h3⟩:=h
 unfold ofE
 rw[RV]
 refine ⟨[a,b,c,d],rfl,?_⟩
 rw[RVs];refine ⟨_,_,rfl,by rw[RV,hT.is];exact h0,?_⟩
 rw[RVs];refine ⟨_,_,rfl,by rw[RV,hT.is];exact h1,?_⟩
 rw[RVs];refine ⟨_,_,rfl,by rw[RV,hT.is];exact h2,?_⟩
 rw[RVs];exact⟨_,_,rfl,by rw[RV,hT.is];exact h3,by rw[RVs]⟩
def fit (T:PT) (e:SE):Bool:=Nat.ble (e.bd T.K) 100000
theorem gI (hT:TOK ρ σ T) {e:SE} (h:fit T e=true):∃ k,k≤100000∧Bd (e.val ρ) k:=⟨_,Nat.le_of_ble_eq_true h,SE.gf hT.bd e⟩
def e1 (T:PT) (f:SE→Option AV):Prm:=fun _ a=>match a with
 | [x]=>match DJ x with
  | some p=>match fit T p with
   | true=>f p
   | false=>none
  | none=>none
 | _=>none
def e2 (T:PT) (f:SE→SE→Option AV):Prm:=fun _ a=>match a with
 | [x,y]=>match DJ x,DJ y with
  | some p,some q=>match fit T p&&fit T q with
   | true=>f p q
   | false=>none
  | _,_=>none
 | _=>none
variable {P : Program} {F : FuncId}
theorem IG (hT:Sem ρ σ T) {f:SE→Option AV} (H:∀ p av,f p=some av→∀ v k w,ExG w v (p.val ρ)→Bd (p.val ρ) k→k≤100000→Calls P F #[v] w fun e w'=>∃ v',e=.returned v'∧(∀ m,RV m w' av v')∧Below w.heap.size w w'):ay P F (e1 T f):=by
 intro h args av hg m w vals hv hs
 unfold e1 at hg
 split at hg
 ·rename_i x
  split at hg
  ·rename_i p hp
   split at hg
   ·rename_i hf
    rw[RVs] at hv
    obtain⟨v,l,rfl,h1,h2⟩:=hv
    rw[RVs] at h2
    subst h2
    obtain⟨k,hk,hb⟩:=gI hT.ok hf
    refine (H p av hg v k w (oN hT hp h1) hb hk).mono ?_
    rintro e w' ⟨v',h3,h4,h5⟩
    exact⟨v',h3,h4 m,h5⟩
   ·cases hg
  ·cases hg
 ·cases hg
theorem IH (hT:Sem ρ σ T) {f:SE→SE→Option AV} (H:∀ p q av,f p q=some av→∀ u v k l w,ExG w u (p.val ρ)→ExG w v (q.val ρ)→Bd (p.val ρ) k→Bd (q.val ρ) l→k≤100000→l≤100000→Calls P F #[u,v] w fun e w'=>∃ v',e=.returned v'∧(∀ m,RV m w' av v')∧Below w.heap.size w w'):ay P F (e2 T f):=by
 intro h args av hg m w vals hv hs
 unfold e2 at hg
 split at hg
 ·rename_i x y
  split at hg
  ·rename_i p q hp hq
   split at hg
   ·rename_i hf
    rw[Bool.and_eq_true] at hf
    rw[RVs] at hv
    obtain⟨u,l,rfl,h1,h2⟩:=hv
    rw[RVs] at h2
    obtain⟨v,l,rfl,h2,h3⟩:=h2
    rw[RVs] at h3
    subst h3
    obtain⟨k,hk,hb⟩:=gI hT.ok hf.1
    obtain⟨k2,hk2,hb2⟩:=gI hT.ok hf.2
    refine (H p q av hg u v k k2 w (oN hT hp h1) (oN hT hq h2) hb hb2 hk hk2).mono ?_
    rintro e w' ⟨v',h3,h4,h5⟩
    exact⟨v',h3,h4 m,h5⟩
   ·cases hg
  ·cases hg
 ·cases hg
def op2 (op:SE→SE→SE):SE→SE→Option AV:=fun p q=>some (ofE (op p q))
def Kw (T:PT):Prm:=e2 T (op2 .mul)
def Jg (T:PT):Prm:=e2 T fun p q=>match T.look p q with
 | some s=>some (.int .i64 s)
 | none=>none
def CM (T:PT):Prm:=e1 T fun p=>match T.look p (.int 0) with
 | some s=>some (.int .i64 s)
 | none=>none
def yN (e:SE):List (SE × Nat)→Option Nat
 | []=>none
 |(x,c)::l=>match SE.eq e x with
  | true=>some c
  | false=>yN e l
def PT.big (T:PT) (e:SE):Option Nat:=match Nat.ble (e.bd T.K) 600 with
 | true=>some 0
 | false=>yN e T.lrg
theorem AS {x:Rat} {k:Nat} (h:Bd x k) (hk:k≤600):fO x=0:=by
 have h6:=h.mono hk
 unfold fO
 rw[if_pos ⟨(eo (by decide)).2 h6.1,(eo (by decide)).2 h6.2⟩]
theorem vl {e:SE} {c:Nat}:∀ (l:List (SE × Nat)),(∀ x∈l,fO (x.1.val ρ)=x.2)→yN e l=some c→fO (e.val ρ)=c
 | [],_,h=>by cases h
 |(x,q)::l,hl,h=>by
  rw[yN] at h
  split at h
  ·rename_i he
   have e1:=SE.eq_eq _ _ he
   subst e1
   have e2:q=c:=Option.some.inj h
   subst e2
   exact hl (e,q) List.mem_cons_self
  ·exact vl l (fun x hx=>hl x (List.mem_cons_of_mem _ hx)) h
theorem Cx (hT:TOK ρ σ T) {e:SE} {c:Nat} (h:T.big e=some c):fO (e.val ρ)=c:=by
 unfold PT.big at h
 split at h
 ·rename_i hb
  cases h
  exact AS (SE.gf hT.bd e) (Nat.le_of_ble_eq_true hb)
 ·exact vl _ hT.lrg h
def Ej (e:SE):Nat→AV
 | 0=>.tup [.sym (.ss e),.int .i64 0]
 | c+1=>.tup [.str [],.int .i64 (.ofNat (c+1))]
def FX (T:PT):Prm:=e1 T fun p=>match T.big p with
 | some c=>some (Ej p c)
 | none=>none
theorem JH (hT:Sem ρ σ T) {op:SE→SE→SE} (H:∀ u v p q k l w,ExG w u (p.val ρ)→ExG w v (q.val ρ)→Bd (p.val ρ) k→Bd (q.val ρ) l→k≤100000→l≤100000→Calls P F #[u,v] w fun e w'=>∃ v',e=.returned v'∧ExG w' v' ((op p q).val ρ)∧Below w.heap.size w w'):ay P F (e2 T (op2 op)):=IH hT fun p q av hav u v k l w h1 h2 b1 b2 hk hl=>by
 cases hav
 refine (H u v p q k l w h1 h2 b1 b2 hk hl).mono ?_
 rintro e w' ⟨v',h3,h4,h5⟩
 exact⟨v',h3,fun _=>tM hT h4,h5⟩
theorem FV (hT:Sem ρ σ T) (H:∀ u v x y k l w,ExG w u x→ExG w v y→Bd x k→Bd y l→k≤100000→l≤100000→Calls P F #[u,v] w fun e w'=>e=.returned (.int .i64 (x-y).num.sign)∧Below w.heap.size w w'):ay P F (Jg T):=IH hT fun p q av hav u v k l w h1 h2 b1 b2 hk hl=>by
 split at hav
 ·rename_i s hs
  cases hav
  refine (H u v _ _ k l w h1 h2 b1 b2 hk hl).mono ?_
  rintro e w' ⟨h3,h5⟩
  exact⟨_,h3,fun _=>by rw[RV];exact congrArg _ (hT.ok.look hs),h5⟩
 ·cases hav
theorem CN (hT:Sem ρ σ T) (H:∀ u x k w,ExG w u x→Bd x k→k≤100000→Calls P F #[u] w fun e w'=>e=.returned (.int .i64 x.num.sign)∧Below w.heap.size w w'):ay P F (CM T):=IG hT fun p av hav v k w h1 b1 hk=>by
 split at hav
 ·rename_i s hs
  cases hav
  refine (H v _ k w h1 b1 hk).mono ?_
  rintro e w' ⟨h3,h5⟩
  have key:(p.val ρ).num.sign=s:=by
   have:=hT.ok.look hs
   rw[←this]
   unfold sg
   rw[show (SE.int 0).val ρ=0 from rfl,Rat.sub_eq_add_neg,show (-(0:Rat))=0 from rfl,Rat.add_zero]
  exact⟨_,h3,fun _=>by rw[RV,key],h5⟩
 ·cases hav
def IW (T:PT) (p:SE):Option SE:=match T.look p (.int 0) with
 | some s=>match s with
  | .negSucc _=>some (.neg p)
  | .ofNat _=>some p
 | none=>none
theorem Fs (hT:Sem ρ σ T) {p q:SE} (hq:IW T p=some q):(q.val ρ).num=((p.val ρ).num.natAbs:Int)∧(q.val ρ).den=(p.val ρ).den:=by
 have key:(p.val ρ).num.sign=sg (p.val ρ) 0:=by
  unfold sg
  rw[Rat.sub_eq_add_neg,show (-(0:Rat))=0 from rfl,Rat.add_zero]
 unfold IW at hq
 split at hq
 ·rename_i s hs
  have hl:sg (p.val ρ) 0=s:=hT.ok.look hs
  rw[hl] at key
  split at hq
  ·cases hq
   have:(p.val ρ).num<0:=by
    rw[←Int.sign_eq_neg_one_iff_neg]
    have:=Int.sign_trichotomy (p.val ρ).num
    have:=Int.negSucc_lt_zero ‹Nat›
    omega
   exact⟨by show (-(p.val ρ)).num=_;rw[Rat.neg_num];omega,Rat.neg_den _⟩
  ·cases hq
   have:0≤(p.val ρ).num:=by
    rw[←Int.sign_nonneg_iff,key]
    exact Int.natCast_nonneg _
   exact⟨by show (p.val ρ).num=_;omega,rfl⟩
 ·cases hq
end
end Go.Sx
namespace Go.Sx
open LimbNum DigNum Go.RowKit
theorem qC (n:Nat) (s:ByteArray) (h:chs s=bh n):aG s ((n:Int):Rat):=sv (h.trans (di n).symm)
def xt:List UInt8→Option SE
 | [48]=>some (.int 0)
 | [49]=>some (.int 1)
 | [49,48]=>some (.int 10)
 | _=>none
theorem tp {l:List UInt8} {e:SE} {ρ:Nat→Rat} (h:xt l=some e):aG ⟨l.toArray⟩ (e.val ρ):=by
 unfold xt at h
 split at h
 ·cases h;exact qC 0 _ (by rw[dS];rfl)
 ·cases h;exact qC 1 _ (by rw[jr];rfl)
 ·cases h;exact qC 10 _ (du.1 (show bG [49,48]=true by decide))
 ·cases h
theorem rM {x:Rat} {k:Nat} (hk:1≤k) (h1:nd x.num.natAbs≤k) (h2:nd x.den≤k):Bd x k:=⟨(eo hk).1 h1,(eo hk).1 h2⟩
def rA (T:PT):AV→Option SE
 | .sym s=>match s with
  | .ss e=>some e
  | .st i=>match nS i T.chk with
   | some 0=>some (.v i)
   | _=>none
  | _=>none
 | .str l=>xt l
 | _=>none
theorem mY {i c:Nat}:∀ (l:List (Nat × Nat)),nS i l=some c→(i,c)∈l
 | [],h=>by cases h
 |(j,q)::l,h=>by
  rw[nS] at h
  split at h
  ·rename_i he
   have e1:=Nat.eq_of_beq_eq_true he
   subst e1
   have e2:q=c:=Option.some.inj h
   subst e2
   exact List.mem_cons_self
  ·exact List.mem_cons_of_mem _ (mY l h)
section
variable {ρ : Nat → Rat} {σ : Nat → ByteArray} {T : PT} [Unk] [Glob]
theorem oV (hT:Sem ρ σ T) {a:AV} {e:SE} {m:Nm} {w:World} {v:Value} (h:rA T a=some e) (hv:RV m w a v):∃ s,v=.string s∧aG s (e.val ρ):=by
 unfold rA at h
 split at h
 ·split at h
  ·cases h
   rw[RV,hT.is] at hv
   exact hv
  ·rename_i i
   split at h
   ·rename_i hl
    cases h
    rw[RV,hT.is] at hv
    exact⟨_,hv,hT.ok.says _ (mY _ hl) rfl⟩
   ·cases h
  ·cases h
 ·rw[RV] at hv
  exact⟨_,hv,tp h⟩
 ·cases h
theorem su (hT:Sem ρ σ T) {e:SE} {m:Nm} {w:World} {s:ByteArray} (h:aG s (e.val ρ)):RV m w (.sym (.ss e)) (.string s):=by
 rw[RV,hT.is]
 exact⟨s,rfl,h⟩
def s1 (T:PT) (f:SE→Option AV):Prm:=fun _ a=>match a with
 | [x]=>match rA T x with
  | some p=>match fit T p with
   | true=>f p
   | false=>none
  | none=>none
 | _=>none
def s2 (T:PT) (f:SE→SE→Option AV):Prm:=fun _ a=>match a with
 | [x,y]=>match rA T x,rA T y with
  | some p,some q=>match fit T p&&fit T q with
   | true=>f p q
   | false=>none
  | _,_=>none
 | _=>none
variable {P : Program} {F : FuncId}
theorem Eu (hT:Sem ρ σ T) {f:SE→Option AV} (H:∀ p av,f p=some av→∀ s k w,aG s (p.val ρ)→Bd (p.val ρ) k→k≤100000→Calls P F #[.string s] w fun e w'=>∃ v',e=.returned v'∧(∀ m,RV m w' av v')∧Below w.heap.size w w'):ay P F (s1 T f):=by
 intro h args av hg m w vals hv hs
 unfold s1 at hg
 split at hg
 ·rename_i x
  split at hg
  ·rename_i p hp
   split at hg
   ·rename_i hf
    rw[RVs] at hv
    obtain⟨v,l,rfl,h1,h2⟩:=hv
    rw[RVs] at h2
    subst h2
    obtain⟨s,rfl,g1⟩:=oV hT hp h1
    obtain⟨k,hk,hb⟩:=gI hT.ok hf
    refine (H p av hg s k w g1 hb hk).mono ?_
    rintro e w' ⟨v',h3,h4,h5⟩
    exact⟨v',h3,h4 m,h5⟩
   ·cases hg
  ·cases hg
 ·cases hg
theorem IP (hT:Sem ρ σ T) {f:SE→SE→Option AV} (H:∀ p q av,f p q=some av→∀ s t k l w,aG s (p.val ρ)→aG t (q.val ρ)→Bd (p.val ρ) k→Bd (q.val ρ) l→k≤100000→l≤100000→Calls P F #[.string s,.string t] w fun e w'=>∃ v',e=.returned v'∧(∀ m,RV m w' av v')∧Below w.heap.size w w'):ay P F (s2 T f):=by
 intro h args av hg m w vals hv hs
 unfold s2 at hg
 split at hg
 ·rename_i x y
  split at hg
  ·rename_i p q hp hq
   split at hg
   ·rename_i hf
    rw[Bool.and_eq_true] at hf
    rw[RVs] at hv
    obtain⟨u,l,rfl,h1,h2⟩:=hv
    rw[RVs] at h2
    obtain⟨v,l,rfl,h2,h3⟩:=h2
    rw[RVs] at h3
    subst h3
    obtain⟨s,rfl,g1⟩:=oV hT hp h1
    obtain⟨t,rfl,g2⟩:=oV hT hq h2
    obtain⟨k,hk,hb⟩:=gI hT.ok hf.1
    obtain⟨k2,hk2,hb2⟩:=gI hT.ok hf.2
    refine (H p q av hg s t k k2 w g1 g2 hb hb2 hk hk2).mono ?_
    rintro e w' ⟨v',h3,h4,h5⟩
    exact⟨v',h3,h4 m,h5⟩
   ·cases hg
  ·cases hg
 ·cases hg
def os2 (op:SE→SE→SE):SE→SE→Option AV:=fun p q=>some (.sym (.ss (op p q)))
def Lb (T:PT):Prm:=s2 T (os2 .sub)
def Jz (p q:SE):SE:=match p with
 | .int a=>match a with
  | .ofNat n=>match q with
   | .int b=>match b with
    | .ofNat m=>.int (.ofNat (n*m))
    | b=>.mul (.int (.ofNat n)) (.int b)
   | q=>match Nat.beq n 1 with
    | true=>q
    | false=>.mul (.int (.ofNat n)) q
  | a=>.mul (.int a) q
 | .quo x y=>match x,y,q with
  | .int (.ofNat 1),.int (.ofNat n),.quo (.int (.ofNat 1)) (.int (.ofNat m))=>.quo (.int (.ofNat 1)) (.int (.ofNat (n*m)))
  | x,y,q=>.mul (.quo x y) q
 | p=>.mul p q
theorem Dx (p q:SE):(Jz p q).val ρ=p.val ρ*q.val ρ:=by
 have hN:∀ n m:Nat,(((Int.ofNat (n*m):Int)):Rat)=((Int.ofNat n:Int):Rat)*((Int.ofNat m:Int):Rat):=fun n m=>by
  rw[←Rat.intCast_mul];rfl
 unfold Jz
 split
 ·split
  ·split
   ·split
    ·exact hN _ _
    ·rfl
   ·split
    ·rename_i n q' h1 h2
     rw[Nat.eq_of_beq_eq_true h2]
     show _=((1:Int):Rat)*_
     rw[show ((1:Int):Rat)=1 from rfl,Rat.one_mul]
    ·rfl
  ·rfl
 ·split
  ·rename_i n m
   show ((Int.ofNat 1:Int):Rat)/((Int.ofNat (n*m):Int):Rat)=(((Int.ofNat 1:Int):Rat)/((Int.ofNat n:Int):Rat))*(((Int.ofNat 1:Int):Rat)/((Int.ofNat m:Int):Rat))
   rw[hN,show ((Int.ofNat 1:Int):Rat)=1 from rfl]
   generalize ((Int.ofNat n:Int):Rat)=x
   generalize ((Int.ofNat m:Int):Rat)=y
   grind
  ·rfl
 ·rfl
def La (T:PT):Prm:=s2 T (os2 Jz)
def xU (T:PT):Prm:=s1 T fun p=>match p with
 | .int a=>match a with
  | .ofNat n=>match n with
   | 0=>none
   | n+1=>some (.sym (.ss (.quo (.int 1) (.int (.ofNat (n+1))))))
  | _=>none
 | _=>none
theorem Bl (hT:Sem ρ σ T) (H:∀ s x k w,aG s x→Bd x k→k≤100000→x≠0→Calls P F #[.string s] w fun e w'=>∃ u:ByteArray,e=.returned (.string u)∧aG u (x⁻¹)∧Below w.heap.size w w'):ay P F (xU T):=Eu hT fun p av hav s k w h1 b1 hk=>by
 split at hav
 ·split at hav
  ·split at hav
   ·cases hav
   ·rename_i n
    cases hav
    refine (H s _ k w h1 b1 hk ?_).mono ?_
    ·show ((Int.ofNat (n+1):Int):Rat)≠0
     intro hc
     have:=Rat.intCast_inj.1 (hc.trans (show (0:Rat)=((0:Int):Rat) from rfl))
     simp at this
     omega
    ·rintro e w' ⟨u,h3,h4,h5⟩
     refine ⟨_,h3,fun _=>su hT ?_,h5⟩
     show aG u (((1:Int):Rat)/((Int.ofNat (n+1):Int):Rat))
     rw[show ((1:Int):Rat)=1 from rfl,Rat.div_def,Rat.one_mul]
     exact h4
  ·cases hav
 ·cases hav
def JX (T:PT):Prm:=s1 T fun p=>match IW T p with
 | some q=>some (.sym (.ss q))
 | none=>none
theorem GX (hT:Sem ρ σ T) (H:∀ s x k w,aG s x→Bd x k→k≤100000→Calls P F #[.string s] w fun e w'=>∃ u:ByteArray,e=.returned (.string u)∧(∀ y:Rat,y.num=(x.num.natAbs:Int)→y.den=x.den→aG u y)∧Below w.heap.size w w'):ay P F (JX T):=Eu hT fun p av hav s k w h1 b1 hk=>by
 split at hav
 ·rename_i q hq
  cases hav
  refine (H s _ k w h1 b1 hk).mono ?_
  rintro e w' ⟨u,h3,h4,h5⟩
  obtain⟨g1,g2⟩:=Fs hT hq
  exact⟨_,h3,fun _=>su hT (h4 _ g1 g2),h5⟩
 ·cases hav
def JY (T:PT):Prm:=s2 T fun p q=>match T.look p q with
 | some s=>some (.int .i64 s)
 | none=>none
def Ev (T:PT):Prm:=s1 T fun p=>match T.look p (.int 0) with
 | some s=>some (.int .i64 s)
 | none=>none
theorem DV (hT:Sem ρ σ T) {op:SE→SE→SE} (H:∀ s t p q k l w,aG s (p.val ρ)→aG t (q.val ρ)→Bd (p.val ρ) k→Bd (q.val ρ) l→k≤100000→l≤100000→Calls P F #[.string s,.string t] w fun e w'=>∃ u:ByteArray,e=.returned (.string u)∧aG u ((op p q).val ρ)∧Below w.heap.size w w'):ay P F (s2 T (os2 op)):=IP hT fun p q av hav s t k l w h1 h2 b1 b2 hk hl=>by
 cases hav
 refine (H s t p q k l w h1 h2 b1 b2 hk hl).mono ?_
 rintro e w' ⟨u,h3,h4,h5⟩
 exact⟨_,h3,fun _=>su hT h4,h5⟩
theorem GY (hT:Sem ρ σ T) (H:∀ s t x y k l w,aG s x→aG t y→Bd x k→Bd y l→k≤100000→l≤100000→Calls P F #[.string s,.string t] w fun e w'=>e=.returned (.int .i64 (x-y).num.sign)∧Below w.heap.size w w'):ay P F (JY T):=IP hT fun p q av hav s t k l w h1 h2 b1 b2 hk hl=>by
 split at hav
 ·rename_i c hs
  cases hav
  refine (H s t _ _ k l w h1 h2 b1 b2 hk hl).mono ?_
  rintro e w' ⟨h3,h5⟩
  have key:(p.val ρ-q.val ρ).num.sign=c:=hT.ok.look hs
  exact⟨_,h3,fun _=>by rw[RV,key],h5⟩
 ·cases hav
theorem Ew (hT:Sem ρ σ T) (H:∀ s x k w,aG s x→Bd x k→k≤100000→Calls P F #[.string s] w fun e w'=>e=.returned (.int .i64 x.num.sign)∧Below w.heap.size w w'):ay P F (Ev T):=Eu hT fun p av hav s k w h1 b1 hk=>by
 split at hav
 ·rename_i c hs
  cases hav
  refine (H s _ k w h1 b1 hk).mono ?_
  rintro e w' ⟨h3,h5⟩
  have key:(p.val ρ).num.sign=c:=by
   have:=hT.ok.look hs
   rw[←this]
   unfold sg
   rw[show (SE.int 0).val ρ=0 from rfl,Rat.sub_eq_add_neg,show (-(0:Rat))=0 from rfl,Rat.add_zero]
  exact⟨_,h3,fun _=>by rw[RV,key],h5⟩
 ·cases hav
def FG (T:PT):AV→Option Nat
 | .sym s=>match s with
  | .st i=>nS i T.chk
  | .ss e=>match T.big e with
   | some 0=>some 0
   | _=>none
  | _=>none
 | .str l=>match xt l with
  | some _=>some 0
  | none=>none
 | _=>none
theorem Bm {s:ByteArray} {x:Rat} (h:aG s x) (hl:fO x=0):Bd x 600∧cX (chs s)=0:=by
 have hb:Bd x 600:=by
  unfold fO at hl
  split at hl
  ·rename_i hc
   exact rM (by decide) hc.1 hc.2
  ·cases hl
 exact⟨hb,by rw[show chs s=cg x from h];exact gS hb⟩
theorem qB {s:ByteArray} {x:Rat} (h:aG s x) (hb:Bd x 600):s.size≤1000000:=by
 rw[h.size];exact Nat.le_trans (gC hb) (by decide)
theorem Ju {l:List UInt8} {e:SE} (h:xt l=some e):Bd (e.val ρ) 600:=by
 have key:∀ n:Nat,n<16→Bd (((n:Int):Rat)) 600:=fun n hn=>(wP (n:Int) 4 (by show n<2^4;omega) (by decide)).mono (by decide)
 unfold xt at h
 split at h
 ·cases h;exact key 0 (by decide)
 ·cases h;exact key 1 (by decide)
 ·cases h;exact key 10 (by decide)
 ·cases h
theorem yq (hT:Sem ρ σ T) {a:AV} {c:Nat} {m:Nm} {w:World} {v:Value} (h:FG T a=some c) (hv:RV m w a v):∃ s,v=.string s∧s.size≤1000000∧cX (chs s)=c∧(c=0→∃ e,rA T a=some e∧aG s (e.val ρ)∧Bd (e.val ρ) 600):=by
 unfold FG at h
 split at h
 ·split at h
  ·rename_i i
   rw[RV,hT.is] at hv
   have hm:=mY _ h
   have h1:=hT.ok.chk _ hm
   refine ⟨_,hv,hT.ok.clen _ hm,h1,fun h0=>?_⟩
   subst h0
   have h2:=hT.ok.says _ hm rfl
   refine ⟨.v i,by rw[rA,h];rfl,h2,?_⟩
   obtain⟨x,q1,q2⟩:=ux h1
   have:x=ρ i:=aG.eq (s:=σ i) q1 h2
   subst this
   exact q2
  ·rename_i e
   split at h
   ·rename_i hb
    cases h
    rw[RV,hT.is] at hv
    obtain⟨s,rfl,hs⟩:=hv
    obtain⟨q1,q2⟩:=Bm hs (Cx hT.ok hb)
    exact⟨s,rfl,qB hs q1,q2,fun _=>⟨e,rfl,hs,q1⟩⟩
   ·cases h
  ·cases h
 ·rename_i l
  split at h
  ·rename_i e he
   cases h
   rw[RV] at hv
   have h1:=tp (ρ:=ρ) he
   have h2:=Ju (ρ:=ρ) he
   exact⟨_,hv,qB h1 h2,by rw[show chs _=cg _ from h1];exact gS h2,fun _=>⟨e,he,h1,h2⟩⟩
  ·cases h
 ·cases h
def yM (i d:Nat):List (Nat × Nat × Bool)→Option Bool
 | []=>none
 |(j,k,b)::l=>match Nat.beq i j&&Nat.beq d k with
  | true=>some b
  | false=>yM i d l
theorem sc {i d:Nat} {b:Bool}:∀ (l:List (Nat × Nat × Bool)),yM i d l=some b→(i,d,b)∈l
 | [],h=>by cases h
 |(j,k,q)::l,h=>by
  rw[yM] at h
  split at h
  ·rename_i he
   rw[Bool.and_eq_true] at he
   have e1:=Nat.eq_of_beq_eq_true he.1
   have e2:=Nat.eq_of_beq_eq_true he.2
   subst e1 e2
   cases h
   exact List.mem_cons_self
  ·exact List.mem_cons_of_mem _ (sc l h)
def GZ (T:PT) (d:Nat):Prm:=fun _ a=>match a with
 | [.sym (.st i),.int .i64 (.ofNat k)]=>match Nat.beq k d with
  | true=>match yM i d T.few with
   | some b=>some (.bool b)
   | none=>none
  | false=>none
 | _=>none
open Classical in
theorem Hi (hT:Sem ρ σ T) {d:Nat} (H:∀ s w,s.size≤9223372036854775807→Calls P F #[.string s,.int .i64 (d:Nat)] w fun e w'=>e=.returned (.bool (decide (Few s d)))∧Below w.heap.size w w'):ay P F (GZ T d):=by
 intro h args av hg m w vals hv hs
 unfold GZ at hg
 split at hg
 ·rename_i i k
  split at hg
  ·rename_i hk
   have e1:=Nat.eq_of_beq_eq_true hk
   subst e1
   split at hg
   ·rename_i b hb
    cases hg
    rw[RVs] at hv
    obtain⟨v,l,rfl,h1,h2⟩:=hv
    rw[RVs] at h2
    obtain⟨v2,l,rfl,h2,h3⟩:=h2
    rw[RVs] at h3
    subst h3
    rw[RV,hT.is] at h1
    rw[RV] at h2
    subst h2
    rw[show v=.string (σ i) from h1]
    refine (H _ w (hT.ok.len i)).mono ?_
    rintro e w' ⟨rfl,h5⟩
    have key:=hT.ok.few _ (sc _ hb)
    simp only at key
    exact⟨_,rfl,by rw[RV,key],h5⟩
   ·cases hg
  ·cases hg
 ·cases hg
def vG (T:PT) (a:AV):Nat→Option AV
 | 0=>match rA T a with
  | some e=>some (.tup [ofE e,.int .i64 0])
  | none=>none
 | c+1=>some (.tup [ofE (.int 0),.int .i64 (.ofNat (c+1))])
def sU (T:PT):Prm:=fun _ a=>match a with
 | [x]=>match FG T x with
  | some c=>vG T x c
  | none=>none
 | _=>none
def tN (T:PT):Prm:=fun _ a=>match a with
 | [x]=>match FG T x with
  | some c=>some (.int .i64 (.ofNat c))
  | none=>none
 | _=>none
theorem Bj (hT:Sem ρ σ T) (H:∀ s w,s.size≤1000000→Calls P F #[.string s] w fun e w'=>e=.returned (.int .i64 ((cX (chs s):Nat):Int))∧Below w.heap.size w w'):ay P F (tN T):=by
 intro h args av hg m w vals hv hs
 unfold tN at hg
 split at hg
 ·rename_i x
  split at hg
  ·rename_i c hc
   cases hg
   rw[RVs] at hv
   obtain⟨v,l,rfl,h1,h2⟩:=hv
   rw[RVs] at h2
   subst h2
   obtain⟨s,rfl,q1,q2,_⟩:=yq hT hc h1
   refine (H s w q1).mono ?_
   rintro e w' ⟨h3,h5⟩
   exact⟨_,h3,by rw[RV,q2];rfl,h5⟩
  ·cases hg
 ·cases hg
theorem oR {m:Nm} {w:World} {a b:AV} {u v:Value} (h1:RV m w a u) (h2:RV m w b v):RV m w (.tup [a,b]) (.tuple #[u,v]):=by
 rw[RV]
 refine ⟨[u,v],rfl,?_⟩
 rw[RVs]
 refine ⟨_,_,rfl,h1,?_⟩
 rw[RVs]
 exact⟨_,_,rfl,h2,by rw[RVs]⟩
theorem An (hT:Sem ρ σ T) (H:∀ s w,s.size≤1000000→Calls P F #[.string s] w fun e w'=>∃ v,e=.returned (.tuple #[v,.int .i64 ((cX (chs s):Nat):Int)])∧((cX (chs s)≠0→ExG w' v 0)∧∀ x,aG s x→Bd x 600→ExG w' v x)∧Below w.heap.size w w'):ay P F (sU T):=by
 intro h args av hg m w vals hv hs
 unfold sU at hg
 split at hg
 ·rename_i x
  split at hg
  ·rename_i c hc
   rw[RVs] at hv
   obtain⟨v,l,rfl,h1,h2⟩:=hv
   rw[RVs] at h2
   subst h2
   obtain⟨s,rfl,q1,q2,q3⟩:=yq hT hc h1
   refine (H s w q1).mono ?_
   rintro e w' ⟨v',h3,⟨h4,h6⟩,h5⟩
   refine ⟨_,h3,?_,h5⟩
   rw[q2]
   unfold vG at hg
   split at hg
   ·obtain⟨e,g1,g2,g3⟩:=q3 rfl
    rw[g1] at hg
    cases hg
    exact oR (tM hT (h6 _ g2 g3)) (by rw[RV];rfl)
   ·cases hg
    exact oR (tM hT (h4 (by rw[q2];omega))) (by rw[RV];rfl)
  ·cases hg
 ·cases hg
theorem FY (hT:Sem ρ σ T) (H:∀ u x k w,ExG w u x→Bd x k→k≤100000→(∃ m h,RS m w h)→Calls P F #[u] w fun e w'=>∃ t:ByteArray,e=.returned (.tuple #[.string t,.int .i64 ((fO x:Nat):Int)])∧(fO x=0→aG t x)∧(fO x≠0→t=ByteArray.mk #[])∧Below w.heap.size w w'):ay P F (FX T):=by
 intro h args av hg m w vals hv hs
 unfold FX e1 at hg
 split at hg
 ·rename_i x
  split at hg
  ·rename_i p hp
   split at hg
   ·rename_i hf
    dsimp only at hg
    split at hg
    ·rename_i c hc
     cases hg
     rw[RVs] at hv
     obtain⟨v,l,rfl,h1,h2⟩:=hv
     rw[RVs] at h2
     subst h2
     obtain⟨k,hk,hb⟩:=gI hT.ok hf
     refine (H v _ k w (oN hT hp h1) hb hk ⟨m,_,hs⟩).mono ?_
     rintro e w' ⟨t,h3,h4,h6,h5⟩
     refine ⟨_,h3,?_,h5⟩
     have key:=Cx hT.ok hc
     rw[key]
     unfold Ej
     split
     ·exact oR (su hT (h4 key)) (by rw[RV];rfl)
     ·rw[h6 (by rw[key];omega)]
      exact oR (by rw[RV]) (by rw[RV];rfl)
    ·cases hg
   ·cases hg
  ·cases hg
 ·cases hg
end
end Go.Sx
