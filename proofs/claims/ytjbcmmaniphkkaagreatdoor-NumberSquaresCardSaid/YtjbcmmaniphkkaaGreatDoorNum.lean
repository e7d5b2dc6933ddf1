set_option linter.unusedSectionVars false
set_option linter.unusedVariables false
set_option linter.unusedSimpArgs false
theorem K9 {α : Type _} {a : α} {l : List α} : (a::l)[0]? = some a := rfl
theorem K8 {α : Type _} {a : α} {l : List α} {i : Nat} : (a::l)[i+1]? = l[i]? := rfl
theorem K6 (n:Nat):n≤n:=Nat.le_refl n
theorem K5 {α:Type _} (a b:α):(some a=some b)=(a=b):=Option.some.injEq a b
namespace LimbNum
def B:Nat:=18446744073709551616
theorem aA:0<B:=by unfold B;omega
theorem oc:1<B:=by unfold B;omega
def val:List Nat→Nat
 | []=>0
 | x::xs=>x+B*val xs
def Fit (xs:List Nat):Prop:=∀ x∈xs,x<B
theorem Fit.nil:Fit []:=by intro x h;cases h
theorem Fit.cons {x:Nat} {xs:List Nat} (h:x<B) (k:Fit xs):Fit (x::xs):=by
 intro y hy;rcases List.mem_cons.1 hy with rfl|hy
 ·exact h
 ·exact k y hy
theorem Fit.tail {x:Nat} {xs:List Nat} (h:Fit (x::xs)):Fit xs:=fun y hy=>h y (List.mem_cons_of_mem _ hy)
theorem Fit.head {x:Nat} {xs:List Nat} (h:Fit (x::xs)):x<B:=h x (List.mem_cons_self ..)
theorem Fit.append {xs ys:List Nat} (h:Fit xs) (k:Fit ys):Fit (xs++ys):=by
 intro y hy;rcases List.mem_append.1 hy with hy|hy
 ·exact h y hy
 ·exact k y hy
theorem Fit.take {xs:List Nat} (h:Fit xs) (k:Nat):Fit (xs.take k):=fun y hy=>h y (List.mem_of_mem_take hy)
theorem Fit.drop {xs:List Nat} (h:Fit xs) (k:Nat):Fit (xs.drop k):=fun y hy=>h y (List.mem_of_mem_drop hy)
theorem bf {xs:List Nat} {i:Nat} (h:i<xs.length):xs.getD i 0=xs[i]:=by simp[List.getD_eq_getElem?_getD,h]
theorem bD {xs:List Nat} {i:Nat} (h:xs.length≤i):xs.getD i 0=0:=by simp[List.getD_eq_getElem?_getD,h]
theorem Fit.get {xs:List Nat} (h:Fit xs) (i:Nat):xs.getD i 0<B:=by
 by_cases hi:i<xs.length
 ·rw[bf hi];exact h _ (List.getElem_mem hi)
 ·rw[bD (by omega)];exact aA
theorem bE (xs ys:List Nat):val (xs++ys)=val xs+B^xs.length*val ys:=by
 induction xs with
 | nil=>simp[val]
 | cons x xs ih=>simp only[List.cons_append,val,ih,List.length_cons,Nat.pow_succ];rw[Nat.mul_add,Nat.mul_comm (B^xs.length) B,Nat.mul_assoc];omega
theorem ir (xs:List Nat) (x:Nat):val (xs++[x])=val xs+B^xs.length*x:=by
 rw[bE];simp[val]
theorem dn {xs:List Nat} (h:Fit xs):val xs<B^xs.length:=by
 induction xs with
 | nil=>simp[val]
 | cons x xs ih=>
  have h1:=ih h.tail
  have h2:=h.head
  simp only[val,List.length_cons,Nat.pow_succ]
  have:B*val xs+B≤B*B^xs.length:=by
   have:B*(val xs+1)≤B*B^xs.length:=Nat.mul_le_mul_left _ h1
   rw[Nat.mul_add] at this;omega
  rw[Nat.mul_comm (B^xs.length) B];omega
theorem dY (n:Nat):val (List.replicate n 0)=0:=by
 induction n with
 | zero=>rfl
 | succ n ih=>rw[List.replicate_succ,val,ih];simp
theorem fU {xs:List Nat} {k:Nat} (h:k<xs.length):xs.take (k+1)=xs.take k++[xs.getD k 0]:=by
 rw[List.take_succ_eq_append_getElem h,bf h]
theorem gN {xs:List Nat} {k:Nat} (h:k<xs.length):val (xs.take (k+1))=val (xs.take k)+B^k*xs.getD k 0:=by
 rw[fU h,ir,List.length_take,Nat.min_eq_left (by omega)]
theorem aB (xs:List Nat) (k:Nat):val (xs.take (k+1))=val (xs.take k)+B^k*xs.getD k 0:=by
 by_cases h:k<xs.length
 ·exact gN h
 ·rw[List.take_of_length_le (by omega),List.take_of_length_le (by omega),bD (by omega)];simp
theorem aR {xs:List Nat} {k:Nat} (h:xs.length≤k):val (xs.take k)=val xs:=by rw[List.take_of_length_le h]
def dm:Nat→Nat→List Nat
 | 0,_=>[]
 | f+1,n=>if n=0 then [] else n%B::dm f (n/B)
def ai (n:Nat):List Nat:=dm n n
theorem dG:∀ (f n:Nat),n≤f→∀ g,n≤g→dm f n=dm g n
 | 0,n,h,g,_=>by
  obtain rfl:n=0:=by omega
  cases g<;>simp[dm]
 | f+1,n,h,g,hg=>by
  by_cases hn:n=0
  ·subst hn;cases g<;>simp[dm]
  ·cases g with
   | zero=>omega
   | succ g=>
    have hlt:n/B<n:=Nat.div_lt_self (by omega) oc
    simp only[dm,if_neg hn]
    rw[dG f (n/B) (by omega) g (by omega)]
theorem bc:ai 0=[]:=rfl
theorem br {n:Nat} (h:n≠0):ai n=n%B::ai (n/B):=by
 have hlt:n/B<n:=Nat.div_lt_self (by omega) oc
 unfold ai
 cases n with
 | zero=>omega
 | succ n=>
  rw[dm,if_neg (by omega)]
  rw[dG n _ (by omega) _ (K6 _)]
theorem ao (n:Nat):Fit (ai n):=by
 induction n using Nat.strongRecOn with
 | ind n ih=>
  by_cases h:n=0
  ·subst h;exact Fit.nil
  ·rw[br h];exact Fit.cons (Nat.mod_lt _ aA) (ih _ (Nat.div_lt_self (by omega) oc))
theorem au (n:Nat):val (ai n)=n:=by
 induction n using Nat.strongRecOn with
 | ind n ih=>
  by_cases h:n=0
  ·subst h;rfl
  ·rw[br h,val,ih _ (Nat.div_lt_self (by omega) oc)]
   exact Nat.mod_add_div n B
theorem eF {n:Nat} (h:ai n≠[]):(ai n).getLast h≠0:=by
 induction n using Nat.strongRecOn with
 | ind n ih=>
  by_cases h0:n=0
  ·subst h0;exact absurd bc h
  ·have he:=br h0
   by_cases hd:n/B=0
   ·have hl:n<B:=by
     by_cases hc:n<B
     ·exact hc
     ·exact absurd hd (Nat.ne_of_gt (Nat.div_pos (by omega) aA))
    have:ai n=[n%B]:=by rw[he,hd,bc]
    simp only[this,List.getLast_singleton]
    rw[Nat.mod_eq_of_lt hl];exact h0
   ·have hne:ai (n/B)≠[]:=by rw[br hd];simp
    have:=ih (n/B) (Nat.div_lt_self (by omega) oc) hne
    simp only[he]
    rw[List.getLast_cons hne]
    exact this
theorem aF {n:Nat}:ai n=[]↔n=0:=by
 constructor
 ·intro h;have:=au n;rw[h] at this;exact this.symm
 ·rintro rfl;rfl
def size (n:Nat):Nat:=(ai n).length
theorem bW:size 0=0:=rfl
theorem lt_size (n:Nat):n<B^size n:=by
 have:=dn (ao n);rwa [au] at this
theorem size_le {n k:Nat} (h:n<B^k):size n≤k:=by
 induction k generalizing n with
 | zero=>simp at h;subst h;exact K6 0
 | succ k ih=>
  by_cases h0:n=0
  ·subst h0;simp[bW]
  ·have:n/B<B^k:=by
    rw[Nat.div_lt_iff_lt_mul aA];rwa [Nat.pow_succ] at h
   have h2:=ih this
   unfold size at *
   rw[br h0];simp only[List.length_cons];omega
theorem dO {n k:Nat} (h:k<size n):B^k≤n:=by
 by_cases hc:n<B^k
 ·have:=size_le hc;omega
 ·omega
theorem aK {m n:Nat} (h:m≤n):size m≤size n:=size_le (Nat.lt_of_le_of_lt h (lt_size n))
theorem size_pos {n:Nat}:0<size n↔n≠0:=by
 unfold size
 rw[List.length_pos_iff,ne_eq,aF]
def bn:List Nat→Nat
 | []=>0
 | x::xs=>if bn xs=0 then (if x=0 then 0 else 1) else bn xs+1
theorem eh (xs:List Nat):bn xs≤xs.length:=by
 induction xs with
 | nil=>exact K6 _
 | cons x xs ih=>simp only[bn,List.length_cons];split<;>(try split)<;>omega
theorem mw {xs:List Nat} (h:Fit xs):xs.take (bn xs)=ai (val xs):=by
 induction xs with
 | nil=>rfl
 | cons x xs ih=>
  have ih:=ih h.tail
  have hb:=h.head
  simp only[bn]
  by_cases ht:bn xs=0
  ·rw[ht] at ih
   have hv:val xs=0:=aF.1 (by rw[←ih];rfl)
   simp only[ht,if_true,val,hv,Nat.mul_zero,Nat.add_zero]
   by_cases hx:x=0
   ·subst hx;simp[bc]
   ·rw[if_neg hx,br hx,Nat.mod_eq_of_lt hb,Nat.div_eq_of_lt hb,bc];rfl
  ·rw[if_neg ht,List.take_succ_cons,ih]
   have hv:val xs≠0:=by
    intro h0
    rw[h0,bc] at ih
    have:=congrArg List.length ih
    rw[List.length_take,Nat.min_eq_left (eh xs)] at this
    exact ht this
   have hne:val (x::xs)≠0:=by
    have:0<B*val xs:=Nat.mul_pos aA (by omega)
    simp only[val];omega
   rw[br hne]
   simp only[val]
   rw[Nat.add_mul_mod_self_left,Nat.mod_eq_of_lt hb,Nat.add_mul_div_left _ _ aA,Nat.div_eq_of_lt hb,Nat.zero_add]
theorem qP {xs:List Nat} (h:Fit xs):bn xs=size (val xs):=by
 have:=congrArg List.length (mw h)
 rw[List.length_take,Nat.min_eq_left (eh xs)] at this
 exact this
theorem ld {xs:List Nat} {n:Nat} (hn:0<n) (hl:n≤xs.length) (h:xs.getD (n-1) 0=0) (ht:bn xs≤n):bn xs≤n-1:=by
 by_cases hc:bn xs≤n-1
 ·exact hc
 ·exfalso
  have hn':bn xs=n:=by omega
  clear hc ht
  induction xs generalizing n with
  | nil=>simp at hl;omega
  | cons x xs ih=>
   simp only[bn] at hn'
   by_cases h0:bn xs=0
   ·rw[if_pos h0] at hn'
    by_cases hx:x=0
    ·rw[if_pos hx] at hn';omega
    ·rw[if_neg hx] at hn';subst hn';simp at h;exact hx h
   ·rw[if_neg h0] at hn'
    subst hn'
    refine ih (n:=bn xs) (by omega) (eh xs) ?_ rfl
    have e:bn xs+1-1=(bn xs-1)+1:=by omega
    rw[e] at h
    simpa using h
theorem lh {xs:List Nat} {n:Nat} (hn:0<n) (hl:n≤xs.length) (h:xs.getD (n-1) 0≠0) (ht:bn xs≤n):bn xs=n:=by
 refine Nat.le_antisymm ht ?_
 clear ht
 induction xs generalizing n with
 | nil=>simp at hl;omega
 | cons x xs ih=>
  simp only[bn]
  by_cases hn1:n=1
  ·subst hn1
   simp at h
   split
   ·simp
   ·omega
  ·have e:n-1=(n-1-1)+1:=by omega
   have h':xs.getD (n-1-1) 0≠0:=by rw[e] at h;simpa using h
   have:=ih (n:=n-1) (by omega) (by simp at hl;omega) h'
   rw[if_neg (by omega)];omega
def fill (f:Nat→Nat) (k n:Nat):List Nat:=(List.range n).map fun i=>if i<k then f i else 0
theorem aS (f:Nat→Nat) (k n:Nat):(fill f k n).length=n:=by simp[fill]
theorem ew (f:Nat→Nat) (n:Nat):fill f 0 n=List.replicate n 0:=by
 apply List.ext_getElem
 ·simp[fill]
 ·intro i h1 h2;simp[fill]
theorem cB (f:Nat→Nat) (k n:Nat):(fill f k n).set k (f k)=fill f (k+1) n:=by
 apply List.ext_getElem
 ·simp[fill]
 ·intro i h1 h2
  simp only[fill,List.getElem_set,List.getElem_map,List.getElem_range]
  by_cases e:k=i
  ·subst e;simp
  ·by_cases hlt:i<k
   ·simp[e,hlt,Nat.lt_succ_of_lt hlt]
   ·have:¬i<k+1:=by omega
    simp[e,hlt,this]
theorem cU (f:Nat→Nat) (n:Nat):fill f n n=(List.range n).map f:=by
 apply List.ext_getElem
 ·simp[fill]
 ·intro i h1 h2
  have:i<n:=by simpa [fill] using h1
  simp[fill,this]
theorem eX {f:Nat→Nat} {n:Nat} (h:∀ i,i<n→f i<B):Fit (fill f n n):=by
 intro x hx
 rw[cU] at hx
 obtain⟨i,hi,rfl⟩:=List.mem_map.1 hx
 exact h i (List.mem_range.1 hi)
theorem bU (f:Nat→Nat) (n:Nat):val ((List.range (n+1)).map f)=val ((List.range n).map f)+B^n*f n:=by
 rw[List.range_succ,List.map_append,List.map_singleton,ir];simp
def bq (xs ys:List Nat):Nat→Nat
 | 0=>0
 | k+1=>(xs.getD k 0+ys.getD k 0+bq xs ys k)/B
def bA (xs ys:List Nat) (n k:Nat):Nat:=if k<n then (xs.getD k 0+ys.getD k 0+bq xs ys k)%B else bq xs ys k
theorem eO {xs ys:List Nat} (hx:Fit xs) (hy:Fit ys) (k:Nat):bq xs ys k≤1:=by
 induction k with
 | zero=>exact Nat.zero_le _
 | succ k ih=>
  have:=hx.get k;have:=hy.get k
  simp only[bq]
  have:(xs.getD k 0+ys.getD k 0+bq xs ys k)/B<2:=by
   rw[Nat.div_lt_iff_lt_mul aA];omega
  omega
theorem Ch (xs ys:List Nat) (n k:Nat) (hk:k≤n):val ((List.range k).map (bA xs ys n))+B^k*bq xs ys k=val (xs.take k)+val (ys.take k):=by
 induction k with
 | zero=>simp[val,bq]
 | succ k ih=>
  have ih:=ih (by omega)
  rw[bU,aB,aB]
  have hd:bA xs ys n k=(xs.getD k 0+ys.getD k 0+bq xs ys k)%B:=by simp[bA,show k<n by omega]
  have hm:=Nat.mod_add_div (xs.getD k 0+ys.getD k 0+bq xs ys k) B
  rw[hd,Nat.pow_succ,bq,Nat.mul_assoc]
  have e:B^k*((xs.getD k 0+ys.getD k 0+bq xs ys k)%B)+B^k*(B*((xs.getD k 0+ys.getD k 0+bq xs ys k)/B))=B^k*(xs.getD k 0)+B^k*(ys.getD k 0)+B^k*bq xs ys k:=by
   rw[←Nat.mul_add,hm,Nat.mul_add,Nat.mul_add]
  omega
theorem yo {xs ys:List Nat} (h:ys.length≤xs.length) :
  val (fill (bA xs ys xs.length) (xs.length+1) (xs.length+1))=val xs+val ys:=by
 rw[cU,bU]
 have:=Ch xs ys xs.length xs.length (K6 _)
 rw[aR (K6 _),aR h] at this
 rw[show bA xs ys xs.length xs.length=bq xs ys xs.length by simp[bA]]
 exact this
theorem yn {xs ys:List Nat} (hx:Fit xs) (hy:Fit ys) (n k:Nat):bA xs ys n k<B:=by
 unfold bA;split
 ·exact Nat.mod_lt _ aA
 ·have:=eO hx hy k;have:=oc;omega
def bJ (xs ys:List Nat):Nat→Nat
 | 0=>0
 | k+1=>if xs.getD k 0<ys.getD k 0+bJ xs ys k then 1 else 0
def cY (xs ys:List Nat) (k:Nat):Nat:=
 if xs.getD k 0<ys.getD k 0+bJ xs ys k then xs.getD k 0+B-(ys.getD k 0+bJ xs ys k) else xs.getD k 0-(ys.getD k 0+bJ xs ys k)
theorem dM (xs ys:List Nat) (k:Nat):bJ xs ys k≤1:=by
 cases k with
 | zero=>exact Nat.zero_le _
 | succ k=>simp only[bJ];split<;>omega
theorem mj {xs ys:List Nat} (hx:Fit xs) (hy:Fit ys) (k:Nat):cY xs ys k<B:=by
 have:=hx.get k;have:=hy.get k;have:=dM xs ys k
 unfold cY;split<;>omega
theorem qO {xs ys:List Nat} (hy:Fit ys) (k:Nat):val ((List.range k).map (cY xs ys))+val (ys.take k)=val (xs.take k)+B^k*bJ xs ys k:=by
 induction k with
 | zero=>simp[val,bJ]
 | succ k ih=>
  rw[bU,aB,aB,Nat.pow_succ]
  have h1:=hy.get k;have h2:=dM xs ys k
  simp only[bJ,cY]
  split
  ·rename_i h
   have e:B^k*(xs.getD k 0+B-(ys.getD k 0+bJ xs ys k))+B^k*ys.getD k 0+B^k*bJ xs ys k=B^k*xs.getD k 0+B^k*B*1:=by
    rw[←Nat.mul_add,←Nat.mul_add,Nat.mul_one,←Nat.mul_add]
    congr 1;omega
   omega
  ·rename_i h
   have e:B^k*(xs.getD k 0-(ys.getD k 0+bJ xs ys k))+B^k*ys.getD k 0+B^k*bJ xs ys k=B^k*xs.getD k 0:=by
    rw[←Nat.mul_add,←Nat.mul_add]
    congr 1;omega
   omega
theorem tT {xs ys:List Nat} (hx:Fit xs) (hy:Fit ys) (hl:ys.length≤xs.length) (h:val ys≤val xs):val (fill (cY xs ys) xs.length xs.length)=val xs-val ys:=by
 rw[cU]
 have hp:=qO (xs:=xs) hy xs.length
 rw[aR (K6 _),aR hl] at hp
 have hf:val ((List.range xs.length).map (cY xs ys))<B^xs.length:=by
  have:=dn (eX (f:=cY xs ys) (n:=xs.length) fun i _=>mj hx hy i)
  rwa [cU,List.length_map,List.length_range] at this
 have hc:=dM xs ys xs.length
 have:bJ xs ys xs.length=0:=by
  by_cases h0:bJ xs ys xs.length=0
  ·exact h0
  ·have h1:bJ xs ys xs.length=1:=by omega
   rw[h1] at hp;omega
 rw[this] at hp;omega
def mulC (xs:List Nat) (f s:Nat):Nat→Nat
 | 0=>s
 | k+1=>(xs.getD k 0*f+mulC xs f s k)/B
def dZ (xs:List Nat) (f s n k:Nat):Nat:=if k<n then (xs.getD k 0*f+mulC xs f s k)%B else mulC xs f s k
theorem lV {x y c:Nat} (hx:x<B) (hy:y<B) (hc:c<B):(x*y+c)/B<B:=by
 rw[Nat.div_lt_iff_lt_mul aA]
 have h1:x*y≤(B-1)*(B-1):=Nat.mul_le_mul (by omega) (by omega)
 have h2:(B-1)*(B-1)+(B-1)<B*B:=by unfold B;omega
 omega
theorem yS {xs:List Nat} {f s:Nat} (hx:Fit xs) (hf:f<B) (hs:s<B) (k:Nat):mulC xs f s k<B:=by
 induction k with
 | zero=>exact hs
 | succ k ih=>exact lV (hx.get k) hf ih
theorem Dy (xs:List Nat) (f s n k:Nat) (hk:k≤n):val ((List.range k).map (dZ xs f s n))+B^k*mulC xs f s k=val (xs.take k)*f+s:=by
 induction k with
 | zero=>simp[val,mulC]
 | succ k ih=>
  have ih:=ih (by omega)
  rw[bU,aB,Nat.add_mul]
  have hd:dZ xs f s n k=(xs.getD k 0*f+mulC xs f s k)%B:=by simp[dZ,show k<n by omega]
  have hm:=Nat.mod_add_div (xs.getD k 0*f+mulC xs f s k) B
  rw[hd,Nat.pow_succ,mulC,Nat.mul_assoc,Nat.mul_assoc]
  have e:B^k*((xs.getD k 0*f+mulC xs f s k)%B)+B^k*(B*((xs.getD k 0*f+mulC xs f s k)/B))=B^k*(xs.getD k 0*f)+B^k*mulC xs f s k:=by
   rw[←Nat.mul_add,hm,Nat.mul_add]
  omega
theorem yU (xs:List Nat) (f s:Nat):val (fill (dZ xs f s xs.length) (xs.length+1) (xs.length+1))=val xs*f+s:=by
 rw[cU,bU]
 have:=Dy xs f s xs.length xs.length (K6 _)
 rw[aR (K6 _)] at this
 rw[show dZ xs f s xs.length xs.length=mulC xs f s xs.length by simp[dZ]]
 exact this
theorem yT {xs:List Nat} {f s:Nat} (hx:Fit xs) (hf:f<B) (hs:s<B) (n k:Nat):dZ xs f s n k<B:=by
 unfold dZ;split
 ·exact Nat.mod_lt _ aA
 ·exact yS hx hf hs k
theorem cI {xs:List Nat} {k:Nat} (h:k<xs.length) (v:Nat):val (xs.set k v)+B^k*xs.getD k 0=val xs+B^k*v:=by
 induction xs generalizing k with
 | nil=>simp at h
 | cons x xs ih=>
  cases k with
  | zero=>simp[val];omega
  | succ k=>
   have h':k<xs.length:=by simpa using h
   have:=ih h'
   simp only[List.set_cons_succ,val,List.getD_cons_succ,Nat.pow_succ]
   rw[Nat.mul_comm (B^k) B,Nat.mul_assoc,Nat.mul_assoc]
   have e:B*val (xs.set k v)+B*(B^k*xs.getD k 0)=B*val xs+B*(B^k*v):=by rw[←Nat.mul_add,←Nat.mul_add,this]
   omega
theorem Fit.set {xs:List Nat} (h:Fit xs) (k:Nat) {v:Nat} (hv:v<B):Fit (xs.set k v):=by
 intro y hy
 rcases List.mem_or_eq_of_mem_set hy with hy|rfl
 ·exact h y hy
 ·exact hv
theorem Fit.gE (n:Nat):Fit (List.replicate n 0):=by
 intro x hx;rw[(List.mem_replicate.1 hx).2];exact aA
theorem getD_set_ne {xs:List Nat} {k i v:Nat} (h:k≠i):(xs.set k v).getD i 0=xs.getD i 0:=by
 simp[List.getD_eq_getElem?_getD,h]
def mr (p:List Nat) (i x:Nat) (ys:List Nat):Nat→List Nat × Nat
 | 0=>(p,0)
 | j+1=>
  let q:=mr p i x ys j
  (q.1.set (i+j) ((x*ys.getD j 0+q.1.getD (i+j) 0+q.2)%B),(x*ys.getD j 0+q.1.getD (i+j) 0+q.2)/B)
theorem eG (p:List Nat) (i x:Nat) (ys:List Nat) (j:Nat):(mr p i x ys j).1.length=p.length:=by
 induction j with
 | zero=>rfl
 | succ j ih=>simp[mr,ih]
theorem jN {x y p c:Nat} (hx:x<B) (hy:y<B) (hp:p<B) (hc:c<B):(x*y+p+c)/B<B:=by
 rw[Nat.div_lt_iff_lt_mul aA]
 have h1:x*y≤(B-1)*(B-1):=Nat.mul_le_mul (by omega) (by omega)
 have h2:(B-1)*(B-1)+(B-1)+(B-1)<B*B:=by unfold B;omega
 omega
theorem nh {p:List Nat} {i x:Nat} {ys:List Nat} (hp:Fit p) (hx:x<B) (hy:Fit ys) (j:Nat):Fit (mr p i x ys j).1∧(mr p i x ys j).2<B:=by
 induction j with
 | zero=>exact⟨hp,aA⟩
 | succ j ih=>exact⟨ih.1.set _ (Nat.mod_lt _ aA),jN hx (hy.get j) (ih.1.get _) ih.2⟩
theorem hI {p:List Nat} {i x:Nat} {ys:List Nat} (j t:Nat) (h:i+j≤t):(mr p i x ys j).1.getD t 0=p.getD t 0:=by
 induction j with
 | zero=>rfl
 | succ j ih=>simp only[mr];rw[getD_set_ne (by omega),ih (by omega)]
theorem xx {p:List Nat} {i x:Nat} {ys:List Nat} (j:Nat) (h:i+j≤p.length) :
  val (mr p i x ys j).1+B^(i+j)*(mr p i x ys j).2=val p+B^i*(x*val (ys.take j)):=by
 induction j with
 | zero=>simp[mr,val]
 | succ j ih=>
  have ih:=ih (by omega)
  simp only[mr]
  generalize hq:mr p i x ys j=q at *
  have hl:q.1.length=p.length:=by rw[←hq];exact eG _ _ _ _ _
  have hs:=cI (xs:=q.1) (k:=i+j) (by omega) ((x*ys.getD j 0+q.1.getD (i+j) 0+q.2)%B)
  have hm:=Nat.mod_add_div (x*ys.getD j 0+q.1.getD (i+j) 0+q.2) B
  rw[aB,show i+(j+1)=(i+j)+1 from rfl,Nat.pow_succ,Nat.mul_assoc]
  have e:B^(i+j)*((x*ys.getD j 0+q.1.getD (i+j) 0+q.2)%B)+B^(i+j)*(B*((x*ys.getD j 0+q.1.getD (i+j) 0+q.2)/B)) =
    B^(i+j)*(x*ys.getD j 0)+B^(i+j)*q.1.getD (i+j) 0+B^(i+j)*q.2:=by
   rw[←Nat.mul_add,hm,Nat.mul_add,Nat.mul_add]
  have e2:B^i*(x*(val (ys.take j)+B^j*ys.getD j 0))=B^i*(x*val (ys.take j))+B^(i+j)*(x*ys.getD j 0):=by
   rw[Nat.mul_add,Nat.mul_add,Nat.pow_add,Nat.mul_left_comm x,Nat.mul_assoc]
  rw[e2];omega
def mo (xs ys:List Nat):Nat→List Nat
 | 0=>List.replicate (xs.length+ys.length) 0
 | i+1=>let q:=mr (mo xs ys i) i (xs.getD i 0) ys ys.length;q.1.set (i+ys.length) q.2
theorem hE (xs ys:List Nat) (i:Nat):(mo xs ys i).length=xs.length+ys.length:=by
 induction i with
 | zero=>simp[mo]
 | succ i ih=>simp[mo,eG,ih]
theorem pS {xs ys:List Nat} (hx:Fit xs) (hy:Fit ys) (i:Nat):Fit (mo xs ys i):=by
 induction i with
 | zero=>exact Fit.gE _
 | succ i ih=>have:=nh (i:=i) ih (hx.get i) hy ys.length;exact this.1.set _ this.2
theorem oM {xs ys:List Nat} (i t:Nat) (h:i+ys.length≤t):(mo xs ys i).getD t 0=0:=by
 induction i with
 | zero=>simp only[mo];by_cases ht:t<xs.length+ys.length<;>simp[List.getD_eq_getElem?_getD,ht]
 | succ i ih=>simp only[mo];rw[getD_set_ne (by omega),hI _ _ (by omega),ih (by omega)]
theorem xw (xs ys:List Nat) (i:Nat) (h:i≤xs.length):val (mo xs ys i)=val (xs.take i)*val ys:=by
 induction i with
 | zero=>simp[mo,dY,val]
 | succ i ih=>
  have ih:=ih (by omega)
  simp only[mo]
  have hl:=hE xs ys i
  have hv:=xx (p:=mo xs ys i) (i:=i) (x:=xs.getD i 0) (ys:=ys) ys.length (by omega)
  have hz:(mr (mo xs ys i) i (xs.getD i 0) ys ys.length).1.getD (i+ys.length) 0=0:=by
   rw[hI _ _ (K6 _),oM _ _ (K6 _)]
  generalize hq:mr (mo xs ys i) i (xs.getD i 0) ys ys.length=q at *
  have hql:q.1.length=xs.length+ys.length:=by rw[←hq,eG,hl]
  have hs:=cI (xs:=q.1) (k:=i+ys.length) (by omega) q.2
  rw[hz] at hs
  rw[aR (K6 _)] at hv
  rw[aB,Nat.add_mul,Nat.mul_assoc]
  omega
theorem xv (xs ys:List Nat):val (mo xs ys xs.length)=val xs*val ys:=by
 rw[xw _ _ _ (K6 _),aR (K6 _)]
theorem AT {x y p c h l o1 o2 l1 l2:Nat} (h1:x*y=h*B+l) (h2:l+p=l1+B*o1) (h3:l1+c=l2+B*o2) (hl:l2<B) :
  (x*y+p+c)%B=l2∧(x*y+p+c)/B=h+o1+o2:=by
 have e:x*y+p+c=l2+B*(h+o1+o2):=by rw[h1,Nat.mul_comm h B,Nat.mul_add,Nat.mul_add];omega
 rw[e]
 constructor
 ·rw[Nat.add_mul_mod_self_left,Nat.mod_eq_of_lt hl]
 ·rw[Nat.add_mul_div_left _ _ aA,Nat.div_eq_of_lt hl,Nat.zero_add]
theorem jn {xs ys:List Nat} (hx:Fit xs) (hl:xs.length=ys.length) {i:Nat} (hi:i<xs.length)
  (he:∀ t,i<t→t<xs.length→xs.getD t 0=ys.getD t 0) (h:xs.getD i 0<ys.getD i 0):val xs<val ys:=by
 have ex:xs=xs.take (i+1)++xs.drop (i+1):=(List.take_append_drop _ _).symm
 have ey:ys=ys.take (i+1)++ys.drop (i+1):=(List.take_append_drop _ _).symm
 have ed:xs.drop (i+1)=ys.drop (i+1):=by
  apply List.ext_getElem
  ·simp[hl]
  ·intro t h1 h2
   rw[List.length_drop] at h1 h2
   rw[List.getElem_drop,List.getElem_drop,←bf (by omega),←bf (by omega)]
   exact he _ (by omega) (by omega)
 rw[ex,ey,bE,bE,ed,aB,aB,List.length_take,List.length_take,hl]
 have h1:=dn (hx.take i)
 rw[List.length_take,Nat.min_eq_left (by omega)] at h1
 have h2:B^i*xs.getD i 0+B^i≤B^i*ys.getD i 0:=by
  have:B^i*(xs.getD i 0+1)≤B^i*ys.getD i 0:=Nat.mul_le_mul_left _ h
  rwa [Nat.mul_add,Nat.mul_one] at this
 omega
theorem lF {m n:Nat} (h:size m<size n):m<n:=by
 have h1:=lt_size m
 have h2:=dO h
 omega
theorem fL {A c v1 v0 b q r:Nat} (he:q*v1+r=A) (hv:0<v1*b+v0)
  (h:r*b+c<q*v0):(A*b+c)/(v1*b+v0)≤q-1∧0<q:=by
 have hq0:0<q:=by
  rcases Nat.eq_zero_or_pos q with h0|h0
  ·subst h0;simp at h
  ·exact h0
 refine ⟨?_,hq0⟩
 have hlt:(A*b+c)/(v1*b+v0)<q:=by
  rw[Nat.div_lt_iff_lt_mul hv]
  have e:q*(v1*b+v0)=q*v1*b+q*v0:=by rw[Nat.mul_add,Nat.mul_assoc]
  have e2:A*b=q*v1*b+r*b:=by rw[←he,Nat.add_mul]
  omega
 omega
theorem iG {A c v1 v0 b q r:Nat} (he:q*v1+r=A) (hv:0<v1*b+v0) (h:q*v0≤r*b+c):q≤(A*b+c)/(v1*b+v0):=by
 rw[Nat.le_div_iff_mul_le hv]
 have e:q*(v1*b+v0)=q*v1*b+q*v0:=by rw[Nat.mul_add,Nat.mul_assoc]
 have e2:A*b=q*v1*b+r*b:=by rw[←he,Nat.add_mul]
 omega
theorem fa {A c v1 v0 b:Nat} (hv1:0<v1) (hc:c<b):(A*b+c)/(v1*b+v0)≤A/v1:=by
 have hb:0<b:=by omega
 have hv:0<v1*b+v0:=by have:=Nat.mul_pos hv1 hb;omega
 have h1:=Nat.div_mul_le_self (A*b+c) (v1*b+v0)
 rw[Nat.le_div_iff_mul_le hv1]
 generalize hQ:(A*b+c)/(v1*b+v0)=Q at *
 have h2:Q*v1*b≤A*b+c:=by
  have e:Q*(v1*b+v0)=Q*v1*b+Q*v0:=by rw[Nat.mul_add,Nat.mul_assoc]
  omega
 have h3:Q*v1*b<(A+1)*b:=by rw[Nat.add_mul];omega
 have h4:Q*v1<A+1:=Nat.lt_of_mul_lt_mul_right h3
 omega
theorem kK {T D s u v P:Nat} (hP:0<P) (hs:s<P) (hD:0<D) (hu:u=T*P+s) (hv:D*P≤v):u/v≤T/D:=by
 have hv0:0<v:=Nat.lt_of_lt_of_le (Nat.mul_pos hD hP) hv
 have h1:=Nat.div_mul_le_self u v
 rw[Nat.le_div_iff_mul_le hD]
 generalize u/v=Q at *
 have h2:Q*(D*P)≤Q*v:=Nat.mul_le_mul_left _ hv
 have h3:Q*D*P<(T+1)*P:=by rw[Nat.add_mul,Nat.mul_assoc];omega
 have h4:Q*D<T+1:=Nat.lt_of_mul_lt_mul_right h3
 omega
def ds (d:Nat):List Nat→List Nat × Nat
 | []=>([],0)
 | x::xs=>(((ds d xs).2*B+x)/d::(ds d xs).1,((ds d xs).2*B+x)%d)
theorem jL (d:Nat) (xs:List Nat):(ds d xs).1.length=xs.length:=by
 induction xs with
 | nil=>rfl
 | cons x xs ih=>simp[ds,ih]
theorem gi {d:Nat} (hd:0<d) (xs:List Nat):val xs=val (ds d xs).1*d+(ds d xs).2∧(ds d xs).2<d:=by
 induction xs with
 | nil=>exact⟨by simp[ds,val],hd⟩
 | cons x xs ih=>
  refine ⟨?_,Nat.mod_lt _ hd⟩
  have hm:=Nat.mod_add_div ((ds d xs).2*B+x) d
  simp only[ds,val]
  rw[ih.1,Nat.mul_add,Nat.add_mul,Nat.mul_comm (((ds d xs).2*B+x)/d) d,←Nat.mul_assoc,Nat.mul_comm B (ds d xs).2]
  omega
theorem sT {d:Nat} (hd:0<d) {xs:List Nat} (h:Fit xs):Fit (ds d xs).1:=by
 induction xs with
 | nil=>exact Fit.nil
 | cons x xs ih=>
  refine Fit.cons ?_ (ih h.tail)
  have hr:=(gi hd xs).2
  have hx:=h.head
  rw[Nat.div_lt_iff_lt_mul hd]
  have:(ds d xs).2*B+B≤d*B:=by
   have:=Nat.mul_le_mul_right B (Nat.succ_le_of_lt hr)
   rwa [Nat.succ_mul] at this
  rw[Nat.mul_comm B d]
  omega
theorem oI (d:Nat) {xs:List Nat} {i:Nat} (h:i<xs.length) :
  ds d (xs.drop i)=(((ds d (xs.drop (i+1))).2*B+xs.getD i 0)/d::(ds d (xs.drop (i+1))).1,((ds d (xs.drop (i+1))).2*B+xs.getD i 0)%d):=by
 have e:xs.drop i=xs.getD i 0::xs.drop (i+1):=by rw[bf h];exact (List.drop_eq_getElem_cons h)
 rw[e];rfl
theorem jW (i:Nat) (qs:List Nat) (v:Nat):(List.replicate (i+1) 0++qs).set i v=List.replicate i 0++v::qs:=by
 rw[List.replicate_succ',List.append_assoc,List.set_append_right _ _ (by simp)]
 simp
theorem sS {d:Nat} (hd:0<d) (xs:List Nat):val (ds d xs).1=val xs/d∧(ds d xs).2=val xs%d:=by
 obtain⟨h1,h2⟩:=gi hd xs
 rw[Nat.mul_comm] at h1
 constructor
 ·rw[h1,Nat.mul_add_div hd,Nat.div_eq_of_lt h2,Nat.add_zero]
 ·rw[h1,Nat.mul_add_mod,Nat.mod_eq_of_lt h2]
def ms (u:List Nat) (j:Nat) (v:List Nat) (d:Nat):Nat→List Nat × Nat × Nat
 | 0=>(u,0,0)
 | k+1=>
  let s:=ms u j v d k
  let t:=d*v.getD k 0+s.2.1
  (s.1.set (j+k) (if s.1.getD (j+k) 0<t%B+s.2.2 then s.1.getD (j+k) 0+B-(t%B+s.2.2) else s.1.getD (j+k) 0-(t%B+s.2.2)),
   t/B,if s.1.getD (j+k) 0<t%B+s.2.2 then 1 else 0)
theorem dT (u:List Nat) (j:Nat) (v:List Nat) (d k:Nat):(ms u j v d k).1.length=u.length:=by
 induction k with
 | zero=>rfl
 | succ k ih=>simp[ms,ih]
theorem jy {u:List Nat} {j:Nat} {v:List Nat} {d:Nat} (hu:Fit u) (hv:Fit v) (hd:d<B) (k:Nat) :
  Fit (ms u j v d k).1∧(ms u j v d k).2.1<B∧(ms u j v d k).2.2≤1:=by
 induction k with
 | zero=>exact⟨hu,aA,Nat.zero_le _⟩
 | succ k ih=>
  obtain⟨h1,h2,h3⟩:=ih
  simp only[ms]
  generalize ms u j v d k=s at *
  have hx:=h1.get (j+k)
  have hm:(d*v.getD k 0+s.2.1)%B<B:=Nat.mod_lt _ aA
  refine ⟨h1.set _ ?_,lV hd (hv.get k) h2,by split<;>omega⟩
  split<;>omega
theorem ni (u:List Nat) (j:Nat) (v:List Nat) (d k:Nat):(ms u j v d k).2.2≤1:=by
 cases k with
 | zero=>exact Nat.zero_le _
 | succ k=>simp only[ms];split<;>omega
theorem xy {u:List Nat} {j:Nat} {v:List Nat} {d:Nat} (k:Nat) (h:j+k≤u.length) :
  val (ms u j v d k).1+B^j*(d*val (v.take k))=val u+B^(j+k)*((ms u j v d k).2.1+(ms u j v d k).2.2):=by
 induction k with
 | zero=>simp[ms,val]
 | succ k ih=>
  have ih:=ih (by omega)
  simp only[ms]
  have hl:=dT u j v d k
  have hb:=ni u j v d k
  generalize ms u j v d k=s at *
  have hm:=Nat.mod_add_div (d*v.getD k 0+s.2.1) B
  generalize ht:d*v.getD k 0+s.2.1=t at *
  rw[aB,show j+(k+1)=(j+k)+1 from rfl,Nat.pow_succ]
  have e2:B^j*(d*(val (v.take k)+B^k*v.getD k 0))=B^j*(d*val (v.take k))+B^(j+k)*(d*v.getD k 0):=by
   rw[Nat.mul_add,Nat.mul_add,Nat.pow_add,Nat.mul_left_comm d,Nat.mul_assoc]
  rw[e2]
  have e3:B^(j+k)*(d*v.getD k 0)+B^(j+k)*s.2.1=B^(j+k)*(t%B)+B^(j+k)*B*(t/B):=by
   rw[←Nat.mul_add,ht,Nat.mul_assoc,←Nat.mul_add,hm]
  split
  ·rename_i hlt
   have hs:=cI (xs:=s.1) (k:=j+k) (by omega) (s.1.getD (j+k) 0+B-(t%B+s.2.2))
   have e4:B^(j+k)*(s.1.getD (j+k) 0+B-(t%B+s.2.2))+B^(j+k)*(t%B)+B^(j+k)*s.2.2=B^(j+k)*s.1.getD (j+k) 0+B^(j+k)*B:=by
    have:t%B<B:=Nat.mod_lt _ aA
    rw[←Nat.mul_add,←Nat.mul_add,←Nat.mul_add];congr 1;omega
   have e6:=Nat.mul_add (B^(j+k)) s.2.1 s.2.2
   have e7:=Nat.mul_add (B^(j+k)*B) (t/B) 1
   rw[Nat.mul_one] at e7
   omega
  ·rename_i hlt
   have hs:=cI (xs:=s.1) (k:=j+k) (by omega) (s.1.getD (j+k) 0-(t%B+s.2.2))
   have e4:B^(j+k)*(s.1.getD (j+k) 0-(t%B+s.2.2))+B^(j+k)*(t%B)+B^(j+k)*s.2.2=B^(j+k)*s.1.getD (j+k) 0:=by
    rw[←Nat.mul_add,←Nat.mul_add];congr 1;omega
   have e6:=Nat.mul_add (B^(j+k)) s.2.1 s.2.2
   rw[Nat.add_zero]
   omega
theorem De {q v1 r A Q b c v0:Nat} (he:q*v1+r=A) (hQ:Q≤q) (hb:Q<b) (hQd:Q=(A*b+c)/(v1*b+v0)) (hv:0<v1*b+v0) (h:b≤q∨r*b+c<q*v0) :
  (q-1)*v1+(r+v1)=A∧Q≤q-1∧0<q:=by
 have hq:Q≤q-1∧0<q:=by
  rcases h with h|h
  ·exact⟨by omega,by omega⟩
  ·have:=fL he hv h
   rw[←hQd] at this
   exact this
 obtain⟨p,rfl⟩:∃ p,q=p+1:=⟨q-1,by omega⟩
 refine ⟨?_,hq⟩
 rw[Nat.add_sub_cancel,←he,Nat.add_mul];omega
theorem uR {q v1 r A Q b c v0:Nat} (he:q*v1+r=A) (hQ:Q≤q) (hQd:Q=(A*b+c)/(v1*b+v0)) (hv:0<v1*b+v0) (h:q*v0≤r*b+c):q=Q:=by
 have:=iG (c:=c) he hv h
 rw[←hQd] at this
 omega
theorem AE {q v1 r A Q b c v0:Nat} (he:q*v1+r=A) (hQ:Q≤q) (hQd:Q=(A*b+c)/(v1*b+v0)) (hv:0<v1*b+v0) (hv0:v0<b) (hA:A<v1*b+v0) (hr:b≤r):q=Q:=by
 refine uR he hQ hQd hv ?_
 have hq:q<b:=by
  rcases Nat.lt_or_ge q b with h|h
  ·exact h
  ·have h1:=Nat.mul_le_mul_right v1 h
   rw[Nat.mul_comm b v1] at h1
   omega
 have h1:q*v0≤b*b:=Nat.mul_le_mul (by omega) (by omega)
 have h2:b*b≤r*b:=Nat.mul_le_mul_right b hr
 omega
theorem pn {A c b Y:Nat} (hA:A<Y) (hc:c<b):(A*b+c)/Y<b:=by
 rw[Nat.div_lt_iff_lt_mul (by omega)]
 have:A*b+b≤b*Y:=by
  have:=Nat.mul_le_mul_left b (Nat.succ_le_of_lt hA)
  rw[Nat.mul_succ,Nat.mul_comm b A] at this;exact this
 omega
theorem yg {U c0 c1 b Y:Nat} (hY:0<Y) :
  ((U*b+c1)*b+c0)/Y=(U*b+c1)/Y*b+((U*b+c1)%Y*b+c0)/Y∧((U*b+c1)*b+c0)%Y=((U*b+c1)%Y*b+c0)%Y:=by
 have h:=Nat.div_add_mod (U*b+c1) Y
 generalize (U*b+c1)/Y=Q at *
 generalize (U*b+c1)%Y=R at *
 have e:(U*b+c1)*b+c0=(R*b+c0)+Y*(Q*b):=by rw[←h,Nat.add_mul,Nat.mul_assoc];omega
 rw[e]
 constructor
 ·rw[Nat.add_mul_div_left _ _ hY];omega
 ·rw[Nat.add_mul_mod_self_left]
theorem kG {n y s:Nat}:n*2^s/(y*2^s)=n/y∧n*2^s%(y*2^s)/2^s=n%y:=by
 have hp:0<2^s:=Nat.pos_of_ne_zero (by simp)
 constructor
 ·exact Nat.mul_div_mul_right _ _ hp
 ·rw[Nat.mul_mod_mul_right,Nat.mul_div_cancel _ hp]
theorem tO {hi lo s:Nat} (hs:s≤64) (hlo:lo<B):(hi*B+lo)*2^s=(hi*2^s+lo/2^(64-s))*B+lo*2^s%B∧lo/2^(64-s)<2^s:=by
 have hB:B=2^(64-s)*2^s:=by rw[←Nat.pow_add,show 64-s+s=64 by omega];rfl
 have hp:0<2^(64-s):=Nat.pos_of_ne_zero (by simp)
 have h1:=Nat.div_add_mod lo (2^(64-s))
 have h2:lo*2^s%B=lo%2^(64-s)*2^s:=by rw[hB,Nat.mul_mod_mul_right]
 constructor
 ·rw[h2,Nat.add_mul,Nat.add_mul,Nat.add_assoc]
  congr 1
  ·rw[Nat.mul_right_comm]
  ·conv=>lhs;rw[←h1]
   rw[Nat.add_mul,hB,Nat.mul_comm (2^(64-s)) (lo/2^(64-s)),Nat.mul_assoc]
 ·rw[Nat.div_lt_iff_lt_mul hp,Nat.mul_comm,←hB];exact hlo
theorem gB {a b s:Nat} (hb:b<2^s):a*2^s ||| b=a*2^s+b:=by
 rw[Nat.mul_comm,←Nat.two_pow_add_eq_or_of_lt hb]
theorem dj {q v1 r A Q b c v0:Int} (q0:0≤q) (v10:0≤v1) (r0:0≤r) (Q0:0≤Q) (b0:0≤b) (c0:0≤c) (v00:0≤v0)
  (he:q*v1+r=A) (hQ:Q≤q) (hb:Q<b) (hQd:Q=(A*b+c)/(v1*b+v0)) (hv:0<v1*b+v0) (h:b≤q∨r*b+c<q*v0) :
  (q-1)*v1+(r+v1)=A∧Q≤q-1∧1≤q:=by
 have hA:0≤A:=by rw[←he];exact Int.add_nonneg (Int.mul_nonneg q0 v10) r0
 obtain⟨q,rfl⟩:=Int.eq_ofNat_of_zero_le q0
 obtain⟨v1,rfl⟩:=Int.eq_ofNat_of_zero_le v10
 obtain⟨r,rfl⟩:=Int.eq_ofNat_of_zero_le r0
 obtain⟨Q,rfl⟩:=Int.eq_ofNat_of_zero_le Q0
 obtain⟨b,rfl⟩:=Int.eq_ofNat_of_zero_le b0
 obtain⟨c,rfl⟩:=Int.eq_ofNat_of_zero_le c0
 obtain⟨v0,rfl⟩:=Int.eq_ofNat_of_zero_le v00
 obtain⟨A,rfl⟩:=Int.eq_ofNat_of_zero_le hA
 have hst:=De (q:=q) (v1:=v1) (r:=r) (A:=A) (Q:=Q) (b:=b) (c:=c) (v0:=v0) (by exact_mod_cast he) (by exact_mod_cast hQ) (by exact_mod_cast hb) (by exact_mod_cast hQd) (by exact_mod_cast hv) (by exact_mod_cast h)
 refine ⟨?_,by omega,by omega⟩
 rw[Int.sub_mul,←he];omega
theorem iH {q v1 r A Q b c v0:Int} (q0:0≤q) (v10:0≤v1) (r0:0≤r) (Q0:0≤Q) (b0:0≤b) (c0:0≤c) (v00:0≤v0)
  (he:q*v1+r=A) (hQ:Q≤q) (hQd:Q=(A*b+c)/(v1*b+v0)) (hv:0<v1*b+v0) (h:q*v0≤r*b+c):q=Q:=by
 have hA:0≤A:=by rw[←he];exact Int.add_nonneg (Int.mul_nonneg q0 v10) r0
 obtain⟨q,rfl⟩:=Int.eq_ofNat_of_zero_le q0
 obtain⟨v1,rfl⟩:=Int.eq_ofNat_of_zero_le v10
 obtain⟨r,rfl⟩:=Int.eq_ofNat_of_zero_le r0
 obtain⟨Q,rfl⟩:=Int.eq_ofNat_of_zero_le Q0
 obtain⟨b,rfl⟩:=Int.eq_ofNat_of_zero_le b0
 obtain⟨c,rfl⟩:=Int.eq_ofNat_of_zero_le c0
 obtain⟨v0,rfl⟩:=Int.eq_ofNat_of_zero_le v00
 obtain⟨A,rfl⟩:=Int.eq_ofNat_of_zero_le hA
 have hst:=uR (q:=q) (v1:=v1) (r:=r) (A:=A) (Q:=Q) (b:=b) (c:=c) (v0:=v0) (by exact_mod_cast he) (by exact_mod_cast hQ) (by exact_mod_cast hQd) (by exact_mod_cast hv) (by exact_mod_cast h)
 exact_mod_cast hst
theorem cM {q v1 r A Q b c v0:Int} (q0:0≤q) (v10:0≤v1) (r0:0≤r) (Q0:0≤Q) (b0:0≤b) (c0:0≤c) (v00:0≤v0)
  (he:q*v1+r=A) (hQ:Q≤q) (hQd:Q=(A*b+c)/(v1*b+v0)) (hv:0<v1*b+v0) (hv0:v0<b) (hA':A<v1*b+v0) (hr:b≤r):q=Q:=by
 have hA:0≤A:=by rw[←he];exact Int.add_nonneg (Int.mul_nonneg q0 v10) r0
 obtain⟨q,rfl⟩:=Int.eq_ofNat_of_zero_le q0
 obtain⟨v1,rfl⟩:=Int.eq_ofNat_of_zero_le v10
 obtain⟨r,rfl⟩:=Int.eq_ofNat_of_zero_le r0
 obtain⟨Q,rfl⟩:=Int.eq_ofNat_of_zero_le Q0
 obtain⟨b,rfl⟩:=Int.eq_ofNat_of_zero_le b0
 obtain⟨c,rfl⟩:=Int.eq_ofNat_of_zero_le c0
 obtain⟨v0,rfl⟩:=Int.eq_ofNat_of_zero_le v00
 obtain⟨A,rfl⟩:=Int.eq_ofNat_of_zero_le hA
 have hst:=AE (q:=q) (v1:=v1) (r:=r) (A:=A) (Q:=Q) (b:=b) (c:=c) (v0:=v0) (by exact_mod_cast he) (by exact_mod_cast hQ) (by exact_mod_cast hQd) (by exact_mod_cast hv) (by exact_mod_cast hv0) (by exact_mod_cast hA') (by exact_mod_cast hr)
 exact_mod_cast hst
def sl (xs:List Nat) (f k:Nat):List Nat:=(List.range (xs.length+1)).map fun i=>if i<k then dZ xs f 0 xs.length i else if i=k then mulC xs f 0 k else 0
theorem nB (xs:List Nat) (f k:Nat):(sl xs f k).length=xs.length+1:=by simp[sl]
theorem Hy (xs:List Nat) (f:Nat):sl xs f 0=List.replicate (xs.length+1) 0:=by
 apply List.ext_getElem
 ·simp[sl]
 ·intro i h1 h2
  simp only[sl,List.getElem_map,List.getElem_range,List.getElem_replicate,mulC]
  split
  ·omega
  ·split<;>rfl
theorem Ka {xs:List Nat} {f k:Nat} (h:k<xs.length+1):(sl xs f k).getD k 0=mulC xs f 0 k:=by
 rw[bf (by rw[nB];exact h)];simp[sl]
theorem Hw {xs:List Nat} {f k:Nat}:((sl xs f k).set k (dZ xs f 0 xs.length k)).set (k+1) (mulC xs f 0 (k+1))=sl xs f (k+1):=by
 apply List.ext_getElem
 ·simp[sl]
 ·intro i h1 h2
  simp only[sl,List.getElem_set,List.getElem_map,List.getElem_range]
  by_cases e1:k+1=i
  ·subst e1;simp
  ·by_cases e2:k=i
   ·subst e2;simp
   ·rw[if_neg e1,if_neg e2]
    by_cases h3:i<k
    ·rw[if_pos h3,if_pos (by omega)]
    ·rw[if_neg h3,if_neg (by omega),if_neg (by omega),if_neg (by omega)]
theorem zr (xs:List Nat) (f:Nat):sl xs f xs.length=fill (dZ xs f 0 xs.length) (xs.length+1) (xs.length+1):=by
 apply List.ext_getElem
 ·simp[sl,fill]
 ·intro i h1 h2
  rw[nB] at h1
  simp only[sl,fill,List.getElem_map,List.getElem_range]
  rw[if_pos h1]
  by_cases h3:i<xs.length
  ·rw[if_pos h3]
  ·have:i=xs.length:=by omega
   rw[if_neg h3,if_pos this];subst this;simp[dZ]
theorem kP {xs:List Nat} {f:Nat} (hx:Fit xs) (hf:0<f) (k:Nat):mulC xs f 0 k<f:=by
 induction k with
 | zero=>exact hf
 | succ k ih=>
  simp only[mulC]
  rw[Nat.div_lt_iff_lt_mul aA]
  have h1:=hx.get k
  have:xs.getD k 0*f+f≤B*f:=by
   have:=Nat.mul_le_mul_right f (Nat.succ_le_of_lt h1)
   rw[Nat.succ_mul] at this;exact this
  rw[Nat.mul_comm f B];omega
theorem xz {xs:List Nat} {s:Nat} (hx:Fit xs) (hs:s≤64) (k:Nat):mulC xs (2^s) 0 (k+1)=xs.getD k 0/2^(64-s):=by
 have hp:0<2^s:=Nat.pos_of_ne_zero (by simp)
 have hc:=kP (f:=2^s) hx hp k
 have hB:B=2^(64-s)*2^s:=by rw[←Nat.pow_add,show 64-s+s=64 by omega];rfl
 simp only[mulC]
 rw[hB,Nat.mul_comm (2^(64-s)),←Nat.div_div_eq_div_mul]
 congr 1
 rw[Nat.mul_comm,Nat.mul_add_div hp,Nat.div_eq_of_lt hc,Nat.add_zero]
theorem xA {xs:List Nat} {s k:Nat} (hx:Fit xs) (hs:s≤64) (hk:k<xs.length):mulC xs (2^s) 0 k ||| xs.getD k 0*2^s%B=dZ xs (2^s) 0 xs.length k:=by
 have hp:0<2^s:=Nat.pos_of_ne_zero (by simp)
 have hc:=kP (f:=2^s) hx hp k
 have hB:B=2^(64-s)*2^s:=by rw[←Nat.pow_add,show 64-s+s=64 by omega];rfl
 have hm:xs.getD k 0*2^s%B=xs.getD k 0%2^(64-s)*2^s:=by rw[hB,Nat.mul_mod_mul_right]
 rw[hm,Nat.or_comm,gB hc]
 simp only[dZ,if_pos hk]
 have hlt:xs.getD k 0%2^(64-s)*2^s+mulC xs (2^s) 0 k<B:=by
  have h1:xs.getD k 0%2^(64-s)<2^(64-s):=Nat.mod_lt _ (Nat.pos_of_ne_zero (by simp))
  have h2:=Nat.mul_le_mul_right (2^s) (Nat.succ_le_of_lt h1)
  rw[Nat.succ_mul,←hB] at h2
  omega
 have h3:=Nat.div_add_mod (xs.getD k 0) (2^(64-s))
 have e:xs.getD k 0*2^s+mulC xs (2^s) 0 k=(xs.getD k 0%2^(64-s)*2^s+mulC xs (2^s) 0 k)+B*(xs.getD k 0/2^(64-s)):=by
  conv=>lhs;rw[←h3]
  rw[Nat.add_mul,hB,Nat.mul_right_comm];omega
 rw[e,Nat.add_mul_mod_self_left,Nat.mod_eq_of_lt hlt]
theorem wz (n:Nat) (xs:List Nat):val (List.replicate n 0++xs)=B^n*val xs:=by
 rw[bE,dY,List.length_replicate,Nat.zero_add]
theorem AZ (n s:Nat):B^n*2^s=2^(64*n+s):=by
 rw[Nat.pow_add,Nat.pow_mul];rfl
theorem qF (n k v:Nat) (xs:List Nat):(List.replicate n 0++xs).set (k+n) v=List.replicate n 0++xs.set k v:=by
 rw[List.set_append_right _ _ (by simp)];simp
theorem xk (n k:Nat) (xs:List Nat):(List.replicate n 0++xs).getD (k+n) 0=xs.getD k 0:=by
 simp[List.getD_eq_getElem?_getD,List.getElem?_append_right]
def srD (xs:List Nat) (s i:Nat):Nat:=xs.getD i 0/2^s+xs.getD (i+1) 0%2^s*2^(64-s)
def sr (xs:List Nat) (s k:Nat):List Nat:=(List.range xs.length).map fun i=>if i+1<k then srD xs s i else if i+1=k then xs.getD i 0/2^s else 0
theorem nD (xs:List Nat) (s k:Nat):(sr xs s k).length=xs.length:=by simp[sr]
theorem Ic (xs:List Nat) (s:Nat):sr xs s 0=List.replicate xs.length 0:=by
 apply List.ext_getElem
 ·simp[sr]
 ·intro i h1 h2;simp[sr]
theorem Kc {xs:List Nat} {s k:Nat} (h:k<xs.length):(sr xs s (k+1)).getD k 0=xs.getD k 0/2^s:=by
 rw[bf (by rw[nD];exact h)];simp[sr]
theorem yd {xs:List Nat} {s k v:Nat} (h:k+1<xs.length):((sr xs s (k+1)).set (k+1) v).getD k 0=xs.getD k 0/2^s:=by
 rw[getD_set_ne (by omega),Kc (by omega)]
theorem EH {xs:List Nat} {s:Nat}:(sr xs s 0).set 0 (xs.getD 0 0/2^s)=sr xs s 1:=by
 apply List.ext_getElem
 ·simp[sr]
 ·intro i h1 h2
  simp only[sr,List.getElem_set,List.getElem_map,List.getElem_range]
  by_cases e:0=i
  ·subst e;simp
  ·simp[e];omega
theorem Ib {xs:List Nat} {s k:Nat}:((sr xs s (k+1)).set (k+1) (xs.getD (k+1) 0/2^s)).set k (srD xs s k)=sr xs s (k+2):=by
 apply List.ext_getElem
 ·simp[sr]
 ·intro i h1 h2
  simp only[sr,List.getElem_set,List.getElem_map,List.getElem_range]
  by_cases e1:k=i
  ·subst e1;simp
  ·by_cases e2:k+1=i
   ·subst e2;simp
   ·rw[if_neg e1,if_neg e2]
    by_cases h3:i+1<k+1
    ·rw[if_pos h3,if_pos (by omega)]
    ·rw[if_neg h3,if_neg (by omega),if_neg (by omega),if_neg (by omega)]
theorem zu {xs:List Nat} {s:Nat}:sr xs s xs.length=(List.range xs.length).map (srD xs s):=by
 apply List.ext_getElem
 ·simp[sr]
 ·intro i h1 h2
  rw[nD] at h1
  simp only[sr,List.getElem_map,List.getElem_range]
  by_cases h3:i+1<xs.length
  ·rw[if_pos h3]
  ·rw[if_neg h3,if_pos (by omega)]
   simp only[srD]
   rw[bD (i:=i+1) (by omega)];simp
theorem iy {s:Nat} (hs:s≤64):B=2^(64-s)*2^s:=by rw[←Nat.pow_add,show 64-s+s=64 by omega];rfl
theorem Ia {xs:List Nat} {s:Nat} (hs:s≤64) (k:Nat):2^s*val ((List.range k).map (srD xs s))+xs.getD 0 0%2^s=val (xs.take k)+B^k*(xs.getD k 0%2^s):=by
 induction k with
 | zero=>simp[val]
 | succ k ih=>
  have hB:=iy hs
  have hm:=Nat.div_add_mod (xs.getD k 0) (2^s)
  rw[bU,aB,Nat.mul_add]
  have e:2^s*(B^k*srD xs s k)=B^k*(2^s*(xs.getD k 0/2^s))+B^(k+1)*(xs.getD (k+1) 0%2^s):=by
   unfold srD
   rw[Nat.mul_left_comm,Nat.mul_add,Nat.mul_add,Nat.pow_succ,Nat.mul_assoc (B^k) B]
   congr 2
   rw[hB,Nat.mul_comm,Nat.mul_assoc,Nat.mul_comm]
  have e2:B^k*xs.getD k 0=B^k*(2^s*(xs.getD k 0/2^s))+B^k*(xs.getD k 0%2^s):=by rw[←Nat.mul_add,hm]
  omega
theorem Kd {xs:List Nat} {s:Nat} (hs:s≤64):val (sr xs s xs.length)=val xs/2^s:=by
 have h:=Ia (xs:=xs) hs xs.length
 rw[aR (K6 _),bD (K6 _),Nat.zero_mod,Nat.mul_zero,Nat.add_zero,←zu] at h
 have hp:0<2^s:=Nat.pos_of_ne_zero (by simp)
 have hl:xs.getD 0 0%2^s<2^s:=Nat.mod_lt _ hp
 rw[←h,Nat.mul_add_div hp,Nat.div_eq_of_lt hl,Nat.add_zero]
theorem Lf {xs:List Nat} {s k:Nat} (hx:Fit xs) (hs:s≤64):xs.getD k 0/2^s ||| xs.getD (k+1) 0*2^(64-s)%B=srD xs s k:=by
 have hB:=iy hs
 have h1:xs.getD (k+1) 0*2^(64-s)%B=xs.getD (k+1) 0%2^s*2^(64-s):=by
  rw[hB,Nat.mul_comm (2^(64-s)) (2^s),Nat.mul_mod_mul_right]
 have h2:xs.getD k 0/2^s<2^(64-s):=by
  rw[Nat.div_lt_iff_lt_mul (Nat.pos_of_ne_zero (by simp)),←hB];exact hx.get k
 rw[h1,Nat.or_comm,gB h2,Nat.add_comm];rfl
theorem Kb {xs:List Nat} {s k:Nat} (hx:Fit xs) (hs:s≤64):srD xs s k<B:=by
 have hB:=iy hs
 have h2:xs.getD k 0/2^s<2^(64-s):=by
  rw[Nat.div_lt_iff_lt_mul (Nat.pos_of_ne_zero (by simp)),←hB];exact hx.get k
 have h3:xs.getD (k+1) 0%2^s<2^s:=Nat.mod_lt _ (Nat.pos_of_ne_zero (by simp))
 have h4:=Nat.mul_le_mul_right (2^(64-s)) (Nat.succ_le_of_lt h3)
 rw[Nat.succ_mul,Nat.mul_comm (2^s),←hB] at h4
 unfold srD;omega
theorem bg (xs:List Nat) (i:Nat):val (xs.drop i)=xs.getD i 0+B*val (xs.drop (i+1)):=by
 by_cases h:i<xs.length
 ·rw[List.drop_eq_getElem_cons h,val,bf h]
 ·rw[List.drop_of_length_le (by omega),List.drop_of_length_le (by omega),bD (by omega)];simp[val]
theorem bX (xs:List Nat) (i:Nat) (h:i≤xs.length):val xs=val (xs.take i)+B^i*val (xs.drop i):=by
 conv=>lhs;rw[←List.take_append_drop i xs]
 rw[bE,List.length_take,Nat.min_eq_left h]
theorem bO {xs:List Nat} (hx:Fit xs) (i:Nat):val (xs.take i)<B^i:=by
 have h:=dn (hx.take i)
 refine Nat.lt_of_lt_of_le h (Nat.pow_le_pow_right aA ?_)
 rw[List.length_take];exact Nat.min_le_left _ _
theorem fR {u:List Nat} {j:Nat} {v:List Nat} {d:Nat} (k t:Nat) (h:j+k≤t):(ms u j v d k).1.getD t 0=u.getD t 0:=by
 induction k with
 | zero=>rfl
 | succ k ih=>simp only[ms];rw[getD_set_ne (by omega),ih (by omega)]
def ab (u:List Nat) (j:Nat) (v:List Nat):Nat→List Nat × Nat
 | 0=>(u,0)
 | k+1=>((ab u j v k).1.set (j+k) (((ab u j v k).1.getD (j+k) 0+v.getD k 0+(ab u j v k).2)%B),((ab u j v k).1.getD (j+k) 0+v.getD k 0+(ab u j v k).2)/B)
theorem ep (u:List Nat) (j:Nat) (v:List Nat) (k:Nat):(ab u j v k).1.length=u.length:=by
 induction k with
 | zero=>rfl
 | succ k ih=>simp[ab,ih]
theorem kz {u:List Nat} {j:Nat} {v:List Nat} (hu:Fit u) (hv:Fit v) (k:Nat):Fit (ab u j v k).1∧(ab u j v k).2≤1:=by
 induction k with
 | zero=>exact⟨hu,Nat.zero_le _⟩
 | succ k ih=>
  refine ⟨ih.1.set _ (Nat.mod_lt _ aA),?_⟩
  have h1:=ih.1.get (j+k);have h2:=hv.get k;have h3:=ih.2
  simp only[ab]
  have:((ab u j v k).1.getD (j+k) 0+v.getD k 0+(ab u j v k).2)/B<2:=by rw[Nat.div_lt_iff_lt_mul aA];omega
  omega
theorem gQ {u:List Nat} {j:Nat} {v:List Nat} (k t:Nat) (h:j+k≤t):(ab u j v k).1.getD t 0=u.getD t 0:=by
 induction k with
 | zero=>rfl
 | succ k ih=>simp only[ab];rw[getD_set_ne (by omega),ih (by omega)]
theorem wH {u:List Nat} {j:Nat} {v:List Nat} (k:Nat) (h:j+k≤u.length) :
  val (ab u j v k).1+B^(j+k)*(ab u j v k).2=val u+B^j*val (v.take k):=by
 induction k with
 | zero=>simp[ab,val]
 | succ k ih=>
  have ih:=ih (by omega)
  simp only[ab]
  have hl:=ep u j v k
  generalize ab u j v k=s at *
  have hs:=cI (xs:=s.1) (k:=j+k) (by omega) ((s.1.getD (j+k) 0+v.getD k 0+s.2)%B)
  have hm:=Nat.mod_add_div (s.1.getD (j+k) 0+v.getD k 0+s.2) B
  rw[aB,show j+(k+1)=(j+k)+1 from rfl,Nat.pow_succ,Nat.mul_assoc]
  have e:B^(j+k)*((s.1.getD (j+k) 0+v.getD k 0+s.2)%B)+B^(j+k)*(B*((s.1.getD (j+k) 0+v.getD k 0+s.2)/B))=B^(j+k)*s.1.getD (j+k) 0+B^(j+k)*v.getD k 0+B^(j+k)*s.2:=by
   rw[←Nat.mul_add,hm,Nat.mul_add,Nat.mul_add]
  have e2:B^j*(val (v.take k)+B^k*v.getD k 0)=B^j*val (v.take k)+B^(j+k)*v.getD k 0:=by
   rw[Nat.mul_add,Nat.pow_add,Nat.mul_assoc]
  rw[e2];omega
def fF (u:List Nat) (t:Nat):Prop:=∀ i,t≤i→u.getD i 0=0
theorem fF.drop {u:List Nat} {t:Nat} (h:fF u t):val (u.drop t)=0:=by
 have:∀ n t,fF u t→u.length≤t+n→val (u.drop t)=0:=by
  intro n
  induction n with
  | zero=>intro t _ hl;rw[List.drop_of_length_le (by omega)];rfl
  | succ n ih=>
   intro t h hl
   rw[bg,h t (K6 _),ih (t+1) (fun i hi=>h i (by omega)) (by omega)];simp
 exact this u.length t h (by omega)
theorem fF.lt {u:List Nat} {t:Nat} (hf:Fit u) (h:fF u t):val u<B^t:=by
 by_cases ht:t≤u.length
 ·rw[bX u t ht,h.drop,Nat.mul_zero,Nat.add_zero];exact bO hf t
 ·exact Nat.lt_of_lt_of_le (dn hf) (Nat.pow_le_pow_right aA (by omega))
theorem eE {u:List Nat} {t:Nat} (h:val u<B^t):fF u t:=by
 intro i hi
 by_cases hl:i<u.length
 ·have h1:=bX u i (by omega)
  rw[bg] at h1
  have hp:0<B^i:=Nat.pow_pos aA
  have h2:B^t≤B^i:=Nat.pow_le_pow_right aA hi
  rcases Nat.eq_zero_or_pos (u.getD i 0) with h0|h0
  ·exact h0
  ·exfalso
   have:B^i*1≤B^i*(u.getD i 0+B*val (u.drop (i+1))):=Nat.mul_le_mul_left _ (by omega)
   omega
 ·exact bD (by omega)
structure Dig (U W v : List Nat) (j n g b : Nat) : Prop where
 fit:Fit W
 len:W.length=U.length
 high:fF W (j+n+1)
 le:b≤1
 val:val W+B^j*(g*val v)=val U+B^(j+n+1)*b
def digit (U v:List Nat) (j:Nat):Nat:=val (U.drop j)/val v
theorem eu {U v:List Nat} {j g:Nat} (hU:Fit U) (hv:0<val v) (hj:j≤U.length):g≤digit U v j↔B^j*(g*val v)≤val U:=by
 unfold digit
 rw[Nat.le_div_iff_mul_le hv,bX U j hj]
 have h1:=bO hU j
 have hp:0<B^j:=Nat.pow_pos aA
 constructor
 ·intro h
  have:=Nat.mul_le_mul_left (B^j) h
  omega
 ·intro h
  have h2:B^j*(g*LimbNum.val v)<B^j*(LimbNum.val (U.drop j)+1):=by rw[Nat.mul_add,Nat.mul_one];omega
  have:=Nat.lt_of_mul_lt_mul_left h2
  omega
theorem Dig.more {U W v:List Nat} {j n g:Nat} (h:Dig U W v j n g 1) (hU:Fit U) (hv:0<LimbNum.val v) (hj:j≤U.length):digit U v j<g:=by
 rcases Nat.lt_or_ge (digit U v j) g with h1|h1
 ·exact h1
 ·exfalso
  have h2:=(eu hU hv hj).1 h1
  have h3:=h.val
  have h4:=h.high.lt h.fit
  omega
theorem Dig.done {U W v:List Nat} {j n g:Nat} (h:Dig U W v j n g 0) (hU:Fit U) (hv:0<LimbNum.val v) (hj:j≤U.length) (hg:digit U v j≤g):g=digit U v j∧LimbNum.val W<LimbNum.val v*B^j∧LimbNum.val W+LimbNum.val v*(B^j*g)=LimbNum.val U:=by
 have h3:=h.val
 rw[Nat.mul_zero,Nat.add_zero] at h3
 have hle:g≤digit U v j:=(eu hU hv hj).2 (by omega)
 have he:g=digit U v j:=by omega
 refine ⟨he,?_,by rw[←h3];congr 1;rw[Nat.mul_left_comm,Nat.mul_comm (LimbNum.val v)]⟩
 have h5:¬g+1≤digit U v j:=by omega
 rw[eu hU hv hj] at h5
 have e:B^j*((g+1)*LimbNum.val v)=B^j*(g*LimbNum.val v)+LimbNum.val v*B^j:=by rw[Nat.add_mul,Nat.mul_add,Nat.one_mul,Nat.mul_comm (LimbNum.val v)]
 omega
theorem nN {xs:List Nat} {k v:Nat} (h:k<xs.length):(xs.set k v).getD k 0=v:=by
 simp[List.getD_eq_getElem?_getD,h]
theorem mJ {U v:List Nat} {j n g:Nat} (hU:Fit U) (hv:Fit v) (hn:v.length=n) (hl:j+n<U.length) (hh:fF U (j+n+1)) (hg:g<B)
  (z:Nat) (b:Nat) (hz:z=if U.getD (j+n) 0<(ms U j v g n).2.1+(ms U j v g n).2.2 then U.getD (j+n) 0+B-((ms U j v g n).2.1+(ms U j v g n).2.2) else U.getD (j+n) 0-((ms U j v g n).2.1+(ms U j v g n).2.2))
  (hb:b=if U.getD (j+n) 0<(ms U j v g n).2.1+(ms U j v g n).2.2 then 1 else 0):Dig U ((ms U j v g n).1.set (j+n) z) v j n g b:=by
 have hm:=xy (u:=U) (j:=j) (v:=v) (d:=g) n (by omega)
 have hlen:=dT U j v g n
 have ho:=fR (u:=U) (j:=j) (v:=v) (d:=g) n (j+n) (K6 _)
 obtain⟨f1,f2,f3⟩:=jy (j:=j) hU hv hg n
 have hx:=hU.get (j+n)
 have hzlt:z<B:=by rw[hz];split<;>omega
 have hs:=cI (xs:=(ms U j v g n).1) (k:=j+n) (by omega) z
 rw[aR (by omega)] at hm
 rw[ho] at hs
 refine ⟨f1.set _ hzlt,by simp[hlen],?_,by rw[hb];split<;>omega,?_⟩
 ·intro i hi
  rw[getD_set_ne (by omega),fR _ _ (by omega),hh i hi]
 ·have key:B^(j+n)*z+B^(j+n)*((ms U j v g n).2.1+(ms U j v g n).2.2)=B^(j+n)*U.getD (j+n) 0+B^(j+n+1)*b:=by
   rw[Nat.pow_succ,Nat.mul_assoc,←Nat.mul_add,←Nat.mul_add]
   congr 1
   rw[hz,hb]
   split<;>omega
  omega
theorem pk {U W v:List Nat} {j n g:Nat} (h:Dig U W v j n (g+1) 1) (hU:Fit U) (hv:Fit v) (hvp:0<val v) (hn:v.length=n) (hl:j+n<U.length)
  (z o:Nat) (hz:z=(W.getD (j+n) 0+(ab W j v n).2)%B) (ho:o=(W.getD (j+n) 0+(ab W j v n).2)/B):o≤1∧Dig U ((ab W j v n).1.set (j+n) z) v j n g (1-o):=by
 have hm:=wH (u:=W) (j:=j) (v:=v) n (by rw[h.len];omega)
 have hlen:=ep W j v n
 have hot:=gQ (u:=W) (j:=j) (v:=v) n (j+n) (K6 _)
 obtain⟨f1,f2⟩:=kz (j:=j) h.fit hv n
 have hx:=h.fit.get (j+n)
 have hzlt:z<B:=by rw[hz];exact Nat.mod_lt _ aA
 have hs:=cI (xs:=(ab W j v n).1) (k:=j+n) (by rw[hlen,h.len];exact hl) z
 rw[aR (by omega)] at hm
 rw[hot] at hs
 have ho1:o≤1:=by
  have:o<2:=by rw[ho,Nat.div_lt_iff_lt_mul aA];omega
  omega
 have hmd:=Nat.mod_add_div (W.getD (j+n) 0+(ab W j v n).2) B
 rw[←hz,←ho] at hmd
 refine ⟨ho1,f1.set _ hzlt,by simp[hlen,h.len],?_,by omega,?_⟩
 ·intro i hi
  rw[getD_set_ne (by omega),gQ _ _ (by omega),h.high i hi]
 ·have hv1:=h.val
  have key:B^(j+n)*z+B^(j+n+1)*o=B^(j+n)*W.getD (j+n) 0+B^(j+n)*(ab W j v n).2:=by
   rw[Nat.pow_succ,Nat.mul_assoc,←Nat.mul_add,←Nat.mul_add,hmd]
  have e:B^j*((g+1)*val v)=B^j*(g*val v)+B^j*val v:=by rw[Nat.add_mul,Nat.one_mul,Nat.mul_add]
  have e2:B^(j+n+1)*(1-o)+B^(j+n+1)*o=B^(j+n+1):=by
   rw[←Nat.mul_add,show 1-o+o=1 by omega,Nat.mul_one]
  rw[Nat.mul_one] at hv1
  have _:=hU
  have _:=hvp
  omega
theorem CZ {U v:List Nat} {j n g:Nat} (hU:Fit U) (hn:v.length=n) (h2:2≤n) (htop:0<v.getD (n-1) 0) (hv:Fit v)
  (hT:val (U.drop j)<val v*B)
  (g1:U.getD (j+n) 0<v.getD (n-1) 0→((U.getD (j+n) 0*B+U.getD (j+(n-1)) 0)*B+U.getD (j+(n-2)) 0)/(v.getD (n-1) 0*B+v.getD (n-2) 0)≤g)
  (g2:v.getD (n-1) 0≤U.getD (j+n) 0→g=B-1):digit U v j≤g:=by
 obtain⟨m,rfl⟩:∃ m,n=m+2:=⟨n-2,by omega⟩
 rw[show m+2-1=m+1 by omega,show m+2-2=m by omega] at *
 have hvp:0<val v:=by
  have h1:=bX v m (by omega)
  rw[bg,bg] at h1
  have:0<B^m*(v.getD m 0+B*(v.getD (m+1) 0+B*val (v.drop (m+1+1)))):=by
   refine Nat.mul_pos (Nat.pow_pos aA) ?_
   have:=Nat.mul_pos aA (show 0<v.getD (m+1) 0+B*val (v.drop (m+1+1)) by omega)
   omega
  omega
 by_cases hlt:U.getD (j+(m+2)) 0<v.getD (m+1) 0
 ·refine Nat.le_trans ?_ (g1 hlt)
  have hvl:val (v.drop (m+2))=0:=by rw[List.drop_of_length_le (by omega)];rfl
  have ev:val v=val (v.take m)+(v.getD (m+1) 0*B+v.getD m 0)*B^m:=by
   have h1:=bX v m (by omega)
   rw[bg v m,bg v (m+1),hvl] at h1
   rw[h1,Nat.mul_zero,Nat.add_zero,Nat.mul_comm B,Nat.add_comm (v.getD m 0),Nat.mul_comm (B^m)]
  have hUd:val (U.drop j)=val ((U.drop j).take m)+B^m*val (U.drop (j+m)):=by
   by_cases hl:m≤(U.drop j).length
   ·have:=bX (U.drop j) m hl
    rwa [List.drop_drop] at this
   ·have e:U.drop (j+m)=[]:=List.drop_of_length_le (by rw[List.length_drop] at hl;omega)
    rw[List.take_of_length_le (by omega),e];simp[val]
  have htop0:val (U.drop (j+(m+2)+1))=0:=by
   rw[bg U (j+m),bg U (j+m+1),bg U (j+m+1+1),show j+m+1+1=j+(m+2) by omega] at hUd
   rcases Nat.eq_zero_or_pos (val (U.drop (j+(m+2)+1))) with h0|h0
   ·exact h0
   ·exfalso
    have hvlt:val v<B^(m+2):=by have:=dn hv;rwa [hn] at this
    have h3:B^m*(B*(B*(B*1)))≤B^m*(U.getD (j+m) 0+B*(U.getD (j+m+1) 0+B*(U.getD (j+(m+2)) 0+B*val (U.drop (j+(m+2)+1))))):=by
     refine Nat.mul_le_mul_left _ ?_
     refine Nat.le_trans (Nat.mul_le_mul_left B ?_) (Nat.le_add_left _ _)
     refine Nat.le_trans (Nat.mul_le_mul_left B ?_) (Nat.le_add_left _ _)
     exact Nat.le_trans (Nat.mul_le_mul_left B h0) (Nat.le_add_left _ _)
    have h4:B^m*(B*(B*(B*1)))=B^(m+2)*B:=by
     rw[Nat.pow_add,show B^2=B*B from Nat.pow_two B,Nat.mul_one,Nat.mul_assoc,Nat.mul_assoc]
    have h5:val v*B+B≤B^(m+2)*B:=by
     have:=Nat.mul_le_mul_right B (Nat.succ_le_of_lt hvlt)
     rwa [Nat.succ_mul] at this
    omega
  have eU:val (U.drop (j+m))=(U.getD (j+(m+2)) 0*B+U.getD (j+(m+1)) 0)*B+U.getD (j+m) 0:=by
   rw[bg U (j+m),bg U (j+m+1),bg U (j+m+1+1),show j+m+1+1=j+(m+2) by omega,htop0,show j+m+1=j+(m+1) by omega]
   generalize U.getD (j+(m+2)) 0=a2
   generalize U.getD (j+(m+1)) 0=a1
   generalize U.getD (j+m) 0=a0
   rw[Nat.mul_zero,Nat.add_zero,Nat.mul_comm B a2,Nat.add_comm a1,Nat.mul_comm B,Nat.add_comm]
  rw[eU,Nat.mul_comm (B^m),Nat.add_comm] at hUd
  unfold digit
  refine kK (P:=B^m) (s:=val ((U.drop j).take m)) (Nat.pow_pos aA) (bO (hU.drop j) m) ?_ hUd (by rw[ev];exact Nat.le_add_left _ _)
  have:=Nat.mul_pos htop aA
  omega
 ·rw[g2 (by omega)]
  have:digit U v j<B:=by unfold digit;rw[Nat.div_lt_iff_lt_mul hvp,Nat.mul_comm];exact hT
  omega
structure Div (X V : Nat) (v U qs : List Nat) (k : Nat) : Prop where
 fitU:Fit U
 fitQ:Fit qs
 sum:val U+V*val qs=X
 lt:val U<V*B^k
 gE:∀ i,i<k→qs.getD i 0=0
theorem Div.part {X V:Nat} {v U qs:List Nat} {j:Nat} (h:Div X V v U qs (j+1)) (hj:j≤U.length):val (U.drop j)<V*B:=by
 have h1:=h.lt
 rw[bX U j hj,Nat.pow_succ] at h1
 have hp:0<B^j:=Nat.pow_pos aA
 have h2:B^j*val (U.drop j)<B^j*(V*B):=by
  have e:V*(B^j*B)=B^j*(V*B):=by rw[Nat.mul_left_comm]
  omega
 exact Nat.lt_of_mul_lt_mul_left h2
theorem Div.high {X V:Nat} {v U qs:List Nat} {j n:Nat} (h:Div X V v U qs (j+1)) (hv:V<B^n):fF U (j+n+1):=by
 refine eE (Nat.lt_trans h.lt ?_)
 have hp:0<B^(j+1):=Nat.pow_pos aA
 rw[show j+n+1=n+(j+1) by omega,Nat.pow_add B n (j+1)]
 exact Nat.mul_lt_mul_of_pos_right hv hp
theorem Div.next {X V:Nat} {v U W qs:List Nat} {j n g:Nat} (h:Div X V v U qs (j+1)) (hV:val v=V) (hvp:0<V) (hj:j≤U.length) (hjq:j<qs.length)
  (hd:Dig U W v j n g 0) (hg:digit U v j≤g) (hgB:g<B):Div X V v W (qs.set j g) j:=by
 subst hV
 obtain⟨_,h2,h3⟩:=hd.done h.fitU hvp hj hg
 refine ⟨hd.fit,h.fitQ.set _ hgB,?_,h2,?_⟩
 ·have hs:=cI hjq g
  rw[h.gE j (by omega),Nat.mul_zero,Nat.add_zero] at hs
  rw[hs,Nat.mul_add,←h.sum]
  omega
 ·intro i hi
  rw[getD_set_ne (by omega)];exact h.gE i (by omega)
theorem Div.last {X V:Nat} {v U qs:List Nat} (h:Div X V v U qs 0) (hV:0<V):val qs=X/V∧val U=X%V:=by
 have h1:=h.lt
 rw[Nat.pow_zero,Nat.mul_one] at h1
 rw[←h.sum]
 constructor
 ·rw[Nat.add_mul_div_left _ _ hV,Nat.div_eq_of_lt h1,Nat.zero_add]
 ·rw[Nat.add_mul_mod_self_left,Nat.mod_eq_of_lt h1]
theorem zy {z d b:Nat} (hz:z<B) (hd:d<B) (hb:b≤1):(z+B-(d+b))%B=if z<d+b then z+B-(d+b) else z-(d+b):=by
 split
 ·rw[Nat.mod_eq_of_lt (by omega)]
 ·rw[show z+B-(d+b)=(z-(d+b))+B by omega,Nat.add_mod_right,Nat.mod_eq_of_lt (by omega)]
theorem Al {x y s n m1:Nat} (hx:size x=n+m1) (hy:size y=n) (hn:2≤n) (hXn:size (x*2^s)≤n+m1+1) :
  Div (x*2^s) (y*2^s) (ai (y*2^s)) (ai (x*2^s)++List.replicate (n+m1+1-(ai (x*2^s)).length) 0) (List.replicate (m1+1) 0) (m1+1) ∧
   (ai (x*2^s)++List.replicate (n+m1+1-(ai (x*2^s)).length) 0).length=n+m1+1:=by
 have hl:(ai (x*2^s)).length≤n+m1+1:=hXn
 have hval:val (ai (x*2^s)++List.replicate (n+m1+1-(ai (x*2^s)).length) 0)=x*2^s:=by
  rw[bE,dY,Nat.mul_zero,Nat.add_zero,au]
 refine ⟨⟨(ao _).append (Fit.gE _),Fit.gE _,by rw[dY,Nat.mul_zero,Nat.add_zero,hval],?_,fun i _=>?_⟩,by simp;omega⟩
 ·rw[hval]
  have h1:=lt_size x
  rw[hx] at h1
  have h2:B^(n-1)≤y:=dO (by omega)
  have h3:B^(n-1)*B^(m1+1)≤y*B^(m1+1):=Nat.mul_le_mul_right _ h2
  rw[←Nat.pow_add,show n-1+(m1+1)=n+m1 by omega] at h3
  have hp:0<2^s:=Nat.pos_of_ne_zero (by simp)
  rw[Nat.mul_right_comm]
  exact Nat.mul_lt_mul_of_pos_right (Nat.lt_of_lt_of_le h1 h3) hp
 ·by_cases h:i<m1+1<;>simp[List.getD_eq_getElem?_getD,h]
theorem prod_bound {p q c u v T:Int} (hp0:0≤p) (hp:p≤c) (_hq0:0≤q) (hq:q≤c) (hu0:0≤u) (_hu:u≤T) (hv0:0≤v) (hv:v≤T):0-c*T≤p*u-q*v:=by
 have h1:0≤p*u:=Int.mul_nonneg hp0 hu0
 have h2:q*v≤c*T:=Int.mul_le_mul hq hv hv0 (by omega)
 omega
structure Leh (x y H L a b x1 y1 x2 y2 s : Int) : Prop where
 sg:s=1∨s = -1
 nx1:0≤x1
 ny1:0≤y1
 nx2:0≤x2
 ny2:1≤y2
 b0:0≤b
 ba:b≤a
 a1:1≤a
 i1:a*y2+b*y1=H
 i2:a*x2+b*x1=L
 e1:s*(x1*H-y1*L)=a
 e2:s*(y2*L-x2*H)=b
 le2:x2≤y2
 le12:x1+x2≤y1+y2
 bx1:x1≤H
 by1:y1≤H
 dv:∀ d,(d ∣ s*(x1*x-y1*y)∧d ∣ s*(y2*y-x2*x))↔(d ∣ x∧d ∣ y)
 pr:(y1=0∧s*(y2*y-x2*x)=y)∨s*(x1*x-y1*y)≤y
def mE (x y x0 y0 x1 y1:Int):Prop:=
 y0=0∨∃ D0 D1:Int,0≤D1∧D1<D0∧D0≤y∧(D0=x0*x-y0*y∨D0=y0*y-x0*x)∧(D1=x1*x-y1*y∨D1=y1*y-x1*x)∧∀ d,(d ∣ D0∧d ∣ D1)↔(d ∣ x∧d ∣ y)
theorem Leh.start {x y H L:Int} (hL0:0≤L) (hLH:L≤H) (hH:1≤H):Leh x y H L H L 1 0 0 1 1:=by
 refine ⟨.inl rfl,by omega,by omega,by omega,by omega,hL0,hLH,hH,by omega,by omega,by omega,by omega,by omega,by omega,by omega,by omega,fun d=>?_,.inl ⟨rfl,by omega⟩⟩
 rw[show (1:Int)*(1*x-0*y)=x by omega,show (1:Int)*(1*y-0*x)=y by omega]
theorem Leh.facts {x y H L a b x1 y1 x2 y2 s:Int} (h:Leh x y H L a b x1 y1 x2 y2 s):y2≤H∧x2≤L∧(1≤b→y1+y2≤H):=by
 have h1:1*y2≤a*y2:=Int.mul_le_mul_of_nonneg_right h.a1 (by have:=h.ny2;omega)
 have h2:0≤b*y1:=Int.mul_nonneg h.b0 h.ny1
 have h3:1*x2≤a*x2:=Int.mul_le_mul_of_nonneg_right h.a1 h.nx2
 have h4:0≤b*x1:=Int.mul_nonneg h.b0 h.nx1
 have e1:=h.i1
 have e2:=h.i2
 refine ⟨by omega,by omega,fun hb=>?_⟩
 have h5:1*y1≤b*y1:=Int.mul_le_mul_of_nonneg_right hb h.ny1
 omega
theorem Leh.order {x y H L a b x1 y1 x2 y2 s xr yr T:Int} (h:Leh x y H L a b x1 y1 x2 y2 s) (hT:1≤T) (hx:x=H*T+xr) (hy:y=L*T+yr) (hxr0:0≤xr) (hxr:xr<T) (hyr0:0≤yr) (hyr:yr<T)
  (c1:y2≤b) (c2:y1+y2≤a-b):0<s*(y2*y-x2*x)∧s*(y2*y-x2*x)<s*(x1*x-y1*y):=by
 have hy2:=h.ny2
 have hy1:=h.ny1
 have hb2:y2*T≤b*T:=Int.mul_le_mul_of_nonneg_right c1 (by omega)
 have hb3:(y1+y2)*T≤(a-b)*T:=Int.mul_le_mul_of_nonneg_right c2 (by omega)
 have m1:y2*(T-1)=y2*T-y2:=by rw[Int.mul_sub,Int.mul_one]
 have m2:(y1+y2)*(T-1)=(y1+y2)*T-(y1+y2):=by rw[Int.mul_sub,Int.mul_one]
 have e1:=h.e1
 have e2:=h.e2
 rcases h.sg with rfl|rfl
 ·have k1:=prod_bound (p:=y2) (q:=x2) (c:=y2) (u:=yr) (v:=xr) (T:=T-1) (by omega) (by omega) h.nx2 h.le2 hyr0 (by omega) hxr0 (by omega)
  have k2:=prod_bound (p:=x1+x2) (q:=y1+y2) (c:=y1+y2) (u:=xr) (v:=yr) (T:=T-1) (by have:=h.nx1;have:=h.nx2;omega) h.le12 (by omega) (by omega) hxr0 (by omega) hyr0 (by omega)
  have q1:1*(y2*y-x2*x)=b*T+(y2*yr-x2*xr):=by subst hx;subst hy;grind
  have q2:1*(x1*x-y1*y)-1*(y2*y-x2*x)=(a-b)*T+((x1+x2)*xr-(y1+y2)*yr):=by subst hx;subst hy;grind
  omega
 ·have k1:=prod_bound (p:=x2) (q:=y2) (c:=y2) (u:=xr) (v:=yr) (T:=T-1) h.nx2 h.le2 (by omega) (by omega) hxr0 (by omega) hyr0 (by omega)
  have k2:=prod_bound (p:=y1+y2) (q:=x1+x2) (c:=y1+y2) (u:=yr) (v:=xr) (T:=T-1) (by omega) (by omega) (by have:=h.nx1;have:=h.nx2;omega) h.le12 hyr0 (by omega) hxr0 (by omega)
  have q1 : -1*(y2*y-x2*x)=b*T+(x2*xr-y2*yr):=by subst hx;subst hy;grind
  have q2 : -1*(x1*x-y1*y) - -1*(y2*y-x2*x)=(a-b)*T+((y1+y2)*yr-(x1+x2)*xr):=by subst hx;subst hy;grind
  omega
theorem Leh.step {x y H L a b x1 y1 x2 y2 s xr yr T:Int} (h:Leh x y H L a b x1 y1 x2 y2 s) (hT:1≤T) (hx:x=H*T+xr) (hy:y=L*T+yr) (hxr0:0≤xr) (hxr:xr<T) (hyr0:0≤yr) (hyr:yr<T)
  (c1:y2≤b) (c2:y1+y2≤a-b) (_hLH:L≤H) :
  Leh x y H L b (a%b) x2 y2 (x1+a/b*x2) (y1+a/b*y2) (0-s)∧mE x y x1 y1 x2 y2:=by
 obtain⟨o1,o2⟩:=h.order hT hx hy hxr0 hxr hyr0 hyr c1 c2
 have hy2:=h.ny2
 have hy1:=h.ny1
 have hx1:=h.nx1
 have hx2:=h.nx2
 have hb:1≤b:=by omega
 have hq:a/b*b+a%b=a:=by rw[Int.mul_comm];exact Int.mul_ediv_add_emod a b
 have hr0:0≤a%b:=Int.emod_nonneg _ (by omega)
 have hr:a%b<b:=Int.emod_lt_of_pos _ (by omega)
 have hq1:1≤a/b:=by
  rw[Int.le_ediv_iff_mul_le (by omega)]
  have:=h.ba;omega
 obtain⟨f1,f2,_⟩:=h.facts
 generalize a/b=q at *
 generalize a%b=r at *
 have hqx:1*x2≤q*x2:=Int.mul_le_mul_of_nonneg_right hq1 hx2
 have hqy:1*y2≤q*y2:=Int.mul_le_mul_of_nonneg_right hq1 (by omega)
 have hqq:q*x2≤q*y2:=Int.mul_le_mul_of_nonneg_left h.le2 (by omega)
 have i1:=h.i1
 have i2:=h.i2
 have e1:=h.e1
 have e2:=h.e2
 have hl12:=h.le12
 have hl2:=h.le2
 have hx1y:x1+q*x2≤y1+q*y2:=by
  obtain⟨p,rfl⟩:∃ p,q=p+1:=⟨q-1,by omega⟩
  have:p*x2≤p*y2:=Int.mul_le_mul_of_nonneg_left hl2 (by omega)
  rw[Int.add_mul,Int.add_mul];omega
 refine ⟨⟨by have:=h.sg;omega,hx2,by omega,by omega,by omega,hr0,by omega,hb,?_,?_,?_,?_,hx1y,by omega,by omega,f1,fun d=>?_,.inr ?_⟩,?_⟩
 ·subst hq;grind
 ·subst hq;grind
 ·rcases h.sg with rfl|rfl<;>grind
 ·subst hq;rcases h.sg with rfl|rfl<;>grind
 ·rw[←h.dv d]
  have k1:(0-s)*(x2*x-y2*y)=s*(y2*y-x2*x):=by grind
  have k2:(0-s)*((y1+q*y2)*y-(x1+q*x2)*x)=s*(x1*x-y1*y)-q*(s*(y2*y-x2*x)):=by grind
  rw[k1,k2]
  generalize s*(y2*y-x2*x)=A
  generalize s*(x1*x-y1*y)=C
  constructor
  ·rintro ⟨d1,d2⟩
   have d3:d ∣ q*A:=Int.dvd_trans d1 (Int.dvd_mul_left _ _)
   have d4:=Int.dvd_add d2 d3
   rw[show C-q*A+q*A=C by omega] at d4
   exact⟨d4,d1⟩
  ·rintro ⟨d1,d2⟩
   have d3:d ∣ q*A:=Int.dvd_trans d2 (Int.dvd_mul_left _ _)
   exact⟨d2,Int.dvd_sub d1 d3⟩
 ·have k1:(0-s)*(x2*x-y2*y)=s*(y2*y-x2*x):=by grind
  rw[k1]
  rcases h.pr with ⟨_,hp⟩|hp<;>omega
 ·rcases h.pr with ⟨h0,_⟩|hp
  ·exact .inl h0
  ·refine .inr ⟨s*(x1*x-y1*y),s*(y2*y-x2*x),by omega,o2,by omega,?_,?_,h.dv⟩
   ·rcases h.sg with rfl|rfl
    ·left;omega
    ·right;omega
   ·rcases h.sg with rfl|rfl
    ·right;omega
    ·left;omega
theorem wx {z n s:Nat} (hn:2≤n) (hz:z<B^n) (hs:s≤64) :
  z/(B^(n-2)*2^(64-s))=(ai z).getD (n-2) 0/2^(64-s)+(ai z).getD (n-1) 0*2^s:=by
 have hp:0<2^(64-s):=Nat.pos_of_ne_zero (by simp)
 have hB:=iy hs
 have h1:z/B^(n-2)=(ai z).getD (n-2) 0+B*(ai z).getD (n-1) 0:=by
  by_cases hl:n-2≤(ai z).length
  ·have hc:=bX (ai z) (n-2) hl
   have hlt:=bO (ao z) (n-2)
   have h0:val ((ai z).drop n)=0:=fF.drop (eE (by rw[au];exact hz))
   rw[au,bg,bg _ (n-2+1),show n-2+1+1=n by omega,show n-2+1=n-1 by omega,h0,Nat.mul_zero,Nat.add_zero] at hc
   conv=>lhs;rw[hc]
   rw[Nat.add_comm,Nat.mul_add_div (Nat.pow_pos aA),Nat.div_eq_of_lt hlt,Nat.add_zero]
  ·rw[bD (by omega),bD (by omega)]
   have:z<B^(n-2):=Nat.lt_of_lt_of_le (lt_size z) (Nat.pow_le_pow_right aA (by unfold size;omega))
   rw[Nat.div_eq_of_lt this];simp
 rw[←Nat.div_div_eq_div_mul,h1,hB,Nat.add_comm,Nat.mul_assoc,Nat.mul_add_div hp,Nat.add_comm,Nat.mul_comm (2^s)]
theorem xj {a b c d:Nat} (h:∀ e:Int,(e ∣ (a:Int)∧e ∣ (b:Int))↔(e ∣ (c:Int)∧e ∣ (d:Int))):Nat.gcd a b=Nat.gcd c d:=by
 apply Nat.dvd_antisymm
 ·have:=(h (Nat.gcd a b:Nat)).1 ⟨Int.natCast_dvd_natCast.2 (Nat.gcd_dvd_left a b),Int.natCast_dvd_natCast.2 (Nat.gcd_dvd_right a b)⟩
  exact Nat.dvd_gcd (Int.natCast_dvd_natCast.1 this.1) (Int.natCast_dvd_natCast.1 this.2)
 ·have:=(h (Nat.gcd c d:Nat)).2 ⟨Int.natCast_dvd_natCast.2 (Nat.gcd_dvd_left c d),Int.natCast_dvd_natCast.2 (Nat.gcd_dvd_right c d)⟩
  exact Nat.dvd_gcd (Int.natCast_dvd_natCast.1 this.1) (Int.natCast_dvd_natCast.1 this.2)
def jb (a b:Nat):Nat:=if a<b then b-a else a-b
theorem rS {a b:Nat} {D:Int} (h0:0≤D) (h:D=(a:Int)-b∨D=(b:Int)-a):((jb a b:Nat):Int)=D:=by
 unfold jb;split<;>omega
theorem mE.nat {x y x0 y0 x1 y1:Nat} (h:mE x y x0 y0 x1 y1) (h0:y0≠0) :
  jb (x*x1) (y*y1)<jb (x*x0) (y*y0)∧jb (x*x0) (y*y0)≤y∧Nat.gcd (jb (x*x0) (y*y0)) (jb (x*x1) (y*y1))=Nat.gcd x y:=by
 rcases h with h|⟨D0,D1,h1,h2,h3,h4,h5,h6⟩
 ·omega
 ·have e0:((jb (x*x0) (y*y0):Nat):Int)=D0:=rS (by omega) (by
   rw[Int.natCast_mul,Int.natCast_mul,Int.mul_comm (x:Int),Int.mul_comm (y:Int)];exact h4)
  have e1:((jb (x*x1) (y*y1):Nat):Int)=D1:=rS h1 (by
   rw[Int.natCast_mul,Int.natCast_mul,Int.mul_comm (x:Int),Int.mul_comm (y:Int)];exact h5)
  refine ⟨by omega,by omega,xj ?_⟩
  rw[e0,e1];exact h6
end LimbNum
