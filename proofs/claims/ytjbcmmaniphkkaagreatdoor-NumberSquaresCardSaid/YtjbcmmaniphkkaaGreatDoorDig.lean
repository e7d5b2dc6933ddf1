set_option linter.unusedSectionVars false
set_option linter.unusedVariables false
set_option linter.unusedSimpArgs false
namespace DigNum
def B:Nat:=1000000000
theorem aA:0<B:=by unfold B;omega
theorem oc:1<B:=by unfold B;omega
def val:List Nat→Nat
 | []=>0
 | x::xs=>x+B*val xs
def Fit (xs:List Nat):Prop:=∀ x∈xs,x<B
theorem Fit.nil:Fit []:=by intro x h;cases h
theorem Fit.cons {x:Nat} {xs:List Nat} (h:x<B) (k:Fit xs):Fit (x::xs):=by
 intro y hy;rcases List.mem_cons.1 hy with rfl|hy
 ·exact h
 ·exact k y hy
theorem Fit.tail {x:Nat} {xs:List Nat} (h:Fit (x::xs)):Fit xs:=fun y hy=>h y (List.mem_cons_of_mem _ hy)
theorem Fit.head {x:Nat} {xs:List Nat} (h:Fit (x::xs)):x<B:=h x (List.mem_cons_self ..)
theorem Fit.append {xs ys:List Nat} (h:Fit xs) (k:Fit ys):Fit (xs++ys):=by
 intro y hy;rcases List.mem_append.1 hy with hy|hy
 ·exact h y hy
 ·exact k y hy
theorem Fit.take {xs:List Nat} (h:Fit xs) (k:Nat):Fit (xs.take k):=fun y hy=>h y (List.mem_of_mem_take hy)
theorem Fit.drop {xs:List Nat} (h:Fit xs) (k:Nat):Fit (xs.drop k):=fun y hy=>h y (List.mem_of_mem_drop hy)
theorem bf {xs:List Nat} {i:Nat} (h:i<xs.length):xs.getD i 0=xs[i]:=by simp[List.getD_eq_getElem?_getD,h]
theorem bD {xs:List Nat} {i:Nat} (h:xs.length≤i):xs.getD i 0=0:=by simp[List.getD_eq_getElem?_getD,h]
theorem Fit.get {xs:List Nat} (h:Fit xs) (i:Nat):xs.getD i 0<B:=by
 by_cases hi:i<xs.length
 ·rw[bf hi];exact h _ (List.getElem_mem hi)
 ·rw[bD (by omega)];exact aA
theorem bE (xs ys:List Nat):val (xs++ys)=val xs+B^xs.length*val ys:=by
 induction xs with
 | nil=>simp[val]
 | cons x xs ih=>simp only[List.cons_append,val,ih,List.length_cons,Nat.pow_succ];rw[Nat.mul_add,Nat.mul_comm (B^xs.length) B,Nat.mul_assoc];omega
theorem ir (xs:List Nat) (x:Nat):val (xs++[x])=val xs+B^xs.length*x:=by
 rw[bE];simp[val]
theorem dn {xs:List Nat} (h:Fit xs):val xs<B^xs.length:=by
 induction xs with
 | nil=>simp[val]
 | cons x xs ih=>
  have h1:=ih h.tail
  have h2:=h.head
  simp only[val,List.length_cons,Nat.pow_succ]
  have:B*val xs+B≤B*B^xs.length:=by
   have:B*(val xs+1)≤B*B^xs.length:=Nat.mul_le_mul_left _ h1
   rw[Nat.mul_add] at this;omega
  rw[Nat.mul_comm (B^xs.length) B];omega
theorem dY (n:Nat):val (List.replicate n 0)=0:=by
 induction n with
 | zero=>rfl
 | succ n ih=>rw[List.replicate_succ,val,ih];simp
theorem fU {xs:List Nat} {k:Nat} (h:k<xs.length):xs.take (k+1)=xs.take k++[xs.getD k 0]:=by
 rw[List.take_succ_eq_append_getElem h,bf h]
theorem gN {xs:List Nat} {k:Nat} (h:k<xs.length):val (xs.take (k+1))=val (xs.take k)+B^k*xs.getD k 0:=by
 rw[fU h,ir,List.length_take,Nat.min_eq_left (by omega)]
theorem aB (xs:List Nat) (k:Nat):val (xs.take (k+1))=val (xs.take k)+B^k*xs.getD k 0:=by
 by_cases h:k<xs.length
 ·exact gN h
 ·rw[List.take_of_length_le (by omega),List.take_of_length_le (by omega),bD (by omega)];simp
theorem aR {xs:List Nat} {k:Nat} (h:xs.length≤k):val (xs.take k)=val xs:=by rw[List.take_of_length_le h]
def dm:Nat→Nat→List Nat
 | 0,_=>[]
 | f+1,n=>if n=0 then [] else n%B::dm f (n/B)
def ai (n:Nat):List Nat:=dm n n
theorem dG:∀ (f n:Nat),n≤f→∀ g,n≤g→dm f n=dm g n
 | 0,n,h,g,_=>by
  obtain rfl:n=0:=by omega
  cases g<;>simp[dm]
 | f+1,n,h,g,hg=>by
  by_cases hn:n=0
  ·subst hn;cases g<;>simp[dm]
  ·cases g with
   | zero=>omega
   | succ g=>
    have hlt:n/B<n:=Nat.div_lt_self (by omega) oc
    simp only[dm,if_neg hn]
    rw[dG f (n/B) (by omega) g (by omega)]
theorem bc:ai 0=[]:=rfl
theorem br {n:Nat} (h:n≠0):ai n=n%B::ai (n/B):=by
 have hlt:n/B<n:=Nat.div_lt_self (by omega) oc
 unfold ai
 cases n with
 | zero=>omega
 | succ n=>
  rw[dm,if_neg (by omega)]
  rw[dG n _ (by omega) _ (Nat.le_refl _)]
theorem ao (n:Nat):Fit (ai n):=by
 induction n using Nat.strongRecOn with
 | ind n ih=>
  by_cases h:n=0
  ·subst h;exact Fit.nil
  ·rw[br h];exact Fit.cons (Nat.mod_lt _ aA) (ih _ (Nat.div_lt_self (by omega) oc))
theorem au (n:Nat):val (ai n)=n:=by
 induction n using Nat.strongRecOn with
 | ind n ih=>
  by_cases h:n=0
  ·subst h;rfl
  ·rw[br h,val,ih _ (Nat.div_lt_self (by omega) oc)]
   exact Nat.mod_add_div n B
theorem eF {n:Nat} (h:ai n≠[]):(ai n).getLast h≠0:=by
 induction n using Nat.strongRecOn with
 | ind n ih=>
  by_cases h0:n=0
  ·subst h0;exact absurd bc h
  ·have he:=br h0
   by_cases hd:n/B=0
   ·have hl:n<B:=by
     by_cases hc:n<B
     ·exact hc
     ·exact absurd hd (Nat.ne_of_gt (Nat.div_pos (by omega) aA))
    have:ai n=[n%B]:=by rw[he,hd,bc]
    simp only[this,List.getLast_singleton]
    rw[Nat.mod_eq_of_lt hl];exact h0
   ·have hne:ai (n/B)≠[]:=by rw[br hd];simp
    have:=ih (n/B) (Nat.div_lt_self (by omega) oc) hne
    simp only[he]
    rw[List.getLast_cons hne]
    exact this
theorem aF {n:Nat}:ai n=[]↔n=0:=by
 constructor
 ·intro h;have:=au n;rw[h] at this;exact this.symm
 ·rintro rfl;rfl
def size (n:Nat):Nat:=(ai n).length
theorem bW:size 0=0:=rfl
theorem lt_size (n:Nat):n<B^size n:=by
 have:=dn (ao n);rwa [au] at this
theorem size_le {n k:Nat} (h:n<B^k):size n≤k:=by
 induction k generalizing n with
 | zero=>simp at h;subst h;exact Nat.le_refl 0
 | succ k ih=>
  by_cases h0:n=0
  ·subst h0;simp[bW]
  ·have:n/B<B^k:=by
    rw[Nat.div_lt_iff_lt_mul aA];rwa [Nat.pow_succ] at h
   have h2:=ih this
   unfold size at *
   rw[br h0];simp only[List.length_cons];omega
theorem dO {n k:Nat} (h:k<size n):B^k≤n:=by
 by_cases hc:n<B^k
 ·have:=size_le hc;omega
 ·omega
theorem aK {m n:Nat} (h:m≤n):size m≤size n:=size_le (Nat.lt_of_le_of_lt h (lt_size n))
theorem size_pos {n:Nat}:0<size n↔n≠0:=by
 unfold size
 rw[List.length_pos_iff,ne_eq,aF]
def bn:List Nat→Nat
 | []=>0
 | x::xs=>if bn xs=0 then (if x=0 then 0 else 1) else bn xs+1
theorem eh (xs:List Nat):bn xs≤xs.length:=by
 induction xs with
 | nil=>exact Nat.le_refl _
 | cons x xs ih=>simp only[bn,List.length_cons];split<;>(try split)<;>omega
theorem mw {xs:List Nat} (h:Fit xs):xs.take (bn xs)=ai (val xs):=by
 induction xs with
 | nil=>rfl
 | cons x xs ih=>
  have ih:=ih h.tail
  have hb:=h.head
  simp only[bn]
  by_cases ht:bn xs=0
  ·rw[ht] at ih
   have hv:val xs=0:=aF.1 (by rw[←ih];rfl)
   simp only[ht,if_true,val,hv,Nat.mul_zero,Nat.add_zero]
   by_cases hx:x=0
   ·subst hx;simp[bc]
   ·rw[if_neg hx,br hx,Nat.mod_eq_of_lt hb,Nat.div_eq_of_lt hb,bc];rfl
  ·rw[if_neg ht,List.take_succ_cons,ih]
   have hv:val xs≠0:=by
    intro h0
    rw[h0,bc] at ih
    have:=congrArg List.length ih
    rw[List.length_take,Nat.min_eq_left (eh xs)] at this
    exact ht this
   have hne:val (x::xs)≠0:=by
    have:0<B*val xs:=Nat.mul_pos aA (by omega)
    simp only[val];omega
   rw[br hne]
   simp only[val]
   rw[Nat.add_mul_mod_self_left,Nat.mod_eq_of_lt hb,Nat.add_mul_div_left _ _ aA,Nat.div_eq_of_lt hb,Nat.zero_add]
theorem ld {xs:List Nat} {n:Nat} (hn:0<n) (hl:n≤xs.length) (h:xs.getD (n-1) 0=0) (ht:bn xs≤n):bn xs≤n-1:=by
 by_cases hc:bn xs≤n-1
 ·exact hc
 ·exfalso
  have hn':bn xs=n:=by omega
  clear hc ht
  induction xs generalizing n with
  | nil=>simp at hl;omega
  | cons x xs ih=>
   simp only[bn] at hn'
   by_cases h0:bn xs=0
   ·rw[if_pos h0] at hn'
    by_cases hx:x=0
    ·rw[if_pos hx] at hn';omega
    ·rw[if_neg hx] at hn';subst hn';simp at h;exact hx h
   ·rw[if_neg h0] at hn'
    subst hn'
    refine ih (n:=bn xs) (by omega) (eh xs) ?_ rfl
    have e:bn xs+1-1=(bn xs-1)+1:=by omega
    rw[e] at h
    simpa using h
theorem lh {xs:List Nat} {n:Nat} (hn:0<n) (hl:n≤xs.length) (h:xs.getD (n-1) 0≠0) (ht:bn xs≤n):bn xs=n:=by
 refine Nat.le_antisymm ht ?_
 clear ht
 induction xs generalizing n with
 | nil=>simp at hl;omega
 | cons x xs ih=>
  simp only[bn]
  by_cases hn1:n=1
  ·subst hn1
   simp at h
   split
   ·simp
   ·omega
  ·have e:n-1=(n-1-1)+1:=by omega
   have h':xs.getD (n-1-1) 0≠0:=by rw[e] at h;simpa using h
   have:=ih (n:=n-1) (by omega) (by simp at hl;omega) h'
   rw[if_neg (by omega)];omega
def fill (f:Nat→Nat) (k n:Nat):List Nat:=(List.range n).map fun i=>if i<k then f i else 0
theorem cU (f:Nat→Nat) (n:Nat):fill f n n=(List.range n).map f:=by
 apply List.ext_getElem
 ·simp[fill]
 ·intro i h1 h2
  have:i<n:=by simpa [fill] using h1
  simp[fill,this]
theorem eX {f:Nat→Nat} {n:Nat} (h:∀ i,i<n→f i<B):Fit (fill f n n):=by
 intro x hx
 rw[cU] at hx
 obtain⟨i,hi,rfl⟩:=List.mem_map.1 hx
 exact h i (List.mem_range.1 hi)
theorem bU (f:Nat→Nat) (n:Nat):val ((List.range (n+1)).map f)=val ((List.range n).map f)+B^n*f n:=by
 rw[List.range_succ,List.map_append,List.map_singleton,ir];simp
def bq (xs ys:List Nat):Nat→Nat
 | 0=>0
 | k+1=>(xs.getD k 0+ys.getD k 0+bq xs ys k)/B
theorem eO {xs ys:List Nat} (hx:Fit xs) (hy:Fit ys) (k:Nat):bq xs ys k≤1:=by
 induction k with
 | zero=>exact Nat.zero_le _
 | succ k ih=>
  have:=hx.get k;have:=hy.get k
  simp only[bq]
  have:(xs.getD k 0+ys.getD k 0+bq xs ys k)/B<2:=by
   rw[Nat.div_lt_iff_lt_mul aA];omega
  omega
def bJ (xs ys:List Nat):Nat→Nat
 | 0=>0
 | k+1=>if xs.getD k 0<ys.getD k 0+bJ xs ys k then 1 else 0
def cY (xs ys:List Nat) (k:Nat):Nat:=
 if xs.getD k 0<ys.getD k 0+bJ xs ys k then xs.getD k 0+B-(ys.getD k 0+bJ xs ys k) else xs.getD k 0-(ys.getD k 0+bJ xs ys k)
theorem dM (xs ys:List Nat) (k:Nat):bJ xs ys k≤1:=by
 cases k with
 | zero=>exact Nat.zero_le _
 | succ k=>simp only[bJ];split<;>omega
theorem mj {xs ys:List Nat} (hx:Fit xs) (hy:Fit ys) (k:Nat):cY xs ys k<B:=by
 have:=hx.get k;have:=hy.get k;have:=dM xs ys k
 unfold cY;split<;>omega
theorem qO {xs ys:List Nat} (hy:Fit ys) (k:Nat):val ((List.range k).map (cY xs ys))+val (ys.take k)=val (xs.take k)+B^k*bJ xs ys k:=by
 induction k with
 | zero=>simp[val,bJ]
 | succ k ih=>
  rw[bU,aB,aB,Nat.pow_succ]
  have h1:=hy.get k;have h2:=dM xs ys k
  simp only[bJ,cY]
  split
  ·rename_i h
   have e:B^k*(xs.getD k 0+B-(ys.getD k 0+bJ xs ys k))+B^k*ys.getD k 0+B^k*bJ xs ys k=B^k*xs.getD k 0+B^k*B*1:=by
    rw[←Nat.mul_add,←Nat.mul_add,Nat.mul_one,←Nat.mul_add]
    congr 1;omega
   omega
  ·rename_i h
   have e:B^k*(xs.getD k 0-(ys.getD k 0+bJ xs ys k))+B^k*ys.getD k 0+B^k*bJ xs ys k=B^k*xs.getD k 0:=by
    rw[←Nat.mul_add,←Nat.mul_add]
    congr 1;omega
   omega
theorem tT {xs ys:List Nat} (hx:Fit xs) (hy:Fit ys) (hl:ys.length≤xs.length) (h:val ys≤val xs):val (fill (cY xs ys) xs.length xs.length)=val xs-val ys:=by
 rw[cU]
 have hp:=qO (xs:=xs) hy xs.length
 rw[aR (Nat.le_refl _),aR hl] at hp
 have hf:val ((List.range xs.length).map (cY xs ys))<B^xs.length:=by
  have:=dn (eX (f:=cY xs ys) (n:=xs.length) fun i _=>mj hx hy i)
  rwa [cU,List.length_map,List.length_range] at this
 have hc:=dM xs ys xs.length
 have:bJ xs ys xs.length=0:=by
  by_cases h0:bJ xs ys xs.length=0
  ·exact h0
  ·have h1:bJ xs ys xs.length=1:=by omega
   rw[h1] at hp;omega
 rw[this] at hp;omega
theorem lV {x y c:Nat} (hx:x<B) (hy:y<B) (hc:c<B):(x*y+c)/B<B:=by
 rw[Nat.div_lt_iff_lt_mul aA]
 have h1:x*y≤(B-1)*(B-1):=Nat.mul_le_mul (by omega) (by omega)
 have h2:(B-1)*(B-1)+(B-1)<B*B:=by unfold B;omega
 omega
theorem cI {xs:List Nat} {k:Nat} (h:k<xs.length) (v:Nat):val (xs.set k v)+B^k*xs.getD k 0=val xs+B^k*v:=by
 induction xs generalizing k with
 | nil=>simp at h
 | cons x xs ih=>
  cases k with
  | zero=>simp[val];omega
  | succ k=>
   have h':k<xs.length:=by simpa using h
   have:=ih h'
   simp only[List.set_cons_succ,val,List.getD_cons_succ,Nat.pow_succ]
   rw[Nat.mul_comm (B^k) B,Nat.mul_assoc,Nat.mul_assoc]
   have e:B*val (xs.set k v)+B*(B^k*xs.getD k 0)=B*val xs+B*(B^k*v):=by rw[←Nat.mul_add,←Nat.mul_add,this]
   omega
theorem Fit.set {xs:List Nat} (h:Fit xs) (k:Nat) {v:Nat} (hv:v<B):Fit (xs.set k v):=by
 intro y hy
 rcases List.mem_or_eq_of_mem_set hy with hy|rfl
 ·exact h y hy
 ·exact hv
theorem Fit.gE (n:Nat):Fit (List.replicate n 0):=by
 intro x hx;rw[(List.mem_replicate.1 hx).2];exact aA
theorem getD_set_ne {xs:List Nat} {k i v:Nat} (h:k≠i):(xs.set k v).getD i 0=xs.getD i 0:=by
 simp[List.getD_eq_getElem?_getD,h]
def mr (p:List Nat) (i x:Nat) (ys:List Nat):Nat→List Nat × Nat
 | 0=>(p,0)
 | j+1=>
  let q:=mr p i x ys j
  (q.1.set (i+j) ((x*ys.getD j 0+q.1.getD (i+j) 0+q.2)%B),(x*ys.getD j 0+q.1.getD (i+j) 0+q.2)/B)
theorem eG (p:List Nat) (i x:Nat) (ys:List Nat) (j:Nat):(mr p i x ys j).1.length=p.length:=by
 induction j with
 | zero=>rfl
 | succ j ih=>simp[mr,ih]
theorem jN {x y p c:Nat} (hx:x<B) (hy:y<B) (hp:p<B) (hc:c<B):(x*y+p+c)/B<B:=by
 rw[Nat.div_lt_iff_lt_mul aA]
 have h1:x*y≤(B-1)*(B-1):=Nat.mul_le_mul (by omega) (by omega)
 have h2:(B-1)*(B-1)+(B-1)+(B-1)<B*B:=by unfold B;omega
 omega
theorem nh {p:List Nat} {i x:Nat} {ys:List Nat} (hp:Fit p) (hx:x<B) (hy:Fit ys) (j:Nat):Fit (mr p i x ys j).1∧(mr p i x ys j).2<B:=by
 induction j with
 | zero=>exact⟨hp,aA⟩
 | succ j ih=>exact⟨ih.1.set _ (Nat.mod_lt _ aA),jN hx (hy.get j) (ih.1.get _) ih.2⟩
theorem hI {p:List Nat} {i x:Nat} {ys:List Nat} (j t:Nat) (h:i+j≤t):(mr p i x ys j).1.getD t 0=p.getD t 0:=by
 induction j with
 | zero=>rfl
 | succ j ih=>simp only[mr];rw[getD_set_ne (by omega),ih (by omega)]
theorem xx {p:List Nat} {i x:Nat} {ys:List Nat} (j:Nat) (h:i+j≤p.length) :
  val (mr p i x ys j).1+B^(i+j)*(mr p i x ys j).2=val p+B^i*(x*val (ys.take j)):=by
 induction j with
 | zero=>simp[mr,val]
 | succ j ih=>
  have ih:=ih (by omega)
  simp only[mr]
  generalize hq:mr p i x ys j=q at *
  have hl:q.1.length=p.length:=by rw[←hq];exact eG _ _ _ _ _
  have hs:=cI (xs:=q.1) (k:=i+j) (by omega) ((x*ys.getD j 0+q.1.getD (i+j) 0+q.2)%B)
  have hm:=Nat.mod_add_div (x*ys.getD j 0+q.1.getD (i+j) 0+q.2) B
  rw[aB,show i+(j+1)=(i+j)+1 from rfl,Nat.pow_succ,Nat.mul_assoc]
  have e:B^(i+j)*((x*ys.getD j 0+q.1.getD (i+j) 0+q.2)%B)+B^(i+j)*(B*((x*ys.getD j 0+q.1.getD (i+j) 0+q.2)/B)) =
    B^(i+j)*(x*ys.getD j 0)+B^(i+j)*q.1.getD (i+j) 0+B^(i+j)*q.2:=by
   rw[←Nat.mul_add,hm,Nat.mul_add,Nat.mul_add]
  have e2:B^i*(x*(val (ys.take j)+B^j*ys.getD j 0))=B^i*(x*val (ys.take j))+B^(i+j)*(x*ys.getD j 0):=by
   rw[Nat.mul_add,Nat.mul_add,Nat.pow_add,Nat.mul_left_comm x,Nat.mul_assoc]
  rw[e2];omega
def mo (xs ys:List Nat):Nat→List Nat
 | 0=>List.replicate (xs.length+ys.length) 0
 | i+1=>let q:=mr (mo xs ys i) i (xs.getD i 0) ys ys.length;q.1.set (i+ys.length) q.2
theorem hE (xs ys:List Nat) (i:Nat):(mo xs ys i).length=xs.length+ys.length:=by
 induction i with
 | zero=>simp[mo]
 | succ i ih=>simp[mo,eG,ih]
theorem pS {xs ys:List Nat} (hx:Fit xs) (hy:Fit ys) (i:Nat):Fit (mo xs ys i):=by
 induction i with
 | zero=>exact Fit.gE _
 | succ i ih=>have:=nh (i:=i) ih (hx.get i) hy ys.length;exact this.1.set _ this.2
theorem oM {xs ys:List Nat} (i t:Nat) (h:i+ys.length≤t):(mo xs ys i).getD t 0=0:=by
 induction i with
 | zero=>simp only[mo];by_cases ht:t<xs.length+ys.length<;>simp[List.getD_eq_getElem?_getD,ht]
 | succ i ih=>simp only[mo];rw[getD_set_ne (by omega),hI _ _ (by omega),ih (by omega)]
theorem xw (xs ys:List Nat) (i:Nat) (h:i≤xs.length):val (mo xs ys i)=val (xs.take i)*val ys:=by
 induction i with
 | zero=>simp[mo,dY,val]
 | succ i ih=>
  have ih:=ih (by omega)
  simp only[mo]
  have hl:=hE xs ys i
  have hv:=xx (p:=mo xs ys i) (i:=i) (x:=xs.getD i 0) (ys:=ys) ys.length (by omega)
  have hz:(mr (mo xs ys i) i (xs.getD i 0) ys ys.length).1.getD (i+ys.length) 0=0:=by
   rw[hI _ _ (Nat.le_refl _),oM _ _ (Nat.le_refl _)]
  generalize hq:mr (mo xs ys i) i (xs.getD i 0) ys ys.length=q at *
  have hql:q.1.length=xs.length+ys.length:=by rw[←hq,eG,hl]
  have hs:=cI (xs:=q.1) (k:=i+ys.length) (by omega) q.2
  rw[hz] at hs
  rw[aR (Nat.le_refl _)] at hv
  rw[aB,Nat.add_mul,Nat.mul_assoc]
  omega
theorem xv (xs ys:List Nat):val (mo xs ys xs.length)=val xs*val ys:=by
 rw[xw _ _ _ (Nat.le_refl _),aR (Nat.le_refl _)]
theorem jn {xs ys:List Nat} (hx:Fit xs) (hl:xs.length=ys.length) {i:Nat} (hi:i<xs.length)
  (he:∀ t,i<t→t<xs.length→xs.getD t 0=ys.getD t 0) (h:xs.getD i 0<ys.getD i 0):val xs<val ys:=by
 have ex:xs=xs.take (i+1)++xs.drop (i+1):=(List.take_append_drop _ _).symm
 have ey:ys=ys.take (i+1)++ys.drop (i+1):=(List.take_append_drop _ _).symm
 have ed:xs.drop (i+1)=ys.drop (i+1):=by
  apply List.ext_getElem
  ·simp[hl]
  ·intro t h1 h2
   rw[List.length_drop] at h1 h2
   rw[List.getElem_drop,List.getElem_drop,←bf (by omega),←bf (by omega)]
   exact he _ (by omega) (by omega)
 rw[ex,ey,bE,bE,ed,aB,aB,List.length_take,List.length_take,hl]
 have h1:=dn (hx.take i)
 rw[List.length_take,Nat.min_eq_left (by omega)] at h1
 have h2:B^i*xs.getD i 0+B^i≤B^i*ys.getD i 0:=by
  have:B^i*(xs.getD i 0+1)≤B^i*ys.getD i 0:=Nat.mul_le_mul_left _ h
  rwa [Nat.mul_add,Nat.mul_one] at this
 omega
theorem lF {m n:Nat} (h:size m<size n):m<n:=by
 have h1:=lt_size m
 have h2:=dO h
 omega
theorem fL {A c v1 v0 b q r:Nat} (he:q*v1+r=A) (hv:0<v1*b+v0)
  (h:r*b+c<q*v0):(A*b+c)/(v1*b+v0)≤q-1∧0<q:=by
 have hq0:0<q:=by
  rcases Nat.eq_zero_or_pos q with h0|h0
  ·subst h0;simp at h
  ·exact h0
 refine ⟨?_,hq0⟩
 have hlt:(A*b+c)/(v1*b+v0)<q:=by
  rw[Nat.div_lt_iff_lt_mul hv]
  have e:q*(v1*b+v0)=q*v1*b+q*v0:=by rw[Nat.mul_add,Nat.mul_assoc]
  have e2:A*b=q*v1*b+r*b:=by rw[←he,Nat.add_mul]
  omega
 omega
theorem iG {A c v1 v0 b q r:Nat} (he:q*v1+r=A) (hv:0<v1*b+v0) (h:q*v0≤r*b+c):q≤(A*b+c)/(v1*b+v0):=by
 rw[Nat.le_div_iff_mul_le hv]
 have e:q*(v1*b+v0)=q*v1*b+q*v0:=by rw[Nat.mul_add,Nat.mul_assoc]
 have e2:A*b=q*v1*b+r*b:=by rw[←he,Nat.add_mul]
 omega
theorem fa {A c v1 v0 b:Nat} (hv1:0<v1) (hc:c<b):(A*b+c)/(v1*b+v0)≤A/v1:=by
 have hb:0<b:=by omega
 have hv:0<v1*b+v0:=by have:=Nat.mul_pos hv1 hb;omega
 have h1:=Nat.div_mul_le_self (A*b+c) (v1*b+v0)
 rw[Nat.le_div_iff_mul_le hv1]
 generalize hQ:(A*b+c)/(v1*b+v0)=Q at *
 have h2:Q*v1*b≤A*b+c:=by
  have e:Q*(v1*b+v0)=Q*v1*b+Q*v0:=by rw[Nat.mul_add,Nat.mul_assoc]
  omega
 have h3:Q*v1*b<(A+1)*b:=by rw[Nat.add_mul];omega
 have h4:Q*v1<A+1:=Nat.lt_of_mul_lt_mul_right h3
 omega
theorem kK {T D s u v P:Nat} (hP:0<P) (hs:s<P) (hD:0<D) (hu:u=T*P+s) (hv:D*P≤v):u/v≤T/D:=by
 have hv0:0<v:=Nat.lt_of_lt_of_le (Nat.mul_pos hD hP) hv
 have h1:=Nat.div_mul_le_self u v
 rw[Nat.le_div_iff_mul_le hD]
 generalize u/v=Q at *
 have h2:Q*(D*P)≤Q*v:=Nat.mul_le_mul_left _ hv
 have h3:Q*D*P<(T+1)*P:=by rw[Nat.add_mul,Nat.mul_assoc];omega
 have h4:Q*D<T+1:=Nat.lt_of_mul_lt_mul_right h3
 omega
def ds (d:Nat):List Nat→List Nat × Nat
 | []=>([],0)
 | x::xs=>(((ds d xs).2*B+x)/d::(ds d xs).1,((ds d xs).2*B+x)%d)
theorem jL (d:Nat) (xs:List Nat):(ds d xs).1.length=xs.length:=by
 induction xs with
 | nil=>rfl
 | cons x xs ih=>simp[ds,ih]
theorem gi {d:Nat} (hd:0<d) (xs:List Nat):val xs=val (ds d xs).1*d+(ds d xs).2∧(ds d xs).2<d:=by
 induction xs with
 | nil=>exact⟨by simp[ds,val],hd⟩
 | cons x xs ih=>
  refine ⟨?_,Nat.mod_lt _ hd⟩
  have hm:=Nat.mod_add_div ((ds d xs).2*B+x) d
  simp only[ds,val]
  rw[ih.1,Nat.mul_add,Nat.add_mul,Nat.mul_comm (((ds d xs).2*B+x)/d) d,←Nat.mul_assoc,Nat.mul_comm B (ds d xs).2]
  omega
theorem sT {d:Nat} (hd:0<d) {xs:List Nat} (h:Fit xs):Fit (ds d xs).1:=by
 induction xs with
 | nil=>exact Fit.nil
 | cons x xs ih=>
  refine Fit.cons ?_ (ih h.tail)
  have hr:=(gi hd xs).2
  have hx:=h.head
  rw[Nat.div_lt_iff_lt_mul hd]
  have:(ds d xs).2*B+B≤d*B:=by
   have:=Nat.mul_le_mul_right B (Nat.succ_le_of_lt hr)
   rwa [Nat.succ_mul] at this
  rw[Nat.mul_comm B d]
  omega
theorem oI (d:Nat) {xs:List Nat} {i:Nat} (h:i<xs.length) :
  ds d (xs.drop i)=(((ds d (xs.drop (i+1))).2*B+xs.getD i 0)/d::(ds d (xs.drop (i+1))).1,((ds d (xs.drop (i+1))).2*B+xs.getD i 0)%d):=by
 have e:xs.drop i=xs.getD i 0::xs.drop (i+1):=by rw[bf h];exact (List.drop_eq_getElem_cons h)
 rw[e];rfl
theorem jW (i:Nat) (qs:List Nat) (v:Nat):(List.replicate (i+1) 0++qs).set i v=List.replicate i 0++v::qs:=by
 rw[List.replicate_succ',List.append_assoc,List.set_append_right _ _ (by simp)]
 simp
theorem sS {d:Nat} (hd:0<d) (xs:List Nat):val (ds d xs).1=val xs/d∧(ds d xs).2=val xs%d:=by
 obtain⟨h1,h2⟩:=gi hd xs
 rw[Nat.mul_comm] at h1
 constructor
 ·rw[h1,Nat.mul_add_div hd,Nat.div_eq_of_lt h2,Nat.add_zero]
 ·rw[h1,Nat.mul_add_mod,Nat.mod_eq_of_lt h2]
def ms (u:List Nat) (j:Nat) (v:List Nat) (d:Nat):Nat→List Nat × Nat × Nat
 | 0=>(u,0,0)
 | k+1=>
  let s:=ms u j v d k
  let t:=d*v.getD k 0+s.2.1
  (s.1.set (j+k) (if s.1.getD (j+k) 0<t%B+s.2.2 then s.1.getD (j+k) 0+B-(t%B+s.2.2) else s.1.getD (j+k) 0-(t%B+s.2.2)),
   t/B,if s.1.getD (j+k) 0<t%B+s.2.2 then 1 else 0)
theorem dT (u:List Nat) (j:Nat) (v:List Nat) (d k:Nat):(ms u j v d k).1.length=u.length:=by
 induction k with
 | zero=>rfl
 | succ k ih=>simp[ms,ih]
theorem jy {u:List Nat} {j:Nat} {v:List Nat} {d:Nat} (hu:Fit u) (hv:Fit v) (hd:d<B) (k:Nat) :
  Fit (ms u j v d k).1∧(ms u j v d k).2.1<B∧(ms u j v d k).2.2≤1:=by
 induction k with
 | zero=>exact⟨hu,aA,Nat.zero_le _⟩
 | succ k ih=>
  obtain⟨h1,h2,h3⟩:=ih
  simp only[ms]
  generalize ms u j v d k=s at *
  have hx:=h1.get (j+k)
  have hm:(d*v.getD k 0+s.2.1)%B<B:=Nat.mod_lt _ aA
  refine ⟨h1.set _ ?_,lV hd (hv.get k) h2,by split<;>omega⟩
  split<;>omega
theorem ni (u:List Nat) (j:Nat) (v:List Nat) (d k:Nat):(ms u j v d k).2.2≤1:=by
 cases k with
 | zero=>exact Nat.zero_le _
 | succ k=>simp only[ms];split<;>omega
theorem xy {u:List Nat} {j:Nat} {v:List Nat} {d:Nat} (k:Nat) (h:j+k≤u.length) :
  val (ms u j v d k).1+B^j*(d*val (v.take k))=val u+B^(j+k)*((ms u j v d k).2.1+(ms u j v d k).2.2):=by
 induction k with
 | zero=>simp[ms,val]
 | succ k ih=>
  have ih:=ih (by omega)
  simp only[ms]
  have hl:=dT u j v d k
  have hb:=ni u j v d k
  generalize ms u j v d k=s at *
  have hm:=Nat.mod_add_div (d*v.getD k 0+s.2.1) B
  generalize ht:d*v.getD k 0+s.2.1=t at *
  rw[aB,show j+(k+1)=(j+k)+1 from rfl,Nat.pow_succ]
  have e2:B^j*(d*(val (v.take k)+B^k*v.getD k 0))=B^j*(d*val (v.take k))+B^(j+k)*(d*v.getD k 0):=by
   rw[Nat.mul_add,Nat.mul_add,Nat.pow_add,Nat.mul_left_comm d,Nat.mul_assoc]
  rw[e2]
  have e3:B^(j+k)*(d*v.getD k 0)+B^(j+k)*s.2.1=B^(j+k)*(t%B)+B^(j+k)*B*(t/B):=by
   rw[←Nat.mul_add,ht,Nat.mul_assoc,←Nat.mul_add,hm]
  split
  ·rename_i hlt
   have hs:=cI (xs:=s.1) (k:=j+k) (by omega) (s.1.getD (j+k) 0+B-(t%B+s.2.2))
   have e4:B^(j+k)*(s.1.getD (j+k) 0+B-(t%B+s.2.2))+B^(j+k)*(t%B)+B^(j+k)*s.2.2=B^(j+k)*s.1.getD (j+k) 0+B^(j+k)*B:=by
    have:t%B<B:=Nat.mod_lt _ aA
    rw[←Nat.mul_add,←Nat.mul_add,←Nat.mul_add];congr 1;omega
   have e6:=Nat.mul_add (B^(j+k)) s.2.1 s.2.2
   have e7:=Nat.mul_add (B^(j+k)*B) (t/B) 1
   rw[Nat.mul_one] at e7
   omega
  ·rename_i hlt
   have hs:=cI (xs:=s.1) (k:=j+k) (by omega) (s.1.getD (j+k) 0-(t%B+s.2.2))
   have e4:B^(j+k)*(s.1.getD (j+k) 0-(t%B+s.2.2))+B^(j+k)*(t%B)+B^(j+k)*s.2.2=B^(j+k)*s.1.getD (j+k) 0:=by
    rw[←Nat.mul_add,←Nat.mul_add];congr 1;omega
   have e6:=Nat.mul_add (B^(j+k)) s.2.1 s.2.2
   rw[Nat.add_zero]
   omega
theorem bg (xs:List Nat) (i:Nat):val (xs.drop i)=xs.getD i 0+B*val (xs.drop (i+1)):=by
 by_cases h:i<xs.length
 ·rw[List.drop_eq_getElem_cons h,val,bf h]
 ·rw[List.drop_of_length_le (by omega),List.drop_of_length_le (by omega),bD (by omega)];simp[val]
theorem bX (xs:List Nat) (i:Nat) (h:i≤xs.length):val xs=val (xs.take i)+B^i*val (xs.drop i):=by
 conv=>lhs;rw[←List.take_append_drop i xs]
 rw[bE,List.length_take,Nat.min_eq_left h]
theorem bO {xs:List Nat} (hx:Fit xs) (i:Nat):val (xs.take i)<B^i:=by
 have h:=dn (hx.take i)
 refine Nat.lt_of_lt_of_le h (Nat.pow_le_pow_right aA ?_)
 rw[List.length_take];exact Nat.min_le_left _ _
theorem fR {u:List Nat} {j:Nat} {v:List Nat} {d:Nat} (k t:Nat) (h:j+k≤t):(ms u j v d k).1.getD t 0=u.getD t 0:=by
 induction k with
 | zero=>rfl
 | succ k ih=>simp only[ms];rw[getD_set_ne (by omega),ih (by omega)]
def ab (u:List Nat) (j:Nat) (v:List Nat):Nat→List Nat × Nat
 | 0=>(u,0)
 | k+1=>((ab u j v k).1.set (j+k) (((ab u j v k).1.getD (j+k) 0+v.getD k 0+(ab u j v k).2)%B),((ab u j v k).1.getD (j+k) 0+v.getD k 0+(ab u j v k).2)/B)
theorem ep (u:List Nat) (j:Nat) (v:List Nat) (k:Nat):(ab u j v k).1.length=u.length:=by
 induction k with
 | zero=>rfl
 | succ k ih=>simp[ab,ih]
theorem kz {u:List Nat} {j:Nat} {v:List Nat} (hu:Fit u) (hv:Fit v) (k:Nat):Fit (ab u j v k).1∧(ab u j v k).2≤1:=by
 induction k with
 | zero=>exact⟨hu,Nat.zero_le _⟩
 | succ k ih=>
  refine ⟨ih.1.set _ (Nat.mod_lt _ aA),?_⟩
  have h1:=ih.1.get (j+k);have h2:=hv.get k;have h3:=ih.2
  simp only[ab]
  have:((ab u j v k).1.getD (j+k) 0+v.getD k 0+(ab u j v k).2)/B<2:=by rw[Nat.div_lt_iff_lt_mul aA];omega
  omega
theorem gQ {u:List Nat} {j:Nat} {v:List Nat} (k t:Nat) (h:j+k≤t):(ab u j v k).1.getD t 0=u.getD t 0:=by
 induction k with
 | zero=>rfl
 | succ k ih=>simp only[ab];rw[getD_set_ne (by omega),ih (by omega)]
theorem wH {u:List Nat} {j:Nat} {v:List Nat} (k:Nat) (h:j+k≤u.length) :
  val (ab u j v k).1+B^(j+k)*(ab u j v k).2=val u+B^j*val (v.take k):=by
 induction k with
 | zero=>simp[ab,val]
 | succ k ih=>
  have ih:=ih (by omega)
  simp only[ab]
  have hl:=ep u j v k
  generalize ab u j v k=s at *
  have hs:=cI (xs:=s.1) (k:=j+k) (by omega) ((s.1.getD (j+k) 0+v.getD k 0+s.2)%B)
  have hm:=Nat.mod_add_div (s.1.getD (j+k) 0+v.getD k 0+s.2) B
  rw[aB,show j+(k+1)=(j+k)+1 from rfl,Nat.pow_succ,Nat.mul_assoc]
  have e:B^(j+k)*((s.1.getD (j+k) 0+v.getD k 0+s.2)%B)+B^(j+k)*(B*((s.1.getD (j+k) 0+v.getD k 0+s.2)/B))=B^(j+k)*s.1.getD (j+k) 0+B^(j+k)*v.getD k 0+B^(j+k)*s.2:=by
   rw[←Nat.mul_add,hm,Nat.mul_add,Nat.mul_add]
  have e2:B^j*(val (v.take k)+B^k*v.getD k 0)=B^j*val (v.take k)+B^(j+k)*v.getD k 0:=by
   rw[Nat.mul_add,Nat.pow_add,Nat.mul_assoc]
  rw[e2];omega
def fF (u:List Nat) (t:Nat):Prop:=∀ i,t≤i→u.getD i 0=0
theorem fF.drop {u:List Nat} {t:Nat} (h:fF u t):val (u.drop t)=0:=by
 have:∀ n t,fF u t→u.length≤t+n→val (u.drop t)=0:=by
  intro n
  induction n with
  | zero=>intro t _ hl;rw[List.drop_of_length_le (by omega)];rfl
  | succ n ih=>
   intro t h hl
   rw[bg,h t (Nat.le_refl _),ih (t+1) (fun i hi=>h i (by omega)) (by omega)];simp
 exact this u.length t h (by omega)
theorem fF.lt {u:List Nat} {t:Nat} (hf:Fit u) (h:fF u t):val u<B^t:=by
 by_cases ht:t≤u.length
 ·rw[bX u t ht,h.drop,Nat.mul_zero,Nat.add_zero];exact bO hf t
 ·exact Nat.lt_of_lt_of_le (dn hf) (Nat.pow_le_pow_right aA (by omega))
theorem eE {u:List Nat} {t:Nat} (h:val u<B^t):fF u t:=by
 intro i hi
 by_cases hl:i<u.length
 ·have h1:=bX u i (by omega)
  rw[bg] at h1
  have hp:0<B^i:=Nat.pow_pos aA
  have h2:B^t≤B^i:=Nat.pow_le_pow_right aA hi
  rcases Nat.eq_zero_or_pos (u.getD i 0) with h0|h0
  ·exact h0
  ·exfalso
   have:B^i*1≤B^i*(u.getD i 0+B*val (u.drop (i+1))):=Nat.mul_le_mul_left _ (by omega)
   omega
 ·exact bD (by omega)
structure Dig (U W v : List Nat) (j n g b : Nat) : Prop where
 fit:Fit W
 len:W.length=U.length
 high:fF W (j+n+1)
 le:b≤1
 val:val W+B^j*(g*val v)=val U+B^(j+n+1)*b
def digit (U v:List Nat) (j:Nat):Nat:=val (U.drop j)/val v
theorem eu {U v:List Nat} {j g:Nat} (hU:Fit U) (hv:0<val v) (hj:j≤U.length):g≤digit U v j↔B^j*(g*val v)≤val U:=by
 unfold digit
 rw[Nat.le_div_iff_mul_le hv,bX U j hj]
 have h1:=bO hU j
 have hp:0<B^j:=Nat.pow_pos aA
 constructor
 ·intro h
  have:=Nat.mul_le_mul_left (B^j) h
  omega
 ·intro h
  have h2:B^j*(g*DigNum.val v)<B^j*(DigNum.val (U.drop j)+1):=by rw[Nat.mul_add,Nat.mul_one];omega
  have:=Nat.lt_of_mul_lt_mul_left h2
  omega
theorem Dig.more {U W v:List Nat} {j n g:Nat} (h:Dig U W v j n g 1) (hU:Fit U) (hv:0<DigNum.val v) (hj:j≤U.length):digit U v j<g:=by
 rcases Nat.lt_or_ge (digit U v j) g with h1|h1
 ·exact h1
 ·exfalso
  have h2:=(eu hU hv hj).1 h1
  have h3:=h.val
  have h4:=h.high.lt h.fit
  omega
theorem Dig.done {U W v:List Nat} {j n g:Nat} (h:Dig U W v j n g 0) (hU:Fit U) (hv:0<DigNum.val v) (hj:j≤U.length) (hg:digit U v j≤g):g=digit U v j∧DigNum.val W<DigNum.val v*B^j∧DigNum.val W+DigNum.val v*(B^j*g)=DigNum.val U:=by
 have h3:=h.val
 rw[Nat.mul_zero,Nat.add_zero] at h3
 have hle:g≤digit U v j:=(eu hU hv hj).2 (by omega)
 have he:g=digit U v j:=by omega
 refine ⟨he,?_,by rw[←h3];congr 1;rw[Nat.mul_left_comm,Nat.mul_comm (DigNum.val v)]⟩
 have h5:¬g+1≤digit U v j:=by omega
 rw[eu hU hv hj] at h5
 have e:B^j*((g+1)*DigNum.val v)=B^j*(g*DigNum.val v)+DigNum.val v*B^j:=by rw[Nat.add_mul,Nat.mul_add,Nat.one_mul,Nat.mul_comm (DigNum.val v)]
 omega
theorem nN {xs:List Nat} {k v:Nat} (h:k<xs.length):(xs.set k v).getD k 0=v:=by
 simp[List.getD_eq_getElem?_getD,h]
theorem mJ {U v:List Nat} {j n g:Nat} (hU:Fit U) (hv:Fit v) (hn:v.length=n) (hl:j+n<U.length) (hh:fF U (j+n+1)) (hg:g<B)
  (z:Nat) (b:Nat) (hz:z=if U.getD (j+n) 0<(ms U j v g n).2.1+(ms U j v g n).2.2 then U.getD (j+n) 0+B-((ms U j v g n).2.1+(ms U j v g n).2.2) else U.getD (j+n) 0-((ms U j v g n).2.1+(ms U j v g n).2.2))
  (hb:b=if U.getD (j+n) 0<(ms U j v g n).2.1+(ms U j v g n).2.2 then 1 else 0):Dig U ((ms U j v g n).1.set (j+n) z) v j n g b:=by
 have hm:=xy (u:=U) (j:=j) (v:=v) (d:=g) n (by omega)
 have hlen:=dT U j v g n
 have ho:=fR (u:=U) (j:=j) (v:=v) (d:=g) n (j+n) (Nat.le_refl _)
 obtain⟨f1,f2,f3⟩:=jy (j:=j) hU hv hg n
 have hx:=hU.get (j+n)
 have hzlt:z<B:=by rw[hz];split<;>omega
 have hs:=cI (xs:=(ms U j v g n).1) (k:=j+n) (by omega) z
 rw[aR (by omega)] at hm
 rw[ho] at hs
 refine ⟨f1.set _ hzlt,by simp[hlen],?_,by rw[hb];split<;>omega,?_⟩
 ·intro i hi
  rw[getD_set_ne (by omega),fR _ _ (by omega),hh i hi]
 ·have key:B^(j+n)*z+B^(j+n)*((ms U j v g n).2.1+(ms U j v g n).2.2)=B^(j+n)*U.getD (j+n) 0+B^(j+n+1)*b:=by
   rw[Nat.pow_succ,Nat.mul_assoc,←Nat.mul_add,←Nat.mul_add]
   congr 1
   rw[hz,hb]
   split<;>omega
  omega
theorem pk {U W v:List Nat} {j n g:Nat} (h:Dig U W v j n (g+1) 1) (hU:Fit U) (hv:Fit v) (hvp:0<val v) (hn:v.length=n) (hl:j+n<U.length)
  (z o:Nat) (hz:z=(W.getD (j+n) 0+(ab W j v n).2)%B) (ho:o=(W.getD (j+n) 0+(ab W j v n).2)/B):o≤1∧Dig U ((ab W j v n).1.set (j+n) z) v j n g (1-o):=by
 have hm:=wH (u:=W) (j:=j) (v:=v) n (by rw[h.len];omega)
 have hlen:=ep W j v n
 have hot:=gQ (u:=W) (j:=j) (v:=v) n (j+n) (Nat.le_refl _)
 obtain⟨f1,f2⟩:=kz (j:=j) h.fit hv n
 have hx:=h.fit.get (j+n)
 have hzlt:z<B:=by rw[hz];exact Nat.mod_lt _ aA
 have hs:=cI (xs:=(ab W j v n).1) (k:=j+n) (by rw[hlen,h.len];exact hl) z
 rw[aR (by omega)] at hm
 rw[hot] at hs
 have ho1:o≤1:=by
  have:o<2:=by rw[ho,Nat.div_lt_iff_lt_mul aA];omega
  omega
 have hmd:=Nat.mod_add_div (W.getD (j+n) 0+(ab W j v n).2) B
 rw[←hz,←ho] at hmd
 refine ⟨ho1,f1.set _ hzlt,by simp[hlen,h.len],?_,by omega,?_⟩
 ·intro i hi
  rw[getD_set_ne (by omega),gQ _ _ (by omega),h.high i hi]
 ·have hv1:=h.val
  have key:B^(j+n)*z+B^(j+n+1)*o=B^(j+n)*W.getD (j+n) 0+B^(j+n)*(ab W j v n).2:=by
   rw[Nat.pow_succ,Nat.mul_assoc,←Nat.mul_add,←Nat.mul_add,hmd]
  have e:B^j*((g+1)*val v)=B^j*(g*val v)+B^j*val v:=by rw[Nat.add_mul,Nat.one_mul,Nat.mul_add]
  have e2:B^(j+n+1)*(1-o)+B^(j+n+1)*o=B^(j+n+1):=by
   rw[←Nat.mul_add,show 1-o+o=1 by omega,Nat.mul_one]
  rw[Nat.mul_one] at hv1
  have _:=hU
  have _:=hvp
  omega
structure Div (X V : Nat) (v U qs : List Nat) (k : Nat) : Prop where
 fitU:Fit U
 fitQ:Fit qs
 sum:val U+V*val qs=X
 lt:val U<V*B^k
 gE:∀ i,i<k→qs.getD i 0=0
theorem Div.part {X V:Nat} {v U qs:List Nat} {j:Nat} (h:Div X V v U qs (j+1)) (hj:j≤U.length):val (U.drop j)<V*B:=by
 have h1:=h.lt
 rw[bX U j hj,Nat.pow_succ] at h1
 have hp:0<B^j:=Nat.pow_pos aA
 have h2:B^j*val (U.drop j)<B^j*(V*B):=by
  have e:V*(B^j*B)=B^j*(V*B):=by rw[Nat.mul_left_comm]
  omega
 exact Nat.lt_of_mul_lt_mul_left h2
theorem Div.high {X V:Nat} {v U qs:List Nat} {j n:Nat} (h:Div X V v U qs (j+1)) (hv:V<B^n):fF U (j+n+1):=by
 refine eE (Nat.lt_trans h.lt ?_)
 have hp:0<B^(j+1):=Nat.pow_pos aA
 rw[show j+n+1=n+(j+1) by omega,Nat.pow_add B n (j+1)]
 exact Nat.mul_lt_mul_of_pos_right hv hp
theorem Div.next {X V:Nat} {v U W qs:List Nat} {j n g:Nat} (h:Div X V v U qs (j+1)) (hV:val v=V) (hvp:0<V) (hj:j≤U.length) (hjq:j<qs.length)
  (hd:Dig U W v j n g 0) (hg:digit U v j≤g) (hgB:g<B):Div X V v W (qs.set j g) j:=by
 subst hV
 obtain⟨_,h2,h3⟩:=hd.done h.fitU hvp hj hg
 refine ⟨hd.fit,h.fitQ.set _ hgB,?_,h2,?_⟩
 ·have hs:=cI hjq g
  rw[h.gE j (by omega),Nat.mul_zero,Nat.add_zero] at hs
  rw[hs,Nat.mul_add,←h.sum]
  omega
 ·intro i hi
  rw[getD_set_ne (by omega)];exact h.gE i (by omega)
theorem Div.last {X V:Nat} {v U qs:List Nat} (h:Div X V v U qs 0) (hV:0<V):val qs=X/V∧val U=X%V:=by
 have h1:=h.lt
 rw[Nat.pow_zero,Nat.mul_one] at h1
 rw[←h.sum]
 constructor
 ·rw[Nat.add_mul_div_left _ _ hV,Nat.div_eq_of_lt h1,Nat.zero_add]
 ·rw[Nat.add_mul_mod_self_left,Nat.mod_eq_of_lt h1]
theorem Kn {U v:List Nat} {j m:Nat} (hv:Fit v) (hn:v.length=m+2) (hT:val (U.drop j)<val v*B) :
  val v=val (v.take m)+(v.getD (m+1) 0*B+v.getD m 0)*B^m ∧
  val (U.drop j)=val ((U.drop j).take m)+((U.getD (j+(m+2)) 0*B+U.getD (j+(m+1)) 0)*B+U.getD (j+m) 0)*B^m:=by
 have hvl:val (v.drop (m+2))=0:=by rw[List.drop_of_length_le (by omega)];rfl
 have ev:val v=val (v.take m)+(v.getD (m+1) 0*B+v.getD m 0)*B^m:=by
  have h1:=bX v m (by omega)
  rw[bg v m,bg v (m+1),hvl] at h1
  rw[h1,Nat.mul_zero,Nat.add_zero,Nat.mul_comm B,Nat.add_comm (v.getD m 0),Nat.mul_comm (B^m)]
 refine ⟨ev,?_⟩
 have hUd:val (U.drop j)=val ((U.drop j).take m)+B^m*val (U.drop (j+m)):=by
  by_cases hl:m≤(U.drop j).length
  ·have:=bX (U.drop j) m hl
   rwa [List.drop_drop] at this
  ·have e:U.drop (j+m)=[]:=List.drop_of_length_le (by rw[List.length_drop] at hl;omega)
   rw[List.take_of_length_le (by omega),e];simp[val]
 have htop0:val (U.drop (j+(m+2)+1))=0:=by
  rw[bg U (j+m),bg U (j+m+1),bg U (j+m+1+1),show j+m+1+1=j+(m+2) by omega] at hUd
  rcases Nat.eq_zero_or_pos (val (U.drop (j+(m+2)+1))) with h0|h0
  ·exact h0
  ·exfalso
   have hvlt:val v<B^(m+2):=by have:=dn hv;rwa [hn] at this
   have h3:B^m*(B*(B*(B*1)))≤B^m*(U.getD (j+m) 0+B*(U.getD (j+m+1) 0+B*(U.getD (j+(m+2)) 0+B*val (U.drop (j+(m+2)+1))))):=by
    refine Nat.mul_le_mul_left _ ?_
    refine Nat.le_trans (Nat.mul_le_mul_left B ?_) (Nat.le_add_left _ _)
    refine Nat.le_trans (Nat.mul_le_mul_left B ?_) (Nat.le_add_left _ _)
    exact Nat.le_trans (Nat.mul_le_mul_left B h0) (Nat.le_add_left _ _)
   have h4:B^m*(B*(B*(B*1)))=B^(m+2)*B:=by
    rw[Nat.pow_add,show B^2=B*B from Nat.pow_two B,Nat.mul_one,Nat.mul_assoc,Nat.mul_assoc]
   have h5:val v*B+B≤B^(m+2)*B:=by
    have:=Nat.mul_le_mul_right B (Nat.succ_le_of_lt hvlt)
    rwa [Nat.succ_mul] at this
   omega
 have eU:val (U.drop (j+m))=(U.getD (j+(m+2)) 0*B+U.getD (j+(m+1)) 0)*B+U.getD (j+m) 0:=by
  rw[bg U (j+m),bg U (j+m+1),bg U (j+m+1+1),show j+m+1+1=j+(m+2) by omega,htop0,show j+m+1=j+(m+1) by omega]
  generalize U.getD (j+(m+2)) 0=a2
  generalize U.getD (j+(m+1)) 0=a1
  generalize U.getD (j+m) 0=a0
  rw[Nat.mul_zero,Nat.add_zero,Nat.mul_comm B a2,Nat.add_comm a1,Nat.mul_comm B,Nat.add_comm]
 rw[hUd,eU,Nat.mul_comm (B^m)]
theorem near {W V A3 Y u' v' P b:Nat} (hP:0<P) (hW:W=u'+A3*P) (hV:V=v'+Y*P) (hu:u'<P) (hv':v'<P) (hb:b≤Y) (hb0:0<b) (hT:W<V*b) :
  W/V≤A3/Y∧A3/Y≤W/V+1∧W/V<b∧A3<(Y+1)*b:=by
 have hY:0<Y:=by omega
 have hYP:Y*P≤V:=by omega
 have hVp:0<V:=Nat.lt_of_lt_of_le (Nat.mul_pos hY hP) hYP
 have h1:W/V≤A3/Y:=kK hP hu hY (by omega) hYP
 have hlt:W/V<b:=by rw[Nat.div_lt_iff_lt_mul hVp,Nat.mul_comm];exact hT
 have h3:A3<(Y+1)*b:=by
  have e1:V*b≤(Y+1)*b*P:=by
   have:V≤(Y+1)*P:=by rw[Nat.succ_mul];omega
   have:=Nat.mul_le_mul_right b this
   rwa [Nat.mul_right_comm] at this
  have e2:A3*P<(Y+1)*b*P:=by omega
  exact Nat.lt_of_mul_lt_mul_right e2
 have h4:A3/Y≤b:=by
  rw[←Nat.lt_succ_iff,Nat.div_lt_iff_lt_mul hY]
  rw[Nat.succ_mul,Nat.mul_comm b Y]
  rw[Nat.succ_mul] at h3
  omega
 refine ⟨h1,?_,hlt,h3⟩
 have h5:A3/Y*V≤W+V:=by
  have e1:A3/Y*Y≤A3:=Nat.div_mul_le_self _ _
  have e2:A3/Y*Y*P≤A3*P:=Nat.mul_le_mul_right P e1
  have e3:A3/Y*v'≤b*P:=Nat.mul_le_mul h4 (by omega)
  have e4:b*P≤Y*P:=Nat.mul_le_mul_right P hb
  rw[hV,Nat.mul_add,←Nat.mul_assoc]
  omega
 have h6:A3/Y*V≤(W/V+1)*V+(V-1):=by
  have:=Nat.div_add_mod W V
  have:=Nat.mod_lt W hVp
  rw[Nat.succ_mul,Nat.mul_comm (W/V) V]
  omega
 have h7:A3/Y*V<(W/V+1+1)*V:=by
  rw[Nat.succ_mul (W/V+1)]
  omega
 have:=Nat.lt_of_mul_lt_mul_right h7
 omega
theorem round {X V:Nat} {v U qs:List Nat} {j n t:Nat} (h:Div X V v U qs (j+1)) (hV:val v=V) (hvp:0<V) (hv:Fit v) (hn:v.length=n) (hl:j+n<U.length) (hjq:j<qs.length)
  (h1:digit U v j≤t) (h2:t≤digit U v j+1) (ht:t<B) :
  (ms U j v t n).2.1+(ms U j v t n).2.2≤B ∧
  ((ms U j v t n).2.1+(ms U j v t n).2.2≤U.getD (j+n) 0→Div X V v ((ms U j v t n).1.set (j+n) (U.getD (j+n) 0-((ms U j v t n).2.1+(ms U j v t n).2.2))) (qs.set j t) j) ∧
  (U.getD (j+n) 0<(ms U j v t n).2.1+(ms U j v t n).2.2→∃ W:List Nat,W=(ms U j v t n).1.set (j+n) (U.getD (j+n) 0+B-((ms U j v t n).2.1+(ms U j v t n).2.2))∧Fit W∧0<t ∧
   ((U.getD (j+n) 0:Nat):Int)-(((ms U j v t n).2.1+(ms U j v t n).2.2:Nat):Int)+(((ab W j v n).2:Nat):Int)=0∧(ab W j v n).2≤1 ∧
   Div X V v ((ab W j v n).1.set (j+n) 0) (qs.set j (t-1)) j):=by
 subst hV
 have hh:fF U (j+n+1):=by
  refine h.high ?_
  have:=dn hv
  rwa [hn] at this
 obtain⟨f1,f2,f3⟩:=jy (j:=j) h.fitU hv ht n
 have D:=mJ h.fitU hv hn hl hh ht _ _ rfl rfl
 refine ⟨by omega,?_,?_⟩
 ·intro hle
  have hlt:¬U.getD (j+n) 0<(ms U j v t n).2.1+(ms U j v t n).2.2:=by omega
  rw[if_neg hlt,if_neg hlt] at D
  exact h.next rfl hvp (by omega) hjq D h1 ht
 ·intro hlt
  rw[if_pos hlt,if_pos hlt] at D
  refine ⟨_,rfl,D.fit,?_⟩
  have hW:((ms U j v t n).1.set (j+n) (U.getD (j+n) 0+B-((ms U j v t n).2.1+(ms U j v t n).2.2))).getD (j+n) 0=U.getD (j+n) 0+B-((ms U j v t n).2.1+(ms U j v t n).2.2):=
   nN (by rw[dT];exact hl)
  generalize hWe:(ms U j v t n).1.set (j+n) (U.getD (j+n) 0+B-((ms U j v t n).2.1+(ms U j v t n).2.2))=W at *
  have hmore:=D.more h.fitU hvp (by omega)
  obtain⟨g,rfl⟩:∃ g,t=g+1:=⟨t-1,by omega⟩
  have hg:g=digit U v j:=by omega
  obtain⟨ho,D2⟩:=pk D h.fitU hv hvp hn hl _ _ rfl rfl
  have hc:=(kz (j:=j) D.fit hv n).2
  have hut:=h.fitU.get (j+n)
  generalize ho0:(W.getD (j+n) 0+(ab W j v n).2)/B=o at *
  have ho1:o=1:=by
   rcases Nat.lt_or_ge 0 o with h0|h0
   ·omega
   ·obtain rfl:o=0:=by omega
    have:=Dig.more D2 h.fitU hvp (by omega)
    omega
  subst ho1
  rw[hW] at ho0 D2
  generalize (ms U j v (g+1) n).2.1+(ms U j v (g+1) n).2.2=bo at *
  generalize (ab W j v n).2=c at *
  have hBp:=aA
  have e1:U.getD (j+n) 0+B-bo+c=B:=by
   have:=Nat.div_add_mod (U.getD (j+n) 0+B-bo+c) B
   rw[ho0] at this
   omega
  rw[e1,Nat.mod_self] at D2
  refine ⟨by omega,by omega,hc,?_⟩
  rw[Nat.add_sub_cancel]
  exact h.next rfl hvp (by omega) hjq D2 (by omega) (by omega)
theorem Div.start {X V:Nat} {v U:List Nat} {m:Nat} (hU:Fit U) (hX:val U=X) (h:X<V*B^m):Div X V v U (List.replicate m 0) m:=
 ⟨hU,Fit.gE m,by rw[dY,hX];omega,by rw[hX];exact h,fun i hi=>by simp[List.getD_eq_getElem?_getD,List.getElem?_replicate,hi]⟩
theorem Div.rest {X V:Nat} {v U qs:List Nat} {n:Nat} (h:Div X V v U qs 0) (hV:val v=V) (hvp:0<V) (hv:Fit v) (hn:v.length=n) (hl:n≤U.length) :
  val qs=X/V∧val (U.take n)=X%V∧Fit (U.take n)∧Fit qs:=by
 obtain⟨h1,h2⟩:=h.last hvp
 refine ⟨h1,?_,h.fitU.take n,h.fitQ⟩
 have hh:fF U n:=by
  refine eE ?_
  rw[h2]
  refine Nat.lt_trans (Nat.mod_lt _ hvp) ?_
  have:=dn hv
  rwa [hn,hV] at this
 have:=bX U n hl
 rw[hh.drop,Nat.mul_zero,Nat.add_zero] at this
 rw[←this,h2]
theorem IA {x y F:Nat} (hF:0<F):x*F/(y*F)=x/y∧x*F%(y*F)/F=x%y:=by
 refine ⟨Nat.mul_div_mul_right _ _ hF,?_⟩
 rw[Nat.mul_mod_mul_right,Nat.mul_div_cancel _ hF]
theorem Kj {m n:Nat} (hl:size m=n) (hn:2≤n):0<(ai m).getD (n-1) 0:=by
 change (ai m).length=n at hl
 have h:ai m≠[]:=by intro h;rw[h] at hl;simp at hl;omega
 have:=eF h
 rw[List.getD_eq_getElem?_getD,←hl,←List.getLast?_eq_getElem?,List.getLast?_eq_some_getLast h,Option.getD_some]
 omega
theorem Ix {m n:Nat} (hl:size m=n+1):m<((ai m).getD n 0+1)*B^n:=by
 change (ai m).length=n+1 at hl
 have h1:=bX (ai m) n (by omega)
 rw[au,bg,List.drop_of_length_le (show (ai m).length≤n+1 by omega)] at h1
 have h2:=bO (ao m) n
 rw[show val ([]:List Nat)=0 from rfl,Nat.mul_zero,Nat.add_zero] at h1
 rw[Nat.add_mul,Nat.one_mul,Nat.mul_comm _ (B^n)]
 omega
theorem Jj {x y:Nat} (hy:2≤size y) (hle:y≤x) :
  ∃ tb F:Nat,(ai y).getD (size y-1) 0=tb∧0<tb∧tb<B∧B/(tb+1)=F∧0<F∧F<B∧size (y*F)=size y∧size y≤size x∧size (x*F)≤size x+1∧0<size (x*F) ∧
   x*F<y*F*B^(size x+1-size y):=by
 have ht0:=Kj (m:=y) rfl hy
 have htB:=(ao y).get (size y-1)
 obtain⟨n,hn⟩:∃ n,size y=n+1:=⟨size y-1,by omega⟩
 have hcut:=Ix hn
 have hmono:=aK hle
 have hy0:0<y:=by
  have:=(size_pos (n:=y)).1 (by omega)
  omega
 rw[show n=size y-1 by omega] at hcut
 generalize (ai y).getD (size y-1) 0=tb at *
 have hF0:0<B/(tb+1):=Nat.div_pos (by omega) (by omega)
 have hFB:B/(tb+1)<B:=Nat.div_lt_self aA (by omega)
 have hFt:B/(tb+1)*(tb+1)≤B:=Nat.div_mul_le_self _ _
 have hBx:=lt_size x
 refine ⟨tb,_,rfl,ht0,htB,rfl,hF0,hFB,?_,hmono,?_,?_,?_⟩
 ·generalize B/(tb+1)=F at *
  refine Nat.le_antisymm (size_le ?_) (aK (Nat.le_mul_of_pos_right y hF0))
  have h1:y*F<(tb+1)*B^(size y-1)*F:=Nat.mul_lt_mul_of_pos_right hcut hF0
  have h2:(tb+1)*B^(size y-1)*F=F*(tb+1)*B^(size y-1):=by rw[Nat.mul_comm,Nat.mul_assoc]
  have h3:F*(tb+1)*B^(size y-1)≤B*B^(size y-1):=Nat.mul_le_mul_right _ hFt
  have h4:B*B^(size y-1)=B^size y:=by
   rw[Nat.mul_comm,←Nat.pow_succ];congr 1;omega
  omega
 ·generalize B/(tb+1)=F at *
  refine size_le ?_
  rw[Nat.pow_succ]
  exact Nat.lt_of_lt_of_le (Nat.mul_lt_mul_of_pos_right hBx hF0) (Nat.mul_le_mul_left _ (Nat.le_of_lt hFB))
 ·refine (size_pos (n:=x*(B/(tb+1)))).2 ?_
  have:=Nat.mul_pos (show 0<x by omega) hF0
  omega
 ·generalize B/(tb+1)=F at *
  have h1:B^(size y-1)≤y:=dO (by omega)
  have h2:x<y*B^(size x+1-size y):=by
   refine Nat.lt_of_lt_of_le hBx ?_
   have h3:=Nat.mul_le_mul_right (B^(size x+1-size y)) h1
   rw[←Nat.pow_add,show size y-1+(size x+1-size y)=size x by omega] at h3
   exact h3
  rw[Nat.mul_right_comm]
  exact Nat.mul_lt_mul_of_pos_right h2 hF0
def chs (s:ByteArray):List Nat:=s.data.toList.map UInt8.toNat
theorem ah (s:ByteArray):(chs s).length=s.size:=by
 unfold chs;rw[List.length_map];rfl
theorem bP {s:ByteArray} {k:Nat} (h:k<s.size):(chs s).getD k 0=s[k].toNat:=by
 have h':k<s.data.size:=h
 have h2:k<s.data.toList.length:=h'
 unfold chs
 rw[List.getD_eq_getElem?_getD,List.getElem?_map,List.getElem?_eq_getElem h2]
 rfl
def aq (cs:List Nat):Nat:=cs.findIdx (· == 47)
theorem nC {cs:List Nat} {k:Nat} (hk:k≤cs.length) (h:∀ i,i<k→cs.getD i 0≠47) (h1:k<cs.length→cs.getD k 0=47):aq cs=k:=by
 unfold aq
 rcases Nat.lt_or_ge k cs.length with hl|hl
 ·rw[List.findIdx_eq hl]
  refine ⟨by have:=h1 hl;rw[bf hl] at this;simp[this],fun j hj=>?_⟩
  have:=h j hj
  rw[bf (by omega)] at this
  simpa using this
 ·obtain rfl:k=cs.length:=by omega
  rw[List.findIdx_eq_length]
  intro x hx
  obtain⟨i,hi,rfl⟩:=List.getElem_of_mem hx
  have:=h i hi
  rw[bf hi] at this
  simpa using this
def aL (cs:List Nat):Nat:=cs.foldl (fun n c=>10*n+(c-48)) 0
theorem rP (cs:List Nat) (c:Nat):aL (cs++[c])=10*aL cs+(c-48):=by simp[aL,List.foldl_append]
def Dec (cs:List Nat):Prop:=∀ c,c∈cs→48≤c∧c≤57
theorem Dec.get {cs:List Nat} (h:Dec cs) {k:Nat} (hk:k<cs.length):48≤cs.getD k 0∧cs.getD k 0≤57:=by
 rw[bf hk];exact h _ (List.getElem_mem hk)
theorem Dec.take {cs:List Nat} (h:Dec cs) (k:Nat):Dec (cs.take k):=fun c hc=>h c (List.mem_of_mem_take hc)
theorem Dec.drop {cs:List Nat} (h:Dec cs) (k:Nat):Dec (cs.drop k):=fun c hc=>h c (List.mem_of_mem_drop hc)
theorem jq {cs:List Nat} {k:Nat} (hk:k<cs.length):aL (cs.take (k+1))=10*aL (cs.take k)+(cs.getD k 0-48):=by
 rw[List.take_add_one,List.getElem?_eq_getElem hk,Option.toList_some,rP,bf hk]
theorem gh {cs:List Nat} (h:Dec cs):∀ k,k≤cs.length→aL (cs.take k)<10^k:=by
 intro k
 induction k with
 | zero=>intro _;simp[aL]
 | succ k ih=>
  intro hk
  have:=ih (by omega)
  have hg:=h.get (show k<cs.length by omega)
  rw[jq (by omega),Nat.pow_succ]
  omega
theorem FT {cs:List Nat} (h:Dec cs) {k:Nat} (hk:k≤cs.length) (hk2:k≤17):(aL (cs.take k):Int)≤100000000000000000:=by
 have h1:=gh h k hk
 have h2:10^k≤10^17:=Nat.pow_le_pow_right (by decide) hk2
 have h3:(10:Nat)^17=100000000000000000:=by decide
 omega
theorem aH (a b:ByteArray):chs (a++b)=chs a++chs b:=by
 unfold chs
 rw[ByteArray.data_append,Array.toList_append,List.map_append]
theorem aC (a:ByteArray) (i j:Nat):chs (a.extract i j)=((chs a).drop i).take (j-i):=by
 unfold chs
 rw[ByteArray.data_extract,Array.toList_extract,List.extract_eq_take_drop,List.map_take,List.map_drop]
theorem Ac {r:Nat} (h:r<10):chs ((ByteArray.mk #[48,49,50,51,52,53,54,55,56,57]).extract r (r+1))=[48+r]:=by
 rw[aC,show chs (ByteArray.mk #[48,49,50,51,52,53,54,55,56,57])=[48,49,50,51,52,53,54,55,56,57] from rfl]
 match r,h with
 | 0,_=>rfl|1,_=>rfl|2,_=>rfl|3,_=>rfl|4,_=>rfl|5,_=>rfl|6,_=>rfl|7,_=>rfl|8,_=>rfl|9,_=>rfl
def cN (n:Nat):Nat→List Nat
 | 0=>[]
 | k+1=>(48+n/10^k%10)::cN n k
theorem fb (n k:Nat):(cN n k).length=k:=by
 induction k with
 | zero=>rfl
 | succ k ih=>simp[cN,ih]
theorem CG (n k:Nat):n/10^k/10=n/10^(k+1):=by rw[Nat.div_div_eq_div_mul,Nat.pow_succ]
theorem Dr (a b m:Nat) (hb:b<10^m):∀ k,k≤m→cN (a*10^m+b) k=cN b k:=by
 intro k
 induction k with
 | zero=>intro _;rfl
 | succ k ih=>
  intro hk
  simp only[cN]
  rw[ih (by omega)]
  congr 2
  obtain⟨d,rfl⟩:∃ d,m=k+1+d:=⟨m-(k+1),by omega⟩
  have hp:0<10^k:=Nat.pow_pos (by decide)
  have e:a*10^(k+1+d)+b=b+10^k*(10*(a*10^d)):=by
   rw[Nat.pow_add,Nat.pow_succ,Nat.add_comm]
   congr 1
   rw[Nat.mul_assoc (10^k),Nat.mul_left_comm a,Nat.mul_left_comm a]
  rw[e,Nat.add_mul_div_left _ _ hp,Nat.add_mul_mod_self_left]
theorem gv (a b m:Nat) (hb:b<10^m):∀ k,cN (a*10^m+b) (k+m)=cN a k++cN b m:=by
 intro k
 induction k with
 | zero=>rw[Nat.zero_add,Dr a b m hb m (Nat.le_refl _)];rfl
 | succ k ih=>
  rw[show k+1+m=(k+m)+1 by omega]
  simp only[cN,List.cons_append]
  rw[ih]
  congr 2
  rw[Nat.add_comm k m,Nat.pow_add,←Nat.div_div_eq_div_mul,Nat.add_comm (a*10^m),Nat.add_mul_div_right _ _ (Nat.pow_pos (by decide)),Nat.div_eq_of_lt hb,Nat.zero_add]
def sP (n:Nat) (cs:List Nat):Prop:=∃ k,cs=cN n k∧n<10^k∧1≤k∧(1<k→10^(k-1)≤n)
theorem Ai {a b:Nat} {cs:List Nat} (h:sP a cs) (ha:0<a) (hb:b<B):sP (a*B+b) (cs++cN b 9):=by
 obtain⟨k,rfl,h1,h2,h3⟩:=h
 have hB:B=10^9:=rfl
 rw[hB] at hb ⊢
 refine ⟨k+9,(gv a b 9 hb k).symm,?_,by omega,fun _=>?_⟩
 ·rw[Nat.pow_add]
  have:=Nat.mul_le_mul_right (10^9) (Nat.succ_le_of_lt h1)
  rw[Nat.succ_mul] at this
  omega
 ·rw[show k+9-1=(k-1)+9 by omega,Nat.pow_add]
  have h4:10^(k-1)≤a:=by
   rcases Nat.lt_or_ge 1 k with h|h
   ·exact h3 h
   ·rw[show k-1=0 by omega];exact ha
  exact Nat.le_trans (Nat.mul_le_mul_right (10^9) h4) (Nat.le_add_right _ _)
theorem uC {n j:Nat} (h:j<size n):val ((ai n).drop j)=val ((ai n).drop (j+1))*B+(ai n).getD j 0:=by
 rw[bg,Nat.mul_comm B,Nat.add_comm]
theorem CL {n j:Nat} (h:j<size n):0<val ((ai n).drop j):=by
 rcases Nat.eq_zero_or_pos (val ((ai n).drop j)) with h0|h0
 ·exfalso
  have hl:j≤(ai n).length:=Nat.le_of_lt h
  have h1:=bX (ai n) j hl
  rw[h0,Nat.mul_zero,Nat.add_zero,au] at h1
  have h2:=bO (ao n) j
  have h3:=dO h
  omega
 ·exact h0
theorem uz {n k least:Nat} (h0:n/10^k=0) (hl:least≤k) (h:∀ j,j<k→0<n/10^j∨j<least):n<10^k∧(least<k→10^(k-1)≤n):=by
 have hp:0<10^k:=Nat.pow_pos (by decide)
 refine ⟨by rcases (Nat.div_eq_zero_iff).1 h0 with h|h<;>omega,fun hk=>?_⟩
 rcases h (k-1) (by omega) with h1|h1
 ·rcases Nat.lt_or_ge n (10^(k-1)) with h2|h2
  ·rw[Nat.div_eq_of_lt h2] at h1;omega
  ·exact h2
 ·omega
theorem jo (a b:List Nat):aL (a++b)=aL a*10^b.length+aL b:=by
 have:∀ (b:List Nat) (n:Nat),b.foldl (fun n c=>10*n+(c-48)) n=n*10^b.length+b.foldl (fun n c=>10*n+(c-48)) 0:=by
  intro b
  induction b with
  | nil=>intro n;simp
  | cons c b ih=>
   intro n
   rw[List.foldl_cons,ih,List.foldl_cons,ih (10*0+(c-48)),List.length_cons,Nat.pow_succ,Nat.add_mul,Nat.mul_zero,Nat.zero_add,Nat.mul_comm 10 n,Nat.mul_assoc,Nat.mul_comm 10 (10^b.length),Nat.add_assoc]
 unfold aL
 rw[List.foldl_append,this]
theorem Dec.lt {cs:List Nat} (h:Dec cs):aL cs<10^cs.length:=by
 have:=gh h cs.length (Nat.le_refl _)
 rwa [List.take_of_length_le (Nat.le_refl _)] at this
theorem xL {cs:List Nat} (h:Dec cs) {l:Nat} (hl:9<l) (hlc:l≤cs.length) {zs:List Nat} {k N:Nat} (hk:zs.length=k) (hN:aL (cs.take l)*B^k+val zs=N) (hf:Fit zs) :
  Dec ((cs.take l).drop (l-9))∧((cs.take l).drop (l-9)).length=9∧aL ((cs.take l).drop (l-9))<B ∧
  aL (cs.take (l-9))*B^(k+1)+val (zs++[aL ((cs.take l).drop (l-9))])=N∧Fit (zs++[aL ((cs.take l).drop (l-9))]):=by
 have hd:=(h.take l).drop (l-9)
 have hlen:((cs.take l).drop (l-9)).length=9:=by rw[List.length_drop,List.length_take];omega
 have hlt:aL ((cs.take l).drop (l-9))<B:=by have:=hd.lt;rwa [hlen] at this
 refine ⟨hd,hlen,hlt,?_,hf.append (Fit.cons hlt Fit.nil)⟩
 have e:cs.take l=cs.take (l-9)++(cs.take l).drop (l-9):=by
  have:=(List.take_append_drop (l-9) (cs.take l)).symm
  rwa [List.take_take,Nat.min_eq_left (by omega)] at this
 have e2:aL (cs.take l)=aL (cs.take (l-9))*B+aL ((cs.take l).drop (l-9)):=by
  conv=>lhs;rw[e]
  rw[jo,hlen];rfl
 generalize aL ((cs.take l).drop (l-9))=d at *
 rw[bE,hk,Nat.pow_succ,←hN,e2,Nat.add_mul,Nat.mul_assoc,Nat.mul_comm B (B^k),Nat.mul_comm d]
 simp only[val,Nat.mul_zero,Nat.add_zero]
 omega
theorem xK {cs:List Nat} (h:Dec cs) {l:Nat} (hl:l≤9) (hlc:l≤cs.length) {zs:List Nat} {k N:Nat} (hk:zs.length=k) (hN:aL (cs.take l)*B^k+val zs=N) (hf:Fit zs) :
  val (zs++[aL (cs.take l)])=N∧Fit (zs++[aL (cs.take l)]):=by
 have hlt:aL (cs.take l)<B:=by
  have h1:=gh h l hlc
  have h2:10^l≤10^9:=Nat.pow_le_pow_right (by decide) hl
  have h3:(10:Nat)^9=B:=rfl
  omega
 refine ⟨?_,hf.append (Fit.cons hlt Fit.nil)⟩
 rw[bE,hk,←hN,Nat.mul_comm (B^k)]
 simp only[val,Nat.mul_zero,Nat.add_zero]
 omega
def nd (n:Nat):Nat:=if n<10 then 1 else nd (n/10)+1
theorem jz {n:Nat} (h:n<10):nd n=1:=by rw[nd,if_pos h]
theorem Dz {n:Nat} (h:¬n<10):nd n=nd (n/10)+1:=by rw[nd,if_neg h]
theorem gL (n:Nat):1≤nd n:=by
 rw[nd];split<;>omega
theorem dx (n:Nat):n<10^nd n:=by
 induction n using Nat.strongRecOn with
 | ind n ih=>
  by_cases h:n<10
  ·rw[jz h];omega
  ·rw[Dz h,Nat.pow_succ]
   have:=ih (n/10) (by omega)
   omega
theorem nt (n:Nat) (h1:1<nd n):10^(nd n-1)≤n:=by
 induction n using Nat.strongRecOn with
 | ind n ih=>
  by_cases h:n<10
  ·rw[jz h] at h1;omega
  ·rw[Dz h] at h1 ⊢
   rw[Nat.add_sub_cancel]
   by_cases h2:1<nd (n/10)
   ·have:=ih (n/10) (by omega) h2
    obtain⟨k,hk⟩:∃ k,nd (n/10)=k+1:=⟨nd (n/10)-1,by omega⟩
    rw[hk,Nat.add_sub_cancel] at this
    rw[hk,Nat.pow_succ];omega
   ·have:nd (n/10)=1:=by have:=gL (n/10);omega
    rw[this];omega
theorem eo {n k:Nat} (hk:1≤k):nd n≤k↔n<10^k:=by
 constructor
 ·intro h
  exact Nat.lt_of_lt_of_le (dx n) (Nat.pow_le_pow_right (by decide) h)
 ·intro h
  rcases Nat.lt_or_ge k (nd n) with h1|h1
  ·exfalso
   have h2:=nt n (by omega)
   have h3:10^k≤10^(nd n-1):=Nat.pow_le_pow_right (by decide) (by omega)
   omega
  ·exact h1
def bh (n:Nat):List Nat:=cN n (nd n)
theorem aD (n:Nat):(bh n).length=nd n:=fb _ _
theorem Ah (n:Nat):sP n (bh n):=⟨nd n,rfl,dx n,gL n,nt n⟩
theorem oH {n:Nat} {cs:List Nat} (h:sP n cs):cs=bh n:=by
 obtain⟨k,rfl,h1,h2,h3⟩:=h
 have a:nd n≤k:=(eo h2).2 h1
 have b:¬nd n<k:=fun h=>by
  have h4:=h3 (by have:=gL n;omega)
  have h5:10^nd n≤10^(k-1):=Nat.pow_le_pow_right (by decide) (by omega)
  have:=dx n
  omega
 obtain rfl:k=nd n:=by omega
 rfl
theorem CD (n k:Nat):Dec (cN n k):=by
 induction k with
 | zero=>intro c hc;simp[cN] at hc
 | succ k ih=>
  intro c hc
  simp only[cN,List.mem_cons] at hc
  rcases hc with rfl|hc
  ·have:=Nat.mod_lt (n/10^k) (show 10>0 by decide)
   omega
  ·exact ih c hc
theorem db (n:Nat):Dec (bh n):=CD _ _
theorem jJ (c:Nat) (cs:List Nat):aL (c::cs)=(c-48)*10^cs.length+aL cs:=by
 have:=jo [c] cs
 simpa [aL] using this
theorem Af (n k:Nat):aL (cN n k)=n%10^k:=by
 induction k with
 | zero=>simp[cN,aL,Nat.mod_one]
 | succ k ih=>
  simp only[cN]
  rw[jJ,ih,fb,Nat.mod_pow_succ,Nat.add_comm,Nat.mul_comm,Nat.add_sub_cancel_left]
theorem dt (n:Nat):aL (bh n)=n:=by
 unfold bh
 rw[Af,Nat.mod_eq_of_lt (dx n)]
theorem eW {a b:Nat} (h:bh a=bh b):a=b:=by
 rw[←dt a,h,dt]
theorem AR {cs:List Nat} (h:Dec cs):cN (aL cs) cs.length=cs:=by
 induction cs with
 | nil=>rfl
 | cons c cs ih=>
  have hc:=h c (List.mem_cons_self ..)
  have hcs:Dec cs:=fun x hx=>h x (List.mem_cons_of_mem _ hx)
  have hl:aL cs<10^cs.length:=by
   have:=gh hcs cs.length (Nat.le_refl _)
   rwa [List.take_of_length_le (Nat.le_refl _)] at this
  rw[jJ,List.length_cons,Nat.add_comm cs.length,gv _ _ _ hl,ih hcs]
  simp only[cN,Nat.pow_zero,Nat.div_one,List.cons_append,List.nil_append]
  congr 1
  omega
def bG (cs:List Nat):Bool:=decide (1≤cs.length) && !(decide (1<cs.length)&&cs.getD 0 0==48)&&cs.all fun c=>decide (48≤c)&&decide (c≤57)
theorem yu {cs:List Nat}:Dec cs↔(cs.all fun c=>decide (48≤c)&&decide (c≤57))=true:=by
 unfold Dec;simp
theorem du {cs:List Nat}:bG cs=true↔cs=bh (aL cs):=by
 constructor
 ·intro h
  unfold bG at h
  simp only[Bool.and_eq_true,decide_eq_true_eq,Bool.not_eq_true',Bool.and_eq_false_iff,decide_eq_false_iff_not,beq_eq_false_iff_ne] at h
  obtain⟨⟨h1,h2⟩,h3⟩:=h
  have hd:=yu.2 h3
  refine oH ⟨cs.length,(AR hd).symm,?_,h1,fun hl=>?_⟩
  ·have:=gh hd cs.length (Nat.le_refl _)
   rwa [List.take_of_length_le (Nat.le_refl _)] at this
  ·match cs,h1 with
   | c::t,_=>
    have h4:c≠48:=by
     rcases h2 with h2|h2
     ·exact absurd hl h2
     ·simpa using h2
    have hc:=hd c (List.mem_cons_self ..)
    rw[jJ,List.length_cons,Nat.add_sub_cancel]
    have:=Nat.mul_le_mul_right (10^t.length) (show 1≤c-48 by omega)
    omega
 ·intro h
  unfold bG
  rw[yu.1 (by rw[h];exact db _)]
  have h1:1≤cs.length:=by rw[h,aD];exact gL _
  simp only[h1,decide_true,Bool.true_and,Bool.and_true,Bool.not_eq_true',Bool.and_eq_false_iff,decide_eq_false_iff_not,beq_eq_false_iff_ne]
  rcases Nat.lt_or_ge 1 cs.length with h2|h2
  ·right
   intro h3
   have hn:1<nd (aL cs):=by rw[←aD,←h];exact h2
   have h4:=nt _ hn
   have h5:cs.length=nd (aL cs):=by rw[←aD,←h]
   match cs,h1,h3 with
   | c::t,_,h3=>
    obtain rfl:c=48:=h3
    rw[←h5,List.length_cons,Nat.add_sub_cancel,jJ,Nat.sub_self,Nat.zero_mul,Nat.zero_add] at h4
    have hd:Dec t:=fun x hx=>(db (aL (48::t))) x (by rw[←h];exact List.mem_cons_of_mem _ hx)
    have:=gh hd t.length (Nat.le_refl _)
    rw[List.take_of_length_le (Nat.le_refl _)] at this
    omega
  ·left;omega
def bB (n:Int):List Nat:=(if decide (n<0)=true then [45] else [])++bh n.natAbs
def cg (x:Rat):List Nat:=bB x.num++if x.den=1 then [] else 47::bh x.den
theorem qc {cs:List Nat} (h:Dec cs):∀ c,c∈cs→c≠47:=fun c hc=>by have:=h c hc;omega
theorem qM {a b:List Nat} (h:∀ c,c∈a→c≠47):aq (a++47::b)=a.length:=by
 refine nC (by simp) (fun i hi=>?_) (fun _=>?_)
 ·rw[List.getD_eq_getElem?_getD,List.getElem?_append_left hi,List.getElem?_eq_getElem hi]
  exact h _ (List.getElem_mem hi)
 ·rw[List.getD_eq_getElem?_getD,List.getElem?_append_right (Nat.le_refl _),Nat.sub_self];rfl
theorem nY {a:List Nat} (h:∀ c,c∈a→c≠47):aq a=a.length:=by
 refine nC (Nat.le_refl _) (fun i hi=>?_) (fun h=>absurd h (by omega))
 rw[List.getD_eq_getElem?_getD,List.getElem?_eq_getElem hi]
 exact h _ (List.getElem_mem hi)
theorem pH (n:Int):∀ c,c∈bB n→c≠47:=by
 intro c hc
 unfold bB at hc
 rw[List.mem_append] at hc
 rcases hc with hc|hc
 ·split at hc
  ·simp at hc;omega
  ·simp at hc
 ·exact qc (db _) c hc
theorem iN (x:Rat):aq (cg x)=(bB x.num).length:=by
 unfold cg
 split
 ·rw[List.append_nil];exact nY (pH _)
 ·exact qM (pH _)
theorem bw (n:Int):(bB n).length=(if n<0 then 1 else 0)+nd n.natAbs:=by
 unfold bB
 rw[List.length_append,aD]
 by_cases h:n<0<;>simp[h]
theorem bz (x:Rat):(cg x).length=(bB x.num).length+if x.den=1 then 0 else 1+nd x.den:=by
 unfold cg
 rw[List.length_append]
 split
 ·simp
 ·rw[List.length_cons,aD];omega
theorem jP (x:Rat):(cg x).take (bB x.num).length=bB x.num:=by
 unfold cg;rw[List.take_left'];rfl
theorem jO (x:Rat) (h:x.den≠1):(cg x).drop ((bB x.num).length+1)=bh x.den:=by
 unfold cg
 rw[if_neg h,List.drop_append,List.drop_of_length_le (by omega),Nat.add_sub_cancel_left]
 rfl
theorem uP {a b:Int} (h:bB a=bB b):a=b:=by
 have head:∀ (n:Int),(bB n).getD 0 0=45↔n<0:=fun n=>by
  unfold bB
  by_cases hn:n<0
  ·simp[hn]
  ·simp only[hn,decide_false,Bool.false_eq_true,if_false,List.nil_append,iff_false]
   have:=(db n.natAbs).get (k:=0) (by rw[aD];exact gL _)
   omega
 have hs:a<0↔b<0:=by rw[←head a,←head b,h]
 have h2:a.natAbs=b.natAbs:=by
  unfold bB at h
  refine eW ?_
  by_cases ha:a<0
  ·simpa [ha,hs.1 ha] using h
  ·have hb:¬b<0:=fun hb=>ha (hs.2 hb)
   simpa [ha,hb] using h
 omega
theorem Eh {x y:Rat} (h:cg x=cg y):x=y:=by
 have h1:(bB x.num).length=(bB y.num).length:=by rw[←iN,←iN,h]
 have h2:x.num=y.num:=by
  refine uP ?_
  rw[←jP x,h,h1,jP]
 refine Rat.ext h2 ?_
 have h3:=congrArg List.length h
 rw[bz,bz,h1] at h3
 by_cases hx:x.den=1
 ·by_cases hy:y.den=1
  ·rw[hx,hy]
  ·rw[if_pos hx,if_neg hy] at h3;omega
 ·by_cases hy:y.den=1
  ·rw[if_neg hx,if_pos hy] at h3;omega
  ·refine eW ?_
   rw[←jO x hx,←jO y hy,h,h1]
theorem iF {a b:ByteArray} (h:chs a=chs b):a=b:=by
 unfold chs at h
 have h2:a.data.toList=b.data.toList:=by
  refine List.map_inj_right (f:=UInt8.toNat) (fun x y hxy=>?_) |>.1 h
  exact UInt8.toNat_inj.1 hxy
 exact ByteArray.ext (Array.toList_inj.1 h2)
def aG (s:ByteArray) (x:Rat):Prop:=chs s=cg x
theorem aG.eq {s:ByteArray} {x y:Rat} (h:aG s x) (h2:aG s y):x=y:=Eh (h.symm.trans h2)
theorem aG.same {s t:ByteArray} {x:Rat} (h:aG s x) (h2:aG t x):s=t:=iF (h.trans h2.symm)
def Bd (x:Rat) (k:Nat):Prop:=x.num.natAbs<10^k∧x.den<10^k
theorem Bd.mono {x:Rat} {k l:Nat} (h:Bd x k) (hl:k≤l):Bd x l:=
 ⟨Nat.lt_of_lt_of_le h.1 (Nat.pow_le_pow_right (by decide) hl),Nat.lt_of_lt_of_le h.2 (Nat.pow_le_pow_right (by decide) hl)⟩
theorem Bd.pos {x:Rat} {k:Nat} (h:Bd x k):1≤k:=by
 rcases k with _|k
 ·have:=h.2;have:=x.den_nz;simp at *;omega
 ·omega
theorem rM {x:Rat} {k:Nat} (hk:1≤k):Bd x k↔nd x.num.natAbs≤k∧nd x.den≤k:=by
 unfold Bd;rw[eo hk,eo hk]
theorem gC {x:Rat} {k:Nat} (h:Bd x k):(cg x).length≤2*k+2:=by
 have h1:=(rM h.pos).1 h
 rw[bz,bw]
 split<;>split<;>omega
theorem vv (n:Int) (d:Nat) (hd:d≠0):(mkRat n d).num.natAbs≤n.natAbs∧(mkRat n d).den≤d:=by
 rw[Rat.num_mkRat,Rat.den_mkRat,if_neg hd,if_neg hd]
 refine ⟨?_,Nat.div_le_self _ _⟩
 obtain⟨m,hm⟩:((d.gcd n.natAbs:Nat):Int) ∣ n:=Int.ofNat_dvd_left.2 (Nat.gcd_dvd_right _ _)
 have hg:0<d.gcd n.natAbs:=Nat.gcd_pos_of_pos_left _ (by omega)
 generalize d.gcd n.natAbs=g at *
 subst hm
 rw[Int.mul_ediv_cancel_left _ (by omega),Int.natAbs_mul]
 exact Nat.le_mul_of_pos_left _ hg
theorem kA {x y:Rat} {k l:Nat} (h:Bd x k) (h2:Bd y l):Bd (x*y) (k+l):=by
 rw[Rat.mul_def']
 have hd:=Nat.mul_ne_zero x.den_nz y.den_nz
 obtain⟨h3,h4⟩:=vv (x.num*y.num) (x.den*y.den) hd
 refine ⟨Nat.lt_of_le_of_lt h3 ?_,Nat.lt_of_le_of_lt h4 ?_⟩
 ·rw[Int.natAbs_mul,Nat.pow_add];exact Nat.mul_lt_mul'' h.1 h2.1
 ·rw[Nat.pow_add];exact Nat.mul_lt_mul'' h.2 h2.2
theorem Ct {x y:Rat} {k l:Nat} (h:Bd x k) (h2:Bd y l):Bd (x+y) (k+l+1):=by
 rw[Rat.add_def']
 have hd:=Nat.mul_ne_zero x.den_nz y.den_nz
 obtain⟨h3,h4⟩:=vv (x.num*y.den+y.num*x.den) (x.den*y.den) hd
 have a1:=Nat.mul_lt_mul'' h.1 h2.2
 have a2:=Nat.mul_lt_mul'' h.2 h2.1
 have a3:=Nat.mul_lt_mul'' h.2 h2.2
 rw[←Nat.pow_add] at a1 a2 a3
 refine ⟨Nat.lt_of_le_of_lt h3 ?_,Nat.lt_of_le_of_lt h4 ?_⟩
 ·have e1:(x.num*(y.den:Int)).natAbs=x.num.natAbs*y.den:=by rw[Int.natAbs_mul];rfl
  have e2:(y.num*(x.den:Int)).natAbs=x.den*y.num.natAbs:=by rw[Int.natAbs_mul,Nat.mul_comm];rfl
  have e3:=Int.natAbs_add_le (x.num*(y.den:Int)) (y.num*(x.den:Int))
  rw[e1,e2] at e3
  rw[Nat.pow_succ];omega
 ·rw[Nat.pow_succ];omega
theorem wQ {x:Rat} {k:Nat} (h:Bd x k):Bd (-x) k:=by
 unfold Bd;rw[Rat.neg_num,Rat.neg_den,Int.natAbs_neg];exact h
theorem uQ {x:Rat} (h:x≠0):(x⁻¹).num=x.num.sign*x.den∧(x⁻¹).den=x.num.natAbs:=by
 have h0:x.num≠0:=fun h1=>h (Rat.num_eq_zero.1 h1)
 have hg:x.num.gcd (x.den:Int)=1:=x.reduced
 rw[Rat.inv_def,Rat.num_divInt,Rat.den_divInt,if_neg h0,hg]
 simp
theorem Cu {x:Rat} {k:Nat} (h:Bd x k):Bd (x⁻¹) k:=by
 by_cases h0:x=0
 ·subst h0;rw[Rat.inv_zero];exact h
 ·obtain⟨h1,h2⟩:=uQ h0
  have h3:x.num≠0:=fun h1=>h0 (Rat.num_eq_zero.1 h1)
  unfold Bd
  rw[h1,h2,Int.natAbs_mul,Int.natAbs_sign_of_ne_zero h3,Nat.one_mul]
  exact⟨h.2,h.1⟩
theorem bt {n k:Nat} (h:n<10^k):size n≤k:=by
 refine size_le (Nat.lt_of_lt_of_le h (Nat.pow_le_pow_left ?_ k))
 rw[show B=1000000000 from rfl];decide
theorem Dd (n:Int):0<(bB n).length:=by rw[bw];have:=gL n.natAbs;omega
theorem Ei (x:Rat):0<(cg x).length:=by rw[bz];have:=Dd x.num;omega
theorem Bb (x:Rat):(cg x).getD 0 0=45↔x.num<0:=by
 unfold cg bB
 by_cases hn:x.num<0
 ·simp[hn]
 ·simp only[hn,decide_false,Bool.false_eq_true,if_false,List.nil_append,iff_false]
  have hl:0<(bh x.num.natAbs).length:=by rw[aD];exact gL _
  have:=(db x.num.natAbs).get (k:=0) hl
  rw[List.getD_eq_getElem?_getD,List.getElem?_append_left hl,←List.getD_eq_getElem?_getD]
  omega
theorem nv:cg 0=[48]:=by
 unfold cg bB bh
 rw[show (0:Rat).num=0 from rfl,show (0:Rat).den=1 from rfl,Int.natAbs_zero,jz (by decide)]
 rfl
theorem aG.size {s:ByteArray} {x:Rat} (h:aG s x):s.size=(cg x).length:=by rw[←ah,h]
theorem aG.pos {s:ByteArray} {x:Rat} (h:aG s x):0<s.size:=by rw[h.size];exact Ei x
theorem aG.zero {s:ByteArray} {x:Rat} (h:aG s x):s=ByteArray.mk #[48]↔x=0:=by
 constructor
 ·rintro rfl
  exact h.eq (show chs _=_ by rw[nv];rfl)
 ·rintro rfl
  exact iF (by rw[h,nv];rfl)
theorem aG.head {s:ByteArray} {x:Rat} (h:aG s x) (h0:0<s.size):((s[0].toNat:Int)==45)=decide (x.num<0):=by
 have h1:=bP h0
 rw[h] at h1
 have h2:=Bb x
 rw[h1] at h2
 by_cases hx:x.num<0
 ·rw[h2.2 hx];simp[hx]
 ·have:¬s[0].toNat=45:=fun h=>hx (h2.1 h)
  simp only[hx,decide_false,beq_eq_false_iff_ne];omega
theorem vK {x:Rat} (h:0≤x.num) (h0:x.num≠0):cg (-x)=45::cg x:=by
 unfold cg bB
 rw[Rat.neg_num,Rat.neg_den,Int.natAbs_neg]
 rw[decide_eq_true (show -x.num<0 by omega),decide_eq_false (show ¬x.num<0 by omega)]
 rfl
theorem aG.minus {s:ByteArray} {x:Rat} (h:aG s x) (h1:0≤x.num) (h0:x.num≠0):aG (ByteArray.mk #[45]++s) (-x):=by
 show chs _=_
 rw[aH,h,vK h1 h0];rfl
theorem aG.tail {s:ByteArray} {x:Rat} (h:aG s x) (h1:x.num<0):aG (s.extract 1 s.size) (-x):=by
 show chs _=_
 have h2:=vK (x:=-x) (by rw[Rat.neg_num];omega) (by rw[Rat.neg_num];omega)
 rw[Rat.neg_neg] at h2
 rw[aC,h,List.take_of_length_le (by rw[List.length_drop,h.size];omega),h2]
 rfl
theorem aG.vY {s:ByteArray} {x:Rat} (h:aG s x):aq (chs s)=(bB x.num).length:=by rw[h,iN]
def aN (s:ByteArray) (n:Int):Prop:=chs s=bB n
theorem aN.size {s:ByteArray} {n:Int} (h:aN s n):s.size=(bB n).length:=by rw[←ah,h]
theorem aG.num {s:ByteArray} {x:Rat} (h:aG s x):aN (s.extract 0 (bB x.num).length) x.num:=by
 show chs _=_
 rw[aC,h,List.drop_zero,Nat.sub_zero,jP]
theorem di (n:Nat):bB n=bh n:=by
 unfold bB
 rw[decide_eq_false (show ¬(n:Int)<0 by omega)];rfl
theorem aG.den {s:ByteArray} {x:Rat} (h:aG s x) (hd:x.den≠1):aN (s.extract ((bB x.num).length+1) s.size) x.den:=by
 show chs _=_
 rw[aC,h,List.take_of_length_le (by rw[List.length_drop,h.size];omega),jO x hd,di]
theorem aG.whole {s:ByteArray} {x:Rat} (h:aG s x):(bB x.num).length=s.size↔x.den=1:=by
 rw[h.size,bz]
 split<;>omega
theorem aN.same {s t:ByteArray} {n:Int} (h:aN s n) (h2:aN t n):s=t:=iF (h.trans h2.symm)
theorem sv {s:ByteArray} {n:Int} (h:aN s n):aG s (n:Rat):=by
 show chs s=cg n
 rw[h];unfold cg
 simp
theorem sw {s t:ByteArray} {x:Rat} (h:aN s x.num) (h2:aN t x.den) (hd:x.den≠1):aG (s++ByteArray.mk #[47]++t) x:=by
 show chs _=cg x
 rw[aH,aH,h,h2,di,cg,if_neg hd,List.append_assoc];rfl
theorem qE {s:ByteArray} {x:Rat} (h:aN s x.num) (hd:x.den=1):aG s x:=by
 show chs _=cg x
 rw[h,cg,if_pos hd,List.append_nil]
def jt (cs:List Nat):Bool:=cs.all fun c=>decide (48≤c)&&decide (c≤57)
theorem rQ {cs:List Nat} (h:∀ i,i<cs.length→48≤cs.getD i 0∧cs.getD i 0≤57):jt cs=true:=by
 unfold jt
 rw[List.all_eq_true]
 intro c hc
 obtain⟨i,hi,rfl⟩:=List.getElem_of_mem hc
 have:=h i hi
 rw[bf hi] at this
 simpa using this
theorem pj {cs:List Nat} {i:Nat} (hi:i<cs.length) (h:¬(48≤cs.getD i 0∧cs.getD i 0≤57)):jt cs=false:=by
 unfold jt
 rw[List.all_eq_false]
 rw[bf hi] at h
 exact⟨_,List.getElem_mem hi,by simpa using h⟩
theorem uA (cs:List Nat):bG cs=(decide (1≤cs.length) && !(decide (1<cs.length)&&cs.getD 0 0==48)&&jt cs):=rfl
def aE (cs:List Nat):List Nat:=if cs.getD 0 0=45 then cs.drop 1 else cs
def cX (cs:List Nat):Nat:=
 if (!bG ((aE cs).take (aq (aE cs))) || (decide (cs.getD 0 0=45)&&decide ((aE cs).take (aq (aE cs))=[48])))=true then 1
 else if (decide (aq (aE cs)<(aE cs).length)&&(!bG ((aE cs).drop (aq (aE cs)+1)) || decide ((aE cs).drop (aq (aE cs)+1)=[48]) || decide ((aE cs).drop (aq (aE cs)+1)=[49])))=true then 1
 else if (decide (600<aq (aE cs)) || decide (600<(aE cs).length-aq (aE cs)-1))=true then 4
 else if (decide (aq (aE cs)<(aE cs).length) && !decide (Nat.gcd (aL ((aE cs).take (aq (aE cs)))) (aL ((aE cs).drop (aq (aE cs)+1)))=1))=true then 1
 else 0
theorem fB (cs:List Nat):aq cs≤cs.length:=List.findIdx_le_length
theorem wb {cs:List Nat} (h:aq cs<cs.length):cs=cs.take (aq cs)++47::cs.drop (aq cs+1):=by
 have h1:cs[aq cs]=47:=by
  have:=List.findIdx_getElem (p:=(· == 47)) (xs:=cs) (w:=h)
  exact eq_of_beq this
 conv=>lhs;rw[←List.take_append_drop (aq cs) cs]
 rw[List.drop_eq_getElem_cons h,h1]
theorem vJ (n:Int):cg (n:Rat)=bB n:=by unfold cg;simp
theorem dS:bh 0=[48]:=by rw[bh,jz (by decide)];rfl
theorem jr:bh 1=[49]:=by rw[bh,jz (by decide)];rfl
theorem ur (n:Int) (l:List Nat):aE (bB n++l)=bh n.natAbs++l∧((bB n++l).getD 0 0=45↔n<0):=by
 have hh:(bB n++l).getD 0 0=45↔n<0:=by
  unfold bB
  by_cases hn:n<0
  ·simp[hn]
  ·simp only[hn,decide_false,Bool.false_eq_true,if_false,List.nil_append,iff_false]
   have hl:0<(bh n.natAbs).length:=by rw[aD];exact gL _
   have:=(db n.natAbs).get (k:=0) hl
   rw[List.getD_eq_getElem?_getD,List.getElem?_append_left hl,←List.getD_eq_getElem?_getD]
   omega
 refine ⟨?_,hh⟩
 unfold aE
 by_cases hn:n<0
 ·rw[if_pos (hh.2 hn)]
  unfold bB
  rw[if_pos (by simpa using hn)];rfl
 ·rw[if_neg (fun h=>hn (hh.1 h))]
  unfold bB
  rw[if_neg (by simpa using hn)];rfl
theorem gS {x:Rat} (h:Bd x 600):cX (cg x)=0:=by
 obtain⟨hn,hd⟩:=(rM (by decide)).1 h
 obtain⟨hb,hh⟩:=ur x.num (if x.den=1 then [] else 47::bh x.den)
 change aE (cg x)=_ at hb
 change (cg x).getD 0 0=45↔_ at hh
 have hf:bG (bh x.num.natAbs)=true:=du.2 (by rw[dt])
 have hneg:(decide ((cg x).getD 0 0=45)&&decide (bh x.num.natAbs=[48]))=false:=by
  rw[Bool.and_eq_false_iff,decide_eq_false_iff_not,decide_eq_false_iff_not,hh]
  by_cases h0:x.num<0
  ·right
   intro h1
   rw[←dS] at h1
   have:=eW h1
   omega
  ·exact .inl h0
 by_cases h1:x.den=1
 ·rw[if_pos h1,List.append_nil] at hb
  have hs:aq (aE (cg x))=nd x.num.natAbs:=by rw[hb,nY (qc (db _)),aD]
  unfold cX
  rw[hs,hb,List.take_of_length_le (by rw[aD];omega),hf,hneg,aD]
  simp only[Nat.lt_irrefl,decide_false,Bool.false_and,Bool.not_true,Bool.false_or,Bool.false_eq_true,if_false]
  rw[if_neg]
  simp only[Bool.or_eq_true,decide_eq_true_eq];omega
 ·rw[if_neg h1] at hb
  have hs:aq (aE (cg x))=nd x.num.natAbs:=by rw[hb,qM (qc (db _)),aD]
  have ht:(aE (cg x)).take (nd x.num.natAbs)=bh x.num.natAbs:=by rw[hb,List.take_left' (aD _)]
  have hdr:(aE (cg x)).drop (nd x.num.natAbs+1)=bh x.den:=by
   rw[hb,List.drop_append,List.drop_of_length_le (by rw[aD];omega),aD,Nat.add_sub_cancel_left];rfl
  have hl:(aE (cg x)).length=nd x.num.natAbs+1+nd x.den:=by rw[hb,List.length_append,List.length_cons,aD,aD];omega
  have hf2:bG (bh x.den)=true:=du.2 (by rw[dt])
  have n0:decide (bh x.den=[48])=false:=by
   rw[decide_eq_false_iff_not,←dS];intro h;exact x.den_nz (eW h)
  have n1:decide (bh x.den=[49])=false:=by
   rw[decide_eq_false_iff_not,←jr];intro h;exact h1 (eW h)
  have hg:decide (Nat.gcd x.num.natAbs x.den=1)=true:=by rw[decide_eq_true_eq];exact x.reduced
  unfold cX
  rw[hs,ht,hdr,hl,hf,hneg,hf2,n0,n1,dt,dt,hg]
  simp only[Bool.not_true,Bool.false_or,Bool.and_false,Bool.false_eq_true,if_false]
  rw[if_neg]
  simp only[Bool.or_eq_true,decide_eq_true_eq];omega
theorem ux {cs:List Nat} (h:cX cs=0):∃ x:Rat,cs=cg x∧Bd x 600:=by
 unfold cX at h
 split at h
 ·exact absurd h (by decide)
 ·split at h
  ·exact absurd h (by decide)
  ·split at h
   ·exact absurd h (by decide)
   ·split at h
    ·exact absurd h (by decide)
    ·rename_i h1 h2 h3 h4
     have hle:=fB (aE cs)
     have hcs:cs=(if decide (cs.getD 0 0=45)=true then [45] else [])++aE cs:=by
      unfold aE
      by_cases hc:cs.getD 0 0=45
      ·rw[if_pos hc,decide_eq_true hc,if_pos rfl]
       match cs,hc with
       | c::t,hc=>obtain rfl:c=45:=hc;rfl
      ·rw[if_neg hc,decide_eq_false hc];rfl
     have hsp:=@wb (aE cs)
     have htl:((aE cs).take (aq (aE cs))).length=aq (aE cs):=by rw[List.length_take];omega
     have hdl:((aE cs).drop (aq (aE cs)+1)).length=(aE cs).length-aq (aE cs)-1:=by rw[List.length_drop];omega
     have htk:aq (aE cs)=(aE cs).length→(aE cs).take (aq (aE cs))=aE cs:=fun h=>List.take_of_length_le (by omega)
     generalize decide (cs.getD 0 0=45)=neg at *
     generalize (aE cs).take (aq (aE cs))=top at *
     generalize (aE cs).drop (aq (aE cs)+1)=bot at *
     generalize aq (aE cs)=k at *
     generalize aE cs=b at *
     simp only[Bool.or_eq_true,Bool.and_eq_true,Bool.not_eq_true',decide_eq_true_eq,decide_eq_false_iff_not,not_or,not_and,Bool.not_eq_false] at h1 h2 h3 h4
     obtain⟨t1,t2⟩:=h1
     have et:=du.1 t1
     have el:nd (aL top)=k:=by rw[←aD,←et,htl]
     have hsgn:neg=true→aL top≠0:=fun hn h0=>by
      refine t2 hn ?_
      rw[et,h0,dS]
     have hnum:∀ r:List Nat,(if neg=true then [45] else [])++(top++r)=bB (if neg then -(aL top:Int) else aL top)++r:=fun r=>by
      unfold bB
      cases neg
      ·simp only[Bool.false_eq_true,if_false]
       rw[decide_eq_false (by omega),Int.natAbs_natCast,←et];rfl
      ·have h0:=hsgn rfl
       simp only[if_true]
       rw[decide_eq_true (by omega),Int.natAbs_neg,Int.natAbs_natCast,←et];simp
     have hna:(if neg then -(aL top:Int) else aL top).natAbs=aL top:=by
      cases neg<;>simp
     by_cases hk:k<b.length
     ·obtain⟨⟨b1,b2⟩,b3⟩:=h2 hk
      have eb:=du.1 b1
      have hb0:aL bot≠0:=fun h=>b2 (by rw[eb,h,dS])
      have hb1:aL bot≠1:=fun h=>b3 (by rw[eb,h,jr])
      refine ⟨⟨if neg then -(aL top:Int) else aL top,aL bot,hb0,by rw[hna];exact Decidable.not_not.1 (h4 hk)⟩,?_,?_⟩
      ·unfold cg
       rw[if_neg hb1,←eb,←hnum,←hsp hk];exact hcs
      ·refine (rM (by decide)).2 ⟨?_,?_⟩
       ·show nd (if neg then -(aL top:Int) else aL top).natAbs≤600
        rw[hna];omega
       ·show nd (aL bot)≤600
        rw[←aD,←eb,hdl];omega
     ·have hkb:k=b.length:=by omega
      refine ⟨((if neg then -(aL top:Int) else aL top:Int):Rat),?_,?_⟩
      ·have:=hnum []
       rw[List.append_nil,List.append_nil] at this
       rw[vJ,←this,htk hkb];exact hcs
      ·refine (rM (by decide)).2 ⟨?_,?_⟩
       ·show nd (if neg then -(aL top:Int) else aL top).natAbs≤600
        rw[hna];omega
       ·show nd 1≤600
        rw[jz (by decide)];omega
theorem rK {x:Rat}:(if x.num<0 then -x else x).num=x.num.natAbs∧(if x.num<0 then -x else x).den=x.den:=by
 split
 ·rw[Rat.neg_num,Rat.neg_den];exact⟨by omega,rfl⟩
 ·exact⟨by omega,rfl⟩
def fO (x:Rat):Nat:=if nd x.num.natAbs≤600∧nd x.den≤600 then 0 else 4
theorem xQ (x y:Rat):(x*y).num=x.num.tdiv (Nat.gcd x.num.natAbs y.den:Nat)*y.num.tdiv (Nat.gcd y.num.natAbs x.den:Nat) ∧
  ((x*y).den:Int)=(x.den:Int).tdiv (Nat.gcd y.num.natAbs x.den:Nat)*(y.den:Int).tdiv (Nat.gcd x.num.natAbs y.den:Nat):=by
 show (Rat.mul x y).num=_∧((Rat.mul x y).den:Int)=_
 unfold Rat.mul
 simp only[Int.divExact_eq_tdiv,Nat.divExact_eq_div]
 refine ⟨trivial,?_⟩
 rw[Int.natCast_mul,Int.ofNat_tdiv,Int.ofNat_tdiv]
theorem oW {a:Int} {k:Nat} (h:a.natAbs<10^k) (b:Int):(a.tdiv b).natAbs<10^k:=by
 rw[Int.natAbs_tdiv]
 exact Nat.lt_of_le_of_lt (Nat.div_le_self _ _) h
theorem ta {a k:Nat} (h:a<10^k) (h0:0<a) (b:Nat):Nat.gcd b a<10^k:=Nat.lt_of_le_of_lt (Nat.le_of_dvd h0 (Nat.gcd_dvd_right _ _)) h
theorem iI {a b:Int} {k l:Nat} (ha:a.natAbs<10^k) (hb:b.natAbs<10^l):(a*b).natAbs<10^(k+l):=by
 rw[Int.natAbs_mul,Nat.pow_add];exact Nat.mul_lt_mul'' ha hb
theorem fo {n k:Nat} (h:n<10^k):((n:Nat):Int).natAbs<10^k:=by rw[Int.natAbs_natCast];exact h
theorem uB {m D:Int} (hD:0<D):(Rat.divInt m D).num=m.tdiv (Nat.gcd m.natAbs D.natAbs:Nat)∧((Rat.divInt m D).den:Int)=D.tdiv (Nat.gcd m.natAbs D.natAbs:Nat):=by
 rw[Rat.num_divInt,Rat.den_divInt,if_neg (by omega),Int.sign_eq_one_of_pos hD,Int.one_mul]
 have hg:D.gcd m=Nat.gcd m.natAbs D.natAbs:=by rw[Int.gcd_comm];rfl
 rw[hg]
 have hgp:0<Nat.gcd m.natAbs D.natAbs:=Nat.gcd_pos_of_pos_right _ (by omega)
 have h1:((Nat.gcd m.natAbs D.natAbs:Nat):Int) ∣ m:=Int.ofNat_dvd_left.2 (Nat.gcd_dvd_left _ _)
 generalize Nat.gcd m.natAbs D.natAbs=g at *
 refine ⟨?_,?_⟩
 ·obtain⟨q,rfl⟩:=h1
  rw[Int.mul_ediv_cancel_left _ (by omega),Int.mul_tdiv_cancel_left _ (by omega)]
 ·rw[Int.ofNat_tdiv]
  congr 1;omega
theorem vw (m D:Int):Rat.divInt (-m) (-D)=Rat.divInt m D:=by
 exact Rat.neg_divInt_neg m D
theorem FL (x y:Rat):(if x.num*y.den<y.num*x.den then (-1:Int) else if y.num*x.den<x.num*y.den then 1 else 0)=(x-y).num.sign:=by
 have h1:x.num*y.den<y.num*x.den↔x<y:=Rat.lt_iff x y |>.symm
 have h2:y.num*x.den<x.num*y.den↔y<x:=Rat.lt_iff y x |>.symm
 by_cases h:x<y
 ·rw[if_pos (h1.2 h),Int.sign_eq_neg_one_of_neg]
  have:¬0≤x-y:=by intro h3;have:=Rat.not_le.2 h;apply this;grind
  have h4:¬0≤(x-y).num:=fun h=>this (Rat.num_nonneg.1 h)
  omega
 ·rw[if_neg (fun h3=>h (h1.1 h3))]
  by_cases h':y<x
  ·rw[if_pos (h2.2 h'),Int.sign_eq_one_of_pos]
   have h3:0≤(x-y).num:=Rat.num_nonneg.2 (by grind)
   have h4:(x-y).num≠0:=fun h=>by have:=Rat.num_eq_zero.1 h;grind
   omega
  ·rw[if_neg (fun h3=>h' (h2.1 h3))]
   have:x-y=0:=by grind
   rw[this];rfl
def jx (cs:List Nat) (i j:Nat):Nat:=aL ((cs.take j).drop i)
theorem tA (cs:List Nat) (i:Nat):jx cs i i=0:=by
 unfold jx
 rw[List.drop_of_length_le (by rw[List.length_take];omega)];rfl
theorem pR {cs:List Nat} {i j:Nat} (hi:i≤j) (hj:j<cs.length):jx cs i (j+1)=10*jx cs i j+(cs.getD j 0-48):=by
 unfold jx
 rw[List.take_add_one,List.getElem?_eq_getElem hj,Option.toList_some,List.drop_append_of_le_length (by rw[List.length_take];omega),rP,bf hj]
theorem Dw {cs:List Nat} (h:Dec cs) {i j:Nat} (hi:i≤j) (hj:j≤cs.length):jx cs i j<10^(j-i):=by
 unfold jx
 have h2:Dec ((cs.take j).drop i):=(h.take j).drop i
 have hl:((cs.take j).drop i).length=j-i:=by rw[List.length_drop,List.length_take];omega
 have:=gh h2 _ (Nat.le_refl _)
 rwa [List.take_of_length_le (Nat.le_refl _),hl] at this
theorem xu {cs:List Nat} (h:Dec cs) {i j:Nat} (hi:i≤j) (hj:j≤cs.length) (hd:j-i≤18):(jx cs i j:Int)≤999999999999999999:=by
 have h1:=Dw h hi hj
 have h2:10^(j-i)≤10^18:=Nat.pow_le_pow_right (by decide) hd
 have h3:(10:Nat)^18=1000000000000000000:=by decide
 omega
theorem pQ {cs:List Nat} (h:Dec cs) {i j:Nat} (hi:i≤j) (hj:j≤cs.length) (hd:j-i≤19):jx cs i j<10000000000000000000:=by
 have h1:=Dw h hi hj
 have h2:10^(j-i)≤10^19:=Nat.pow_le_pow_right (by decide) hd
 have h3:(10:Nat)^19=10000000000000000000:=by decide
 omega
theorem pP {cs:List Nat} {i j:Nat} (hi:i≤j) (hj:j≤cs.length) (h:j-i=19∨i=0):aL (cs.take j)=aL (cs.take i)*10000000000000000000+jx cs i j:=by
 have e:cs.take j=cs.take i++(cs.take j).drop i:=by
  conv=>lhs;rw[←List.take_append_drop i (cs.take j)]
  rw[List.take_take,Nat.min_eq_left hi]
 have hl:((cs.take j).drop i).length=j-i:=by rw[List.length_drop,List.length_take];omega
 rw[e,jo,hl]
 rcases h with h|h
 ·rw[h];rfl
 ·subst h
  rw[List.take_zero,show aL []=0 from rfl,Nat.zero_mul,Nat.zero_mul];rfl
theorem vZ {c:Nat} {cs:List Nat} (h:c≠47):aq (c::cs)=aq cs+1:=by
 unfold aq
 have h2:(c==47)=false:=beq_eq_false_iff_ne.2 h
 rw[List.findIdx_cons,h2];rfl
theorem kB (cs:List Nat):aE (45::cs)=cs:=by simp[aE]
theorem ji {cs:List Nat} (h:cs.getD 0 0≠45):aE cs=cs:=by simp only[aE,if_neg h]
theorem FI (cs:List Nat) :
  cX cs=if (!bG (aE (cs.take (aq cs))) || decide (cs.take (aq cs)=[45,48]))=true then 1
   else if (decide (aq cs<cs.length)&&(!bG (cs.drop (aq cs+1)) || decide (cs.drop (aq cs+1)=[48]) || decide (cs.drop (aq cs+1)=[49])))=true then 1
   else if (decide (600<(aE (cs.take (aq cs))).length) || decide (600<(cs.drop (aq cs+1)).length))=true then 4
   else if (decide (aq cs<cs.length) && !decide (Nat.gcd (aL (aE (cs.take (aq cs)))) (aL (cs.drop (aq cs+1)))=1))=true then 1
   else 0:=by
 have key:∀ b:List Nat,(b.take (aq b)).length=aq b∧(b.drop (aq b+1)).length=b.length-aq b-1:=fun b=>by
  have:=fB b
  rw[List.length_take,List.length_drop];omega
 by_cases h:cs.getD 0 0=45
 ·match cs,h with
  | c::r,h=>
   obtain rfl:c=45:=h
   unfold cX
   rw[kB,vZ (by decide),List.take_succ_cons,kB,List.drop_succ_cons,List.length_cons,(key r).1,(key r).2]
   have e1:decide ((45::r).getD 0 0=45)=true:=rfl
   have e2:decide (45::r.take (aq r)=[45,48])=decide (r.take (aq r)=[48]):=by simp
   have e3:decide (aq r+1<r.length+1)=decide (aq r<r.length):=by simp
   rw[e1,e2,e3,Bool.true_and]
 ·unfold cX
  rw[ji h]
  have hT:(cs.take (aq cs)).getD 0 0≠45:=by
   rw[List.getD_eq_getElem?_getD,List.getElem?_take]
   split
   ·rw[←List.getD_eq_getElem?_getD];exact h
   ·decide
  rw[ji hT,(key cs).1,(key cs).2]
  have e1:decide (cs.getD 0 0=45)=false:=decide_eq_false h
  have e2:decide (cs.take (aq cs)=[45,48])=false:=by
   rw[decide_eq_false_iff_not]
   intro h2
   rw[h2] at hT
   exact hT rfl
  rw[e1,e2,Bool.false_and]
theorem Ez {t:ByteArray} (h:bG (aE (chs t))=true) (h0:decide (chs t=[45,48])=false):∃ n:Int,aN t n∧n.natAbs=aL (aE (chs t)):=by
 have hd:=du.1 h
 by_cases hn:(chs t).getD 0 0=45
 ·have hc:chs t=45::aE (chs t):=by
   match hcs:chs t,hn with
   | c::r,hn=>
    obtain rfl:c=45:=hn
    rw[kB]
  have hz:aL (aE (chs t))≠0:=by
   intro hz
   rw[hz,dS] at hd
   rw[hd] at hc
   rw[hc] at h0
   exact absurd h0 (by decide)
  refine ⟨-(aL (aE (chs t)):Int),?_,by rw[Int.natAbs_neg,Int.natAbs_natCast]⟩
  show chs t=bB _
  unfold bB
  rw[decide_eq_true (by omega),Int.natAbs_neg,Int.natAbs_natCast,←hd]
  exact hc
 ·have hb:=ji hn
  refine ⟨(aL (aE (chs t)):Int),?_,Int.natAbs_natCast _⟩
  show chs t=bB _
  rw[di,←hd];exact hb.symm
theorem vQ {s t u:ByteArray} {x:Rat} (h:aG s x) (ht:chs t=(chs s).take (aq (chs s))) (hu:chs u=(chs s).drop (aq (chs s)+1)) :
  (∀ n,aN t n→x.num=n)∧(aq (chs s)<s.size→∀ m:Nat,aN u (m:Int)→x.den=m)∧(¬aq (chs s)<s.size→x.den=1):=by
 have h1:chs s=cg x:=h
 have hs:=iN x
 refine ⟨fun n hn=>?_,fun hl m hm=>?_,fun hl=>?_⟩
 ·refine uP ?_
  have h2:chs t=bB n:=hn
  rw[←h2,ht,h1,hs,jP]
 ·have hd:x.den≠1:=fun hd=>by
   rw[h1,hs,h.size,bz,if_pos hd] at hl;omega
  have h2:chs u=bB m:=hm
  rw[hu,h1,hs,jO x hd,di] at h2
  exact eW h2
 ·rw[h1,hs] at hl
  refine (h.whole).1 ?_
  have:=h.size
  rw[bz] at this
  omega
theorem Ag {a v:Nat} (ha:0<a) (hv:v<10^19):bh (a*10^19+v)=bh a++cN v 19:=by
 obtain⟨k,hk,h1,h2,h3⟩:=Ah a
 refine (oH ⟨k+19,?_,?_,by omega,fun _=>?_⟩).symm
 ·rw[hk];exact (gv a v 19 hv k).symm
 ·rw[Nat.pow_add]
  have:=Nat.mul_le_mul_right (10^19) (Nat.succ_le_of_lt h1)
  rw[Nat.succ_mul] at this
  omega
 ·rw[show k+19-1=(k-1)+19 by omega,Nat.pow_add]
  have h4:10^(k-1)≤a:=by
   rcases Nat.lt_or_ge 1 k with h|h
   ·exact h3 h
   ·rw[show k-1=0 by omega];exact ha
  exact Nat.le_trans (Nat.mul_le_mul_right (10^19) h4) (Nat.le_add_right _ _)
theorem Ds {v:Nat} (hv:v<10^19):cN v 19=List.replicate (19-nd v) 48++bh v:=by
 have h:∀ j k,k≤j→v<10^k→cN v j=List.replicate (j-k) 48++cN v k:=by
  intro j k hk hlt
  induction j with
  | zero=>
   obtain rfl:k=0:=by omega
   simp
  | succ j ih=>
   by_cases h:k=j+1
   ·subst h;simp
   ·rw[show j+1-k=(j-k)+1 by omega,List.replicate_succ,List.cons_append,←ih (by omega)]
    simp only[cN]
    have:v/10^j=0:=Nat.div_eq_of_lt (Nat.lt_of_lt_of_le hlt (Nat.pow_le_pow_right (by decide) (by omega)))
    rw[this]
 exact h 19 (nd v) ((eo (by decide)).2 hv) (dx v)
def gX (ps:List ByteArray):List Nat:=(ps.reverse.map chs).flatten
theorem fN (ps:List ByteArray) (p:ByteArray):gX (ps++[p])=chs p++gX ps:=by simp[gX]
theorem kM {x v x2 N:Nat} {ps:List ByteArray} {p:ByteArray} (hx:x=x2*10000000000000000000+v) (hv:v<10000000000000000000) (h:bh N=bh x++gX ps) :
  (0<x2→chs p=cN v 19→bh N=bh x2++gX (ps++[p]))∧(x2=0→chs p=bh v→bh N=gX (ps++[p])):=by
 refine ⟨fun h2 hp=>?_,fun h2 hp=>?_⟩
 ·rw[fN,hp,←List.append_assoc,h]
  congr 1
  have:=Ag h2 (show v<10^19 from hv)
  rw[show (10:Nat)^19=10000000000000000000 from rfl,←hx] at this
  exact this
 ·subst h2
  rw[Nat.zero_mul,Nat.zero_add] at hx
  rw[fN,hp,h,hx]
theorem AD {α:Type} (xs:List (List α)):List.intercalate [] xs=xs.flatten:=by
 unfold List.intercalate
 induction xs with
 | nil=>rfl
 | cons x xs ih=>
  cases xs with
  | nil=>rfl
  | cons y ys=>
   rw[List.intersperse_cons_cons] at *
   simp only[List.flatten_cons] at *
   rw[ih];simp
end DigNum
