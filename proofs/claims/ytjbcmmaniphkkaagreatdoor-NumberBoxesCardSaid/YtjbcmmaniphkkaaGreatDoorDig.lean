set_option linter.unusedSectionVars false
set_option linter.unusedVariables false
set_option linter.unusedSimpArgs false
namespace DigNum
def B:Nat:=1000000000
theorem ay:0<B:=by unfold B;omega
theorem nZ:1<B:=by unfold B;omega
def val:List Nat→Nat
 | []=>0
 | x::xs=>x+B*val xs
def Fit (xs:List Nat):Prop:=∀ x∈xs,x<B
theorem Fit.nil:Fit []:=by intro x h;cases h
theorem Fit.cons {x:Nat} {xs:List Nat} (h:x<B) (k:Fit xs):Fit (x::xs):=by
 intro y hy;rcases List.mem_cons.1 hy with rfl|hy
 ·exact h
 ·exact k y hy
theorem Fit.tail {x:Nat} {xs:List Nat} (h:Fit (x::xs)):Fit xs:=fun y hy=>h y (List.mem_cons_of_mem _ hy)
theorem Fit.head {x:Nat} {xs:List Nat} (h:Fit (x::xs)):x<B:=h x (List.mem_cons_self ..)
theorem Fit.append {xs ys:List Nat} (h:Fit xs) (k:Fit ys):Fit (xs++ys):=by
 intro y hy;rcases List.mem_append.1 hy with hy|hy
 ·exact h y hy
 ·exact k y hy
theorem Fit.take {xs:List Nat} (h:Fit xs) (k:Nat):Fit (xs.take k):=fun y hy=>h y (List.mem_of_mem_take hy)
theorem Fit.drop {xs:List Nat} (h:Fit xs) (k:Nat):Fit (xs.drop k):=fun y hy=>h y (List.mem_of_mem_drop hy)
theorem aY {xs:List Nat} {i:Nat} (h:i<xs.length):xs.getD i 0=xs[i]:=by simp[List.getD_eq_getElem?_getD,h]
theorem bw {xs:List Nat} {i:Nat} (h:xs.length≤i):xs.getD i 0=0:=by simp[List.getD_eq_getElem?_getD,h]
theorem Fit.get {xs:List Nat} (h:Fit xs) (i:Nat):xs.getD i 0<B:=by
 by_cases hi:i<xs.length
 ·rw[aY hi];exact h _ (List.getElem_mem hi)
 ·rw[bw (by omega)];exact ay
theorem bA (xs ys:List Nat):val (xs++ys)=val xs+B^xs.length*val ys:=by
 induction xs with
 | nil=>simp[val]
 | cons x xs ih=>simp only[List.cons_append,val,ih,List.length_cons,Nat.pow_succ];rw[Nat.mul_add,Nat.mul_comm (B^xs.length) B,Nat.mul_assoc];omega
theorem ig (xs:List Nat) (x:Nat):val (xs++[x])=val xs+B^xs.length*x:=by
 rw[bA];simp[val]
theorem dt {xs:List Nat} (h:Fit xs):val xs<B^xs.length:=by
 induction xs with
 | nil=>simp[val]
 | cons x xs ih=>
  have h1:=ih h.tail
  have h2:=h.head
  simp only[val,List.length_cons,Nat.pow_succ]
  have:B*val xs+B≤B*B^xs.length:=by
   have:B*(val xs+1)≤B*B^xs.length:=Nat.mul_le_mul_left _ h1
   rw[Nat.mul_add] at this;omega
  rw[Nat.mul_comm (B^xs.length) B];omega
theorem eg (n:Nat):val (List.replicate n 0)=0:=by
 induction n with
 | zero=>rfl
 | succ n ih=>rw[List.replicate_succ,val,ih];simp
theorem fT {xs:List Nat} {k:Nat} (h:k<xs.length):xs.take (k+1)=xs.take k++[xs.getD k 0]:=by
 rw[List.take_succ_eq_append_getElem h,aY h]
theorem gN {xs:List Nat} {k:Nat} (h:k<xs.length):val (xs.take (k+1))=val (xs.take k)+B^k*xs.getD k 0:=by
 rw[fT h,ig,List.length_take,Nat.min_eq_left (by omega)]
theorem az (xs:List Nat) (k:Nat):val (xs.take (k+1))=val (xs.take k)+B^k*xs.getD k 0:=by
 by_cases h:k<xs.length
 ·exact gN h
 ·rw[List.take_of_length_le (by omega),List.take_of_length_le (by omega),bw (by omega)];simp
theorem aQ {xs:List Nat} {k:Nat} (h:xs.length≤k):val (xs.take k)=val xs:=by rw[List.take_of_length_le h]
def dq:Nat→Nat→List Nat
 | 0,_=>[]
 | f+1,n=>if n=0 then [] else n%B::dq f (n/B)
def ah (n:Nat):List Nat:=dq n n
theorem dI:∀ (f n:Nat),n≤f→∀ g,n≤g→dq f n=dq g n
 | 0,n,h,g,_=>by
  obtain rfl:n=0:=by omega
  cases g<;>simp[dq]
 | f+1,n,h,g,hg=>by
  by_cases hn:n=0
  ·subst hn;cases g<;>simp[dq]
  ·cases g with
   | zero=>omega
   | succ g=>
    have hlt:n/B<n:=Nat.div_lt_self (by omega) nZ
    simp only[dq,if_neg hn]
    rw[dI f (n/B) (by omega) g (by omega)]
theorem bf:ah 0=[]:=rfl
theorem bn {n:Nat} (h:n≠0):ah n=n%B::ah (n/B):=by
 have hlt:n/B<n:=Nat.div_lt_self (by omega) nZ
 unfold ah
 cases n with
 | zero=>omega
 | succ n=>
  rw[dq,if_neg (by omega)]
  rw[dI n _ (by omega) _ (Nat.le_refl _)]
theorem al (n:Nat):Fit (ah n):=by
 induction n using Nat.strongRecOn with
 | ind n ih=>
  by_cases h:n=0
  ·subst h;exact Fit.nil
  ·rw[bn h];exact Fit.cons (Nat.mod_lt _ ay) (ih _ (Nat.div_lt_self (by omega) nZ))
theorem aq (n:Nat):val (ah n)=n:=by
 induction n using Nat.strongRecOn with
 | ind n ih=>
  by_cases h:n=0
  ·subst h;rfl
  ·rw[bn h,val,ih _ (Nat.div_lt_self (by omega) nZ)]
   exact Nat.mod_add_div n B
theorem eM {n:Nat} (h:ah n≠[]):(ah n).getLast h≠0:=by
 induction n using Nat.strongRecOn with
 | ind n ih=>
  by_cases h0:n=0
  ·subst h0;exact absurd bf h
  ·have he:=bn h0
   by_cases hd:n/B=0
   ·have hl:n<B:=by
     by_cases hc:n<B
     ·exact hc
     ·exact absurd hd (Nat.ne_of_gt (Nat.div_pos (by omega) ay))
    have:ah n=[n%B]:=by rw[he,hd,bf]
    simp only[this,List.getLast_singleton]
    rw[Nat.mod_eq_of_lt hl];exact h0
   ·have hne:ah (n/B)≠[]:=by rw[bn hd];simp
    have:=ih (n/B) (Nat.div_lt_self (by omega) nZ) hne
    simp only[he]
    rw[List.getLast_cons hne]
    exact this
theorem aD {n:Nat}:ah n=[]↔n=0:=by
 constructor
 ·intro h;have:=aq n;rw[h] at this;exact this.symm
 ·rintro rfl;rfl
def size (n:Nat):Nat:=(ah n).length
theorem bT:size 0=0:=rfl
theorem lt_size (n:Nat):n<B^size n:=by
 have:=dt (al n);rwa [aq] at this
theorem size_le {n k:Nat} (h:n<B^k):size n≤k:=by
 induction k generalizing n with
 | zero=>simp at h;subst h;exact Nat.le_refl 0
 | succ k ih=>
  by_cases h0:n=0
  ·subst h0;simp[bT]
  ·have:n/B<B^k:=by
    rw[Nat.div_lt_iff_lt_mul ay];rwa [Nat.pow_succ] at h
   have h2:=ih this
   unfold size at *
   rw[bn h0];simp only[List.length_cons];omega
theorem dP {n k:Nat} (h:k<size n):B^k≤n:=by
 by_cases hc:n<B^k
 ·have:=size_le hc;omega
 ·omega
theorem aM {m n:Nat} (h:m≤n):size m≤size n:=size_le (Nat.lt_of_le_of_lt h (lt_size n))
theorem size_pos {n:Nat}:0<size n↔n≠0:=by
 unfold size
 rw[List.length_pos_iff,ne_eq,aD]
def bj:List Nat→Nat
 | []=>0
 | x::xs=>if bj xs=0 then (if x=0 then 0 else 1) else bj xs+1
theorem ep (xs:List Nat):bj xs≤xs.length:=by
 induction xs with
 | nil=>exact Nat.le_refl _
 | cons x xs ih=>simp only[bj,List.length_cons];split<;>(try split)<;>omega
theorem mj {xs:List Nat} (h:Fit xs):xs.take (bj xs)=ah (val xs):=by
 induction xs with
 | nil=>rfl
 | cons x xs ih=>
  have ih:=ih h.tail
  have hb:=h.head
  simp only[bj]
  by_cases ht:bj xs=0
  ·rw[ht] at ih
   have hv:val xs=0:=aD.1 (by rw[←ih];rfl)
   simp only[ht,if_true,val,hv,Nat.mul_zero,Nat.add_zero]
   by_cases hx:x=0
   ·subst hx;simp[bf]
   ·rw[if_neg hx,bn hx,Nat.mod_eq_of_lt hb,Nat.div_eq_of_lt hb,bf];rfl
  ·rw[if_neg ht,List.take_succ_cons,ih]
   have hv:val xs≠0:=by
    intro h0
    rw[h0,bf] at ih
    have:=congrArg List.length ih
    rw[List.length_take,Nat.min_eq_left (ep xs)] at this
    exact ht this
   have hne:val (x::xs)≠0:=by
    have:0<B*val xs:=Nat.mul_pos ay (by omega)
    simp only[val];omega
   rw[bn hne]
   simp only[val]
   rw[Nat.add_mul_mod_self_left,Nat.mod_eq_of_lt hb,Nat.add_mul_div_left _ _ ay,Nat.div_eq_of_lt hb,Nat.zero_add]
theorem kS {xs:List Nat} {n:Nat} (hn:0<n) (hl:n≤xs.length) (h:xs.getD (n-1) 0=0) (ht:bj xs≤n):bj xs≤n-1:=by
 by_cases hc:bj xs≤n-1
 ·exact hc
 ·exfalso
  have hn':bj xs=n:=by omega
  clear hc ht
  induction xs generalizing n with
  | nil=>simp at hl;omega
  | cons x xs ih=>
   simp only[bj] at hn'
   by_cases h0:bj xs=0
   ·rw[if_pos h0] at hn'
    by_cases hx:x=0
    ·rw[if_pos hx] at hn';omega
    ·rw[if_neg hx] at hn';subst hn';simp at h;exact hx h
   ·rw[if_neg h0] at hn'
    subst hn'
    refine ih (n:=bj xs) (by omega) (ep xs) ?_ rfl
    have e:bj xs+1-1=(bj xs-1)+1:=by omega
    rw[e] at h
    simpa using h
theorem kT {xs:List Nat} {n:Nat} (hn:0<n) (hl:n≤xs.length) (h:xs.getD (n-1) 0≠0) (ht:bj xs≤n):bj xs=n:=by
 refine Nat.le_antisymm ht ?_
 clear ht
 induction xs generalizing n with
 | nil=>simp at hl;omega
 | cons x xs ih=>
  simp only[bj]
  by_cases hn1:n=1
  ·subst hn1
   simp at h
   split
   ·simp
   ·omega
  ·have e:n-1=(n-1-1)+1:=by omega
   have h':xs.getD (n-1-1) 0≠0:=by rw[e] at h;simpa using h
   have:=ih (n:=n-1) (by omega) (by simp at hl;omega) h'
   rw[if_neg (by omega)];omega
def fill (f:Nat→Nat) (k n:Nat):List Nat:=(List.range n).map fun i=>if i<k then f i else 0
theorem cZ (f:Nat→Nat) (n:Nat):fill f n n=(List.range n).map f:=by
 apply List.ext_getElem
 ·simp[fill]
 ·intro i h1 h2
  have:i<n:=by simpa [fill] using h1
  simp[fill,this]
theorem fe {f:Nat→Nat} {n:Nat} (h:∀ i,i<n→f i<B):Fit (fill f n n):=by
 intro x hx
 rw[cZ] at hx
 obtain⟨i,hi,rfl⟩:=List.mem_map.1 hx
 exact h i (List.mem_range.1 hi)
theorem bQ (f:Nat→Nat) (n:Nat):val ((List.range (n+1)).map f)=val ((List.range n).map f)+B^n*f n:=by
 rw[List.range_succ,List.map_append,List.map_singleton,ig];simp
def bm (xs ys:List Nat):Nat→Nat
 | 0=>0
 | k+1=>(xs.getD k 0+ys.getD k 0+bm xs ys k)/B
theorem eV {xs ys:List Nat} (hx:Fit xs) (hy:Fit ys) (k:Nat):bm xs ys k≤1:=by
 induction k with
 | zero=>exact Nat.zero_le _
 | succ k ih=>
  have:=hx.get k;have:=hy.get k
  simp only[bm]
  have:(xs.getD k 0+ys.getD k 0+bm xs ys k)/B<2:=by
   rw[Nat.div_lt_iff_lt_mul ay];omega
  omega
def bC (xs ys:List Nat):Nat→Nat
 | 0=>0
 | k+1=>if xs.getD k 0<ys.getD k 0+bC xs ys k then 1 else 0
def df (xs ys:List Nat) (k:Nat):Nat:=
 if xs.getD k 0<ys.getD k 0+bC xs ys k then xs.getD k 0+B-(ys.getD k 0+bC xs ys k) else xs.getD k 0-(ys.getD k 0+bC xs ys k)
theorem dL (xs ys:List Nat) (k:Nat):bC xs ys k≤1:=by
 cases k with
 | zero=>exact Nat.zero_le _
 | succ k=>simp only[bC];split<;>omega
theorem me {xs ys:List Nat} (hx:Fit xs) (hy:Fit ys) (k:Nat):df xs ys k<B:=by
 have:=hx.get k;have:=hy.get k;have:=dL xs ys k
 unfold df;split<;>omega
theorem qN {xs ys:List Nat} (hy:Fit ys) (k:Nat):val ((List.range k).map (df xs ys))+val (ys.take k)=val (xs.take k)+B^k*bC xs ys k:=by
 induction k with
 | zero=>simp[val,bC]
 | succ k ih=>
  rw[bQ,az,az,Nat.pow_succ]
  have h1:=hy.get k;have h2:=dL xs ys k
  simp only[bC,df]
  split
  ·rename_i h
   have e:B^k*(xs.getD k 0+B-(ys.getD k 0+bC xs ys k))+B^k*ys.getD k 0+B^k*bC xs ys k=B^k*xs.getD k 0+B^k*B*1:=by
    rw[←Nat.mul_add,←Nat.mul_add,Nat.mul_one,←Nat.mul_add]
    congr 1;omega
   omega
  ·rename_i h
   have e:B^k*(xs.getD k 0-(ys.getD k 0+bC xs ys k))+B^k*ys.getD k 0+B^k*bC xs ys k=B^k*xs.getD k 0:=by
    rw[←Nat.mul_add,←Nat.mul_add]
    congr 1;omega
   omega
theorem tR {xs ys:List Nat} (hx:Fit xs) (hy:Fit ys) (hl:ys.length≤xs.length) (h:val ys≤val xs):val (fill (df xs ys) xs.length xs.length)=val xs-val ys:=by
 rw[cZ]
 have hp:=qN (xs:=xs) hy xs.length
 rw[aQ (Nat.le_refl _),aQ hl] at hp
 have hf:val ((List.range xs.length).map (df xs ys))<B^xs.length:=by
  have:=dt (fe (f:=df xs ys) (n:=xs.length) fun i _=>me hx hy i)
  rwa [cZ,List.length_map,List.length_range] at this
 have hc:=dL xs ys xs.length
 have:bC xs ys xs.length=0:=by
  by_cases h0:bC xs ys xs.length=0
  ·exact h0
  ·have h1:bC xs ys xs.length=1:=by omega
   rw[h1] at hp;omega
 rw[this] at hp;omega
theorem lO {x y c:Nat} (hx:x<B) (hy:y<B) (hc:c<B):(x*y+c)/B<B:=by
 rw[Nat.div_lt_iff_lt_mul ay]
 have h1:x*y≤(B-1)*(B-1):=Nat.mul_le_mul (by omega) (by omega)
 have h2:(B-1)*(B-1)+(B-1)<B*B:=by unfold B;omega
 omega
theorem cH {xs:List Nat} {k:Nat} (h:k<xs.length) (v:Nat):val (xs.set k v)+B^k*xs.getD k 0=val xs+B^k*v:=by
 induction xs generalizing k with
 | nil=>simp at h
 | cons x xs ih=>
  cases k with
  | zero=>simp[val];omega
  | succ k=>
   have h':k<xs.length:=by simpa using h
   have:=ih h'
   simp only[List.set_cons_succ,val,List.getD_cons_succ,Nat.pow_succ]
   rw[Nat.mul_comm (B^k) B,Nat.mul_assoc,Nat.mul_assoc]
   have e:B*val (xs.set k v)+B*(B^k*xs.getD k 0)=B*val xs+B*(B^k*v):=by rw[←Nat.mul_add,←Nat.mul_add,this]
   omega
theorem Fit.set {xs:List Nat} (h:Fit xs) (k:Nat) {v:Nat} (hv:v<B):Fit (xs.set k v):=by
 intro y hy
 rcases List.mem_or_eq_of_mem_set hy with hy|rfl
 ·exact h y hy
 ·exact hv
theorem Fit.gE (n:Nat):Fit (List.replicate n 0):=by
 intro x hx;rw[(List.mem_replicate.1 hx).2];exact ay
theorem getD_set_ne {xs:List Nat} {k i v:Nat} (h:k≠i):(xs.set k v).getD i 0=xs.getD i 0:=by
 simp[List.getD_eq_getElem?_getD,h]
def mr (p:List Nat) (i x:Nat) (ys:List Nat):Nat→List Nat × Nat
 | 0=>(p,0)
 | j+1=>
  let q:=mr p i x ys j
  (q.1.set (i+j) ((x*ys.getD j 0+q.1.getD (i+j) 0+q.2)%B),(x*ys.getD j 0+q.1.getD (i+j) 0+q.2)/B)
theorem eN (p:List Nat) (i x:Nat) (ys:List Nat) (j:Nat):(mr p i x ys j).1.length=p.length:=by
 induction j with
 | zero=>rfl
 | succ j ih=>simp[mr,ih]
theorem jJ {x y p c:Nat} (hx:x<B) (hy:y<B) (hp:p<B) (hc:c<B):(x*y+p+c)/B<B:=by
 rw[Nat.div_lt_iff_lt_mul ay]
 have h1:x*y≤(B-1)*(B-1):=Nat.mul_le_mul (by omega) (by omega)
 have h2:(B-1)*(B-1)+(B-1)+(B-1)<B*B:=by unfold B;omega
 omega
theorem mW {p:List Nat} {i x:Nat} {ys:List Nat} (hp:Fit p) (hx:x<B) (hy:Fit ys) (j:Nat):Fit (mr p i x ys j).1∧(mr p i x ys j).2<B:=by
 induction j with
 | zero=>exact⟨hp,ay⟩
 | succ j ih=>exact⟨ih.1.set _ (Nat.mod_lt _ ay),jJ hx (hy.get j) (ih.1.get _) ih.2⟩
theorem gY {p:List Nat} {i x:Nat} {ys:List Nat} (j t:Nat) (h:i+j≤t):(mr p i x ys j).1.getD t 0=p.getD t 0:=by
 induction j with
 | zero=>rfl
 | succ j ih=>simp only[mr];rw[getD_set_ne (by omega),ih (by omega)]
theorem xB {p:List Nat} {i x:Nat} {ys:List Nat} (j:Nat) (h:i+j≤p.length) :
  val (mr p i x ys j).1+B^(i+j)*(mr p i x ys j).2=val p+B^i*(x*val (ys.take j)):=by
 induction j with
 | zero=>simp[mr,val]
 | succ j ih=>
  have ih:=ih (by omega)
  simp only[mr]
  generalize hq:mr p i x ys j=q at *
  have hl:q.1.length=p.length:=by rw[←hq];exact eN _ _ _ _ _
  have hs:=cH (xs:=q.1) (k:=i+j) (by omega) ((x*ys.getD j 0+q.1.getD (i+j) 0+q.2)%B)
  have hm:=Nat.mod_add_div (x*ys.getD j 0+q.1.getD (i+j) 0+q.2) B
  rw[az,show i+(j+1)=(i+j)+1 from rfl,Nat.pow_succ,Nat.mul_assoc]
  have e:B^(i+j)*((x*ys.getD j 0+q.1.getD (i+j) 0+q.2)%B)+B^(i+j)*(B*((x*ys.getD j 0+q.1.getD (i+j) 0+q.2)/B)) =
    B^(i+j)*(x*ys.getD j 0)+B^(i+j)*q.1.getD (i+j) 0+B^(i+j)*q.2:=by
   rw[←Nat.mul_add,hm,Nat.mul_add,Nat.mul_add]
  have e2:B^i*(x*(val (ys.take j)+B^j*ys.getD j 0))=B^i*(x*val (ys.take j))+B^(i+j)*(x*ys.getD j 0):=by
   rw[Nat.mul_add,Nat.mul_add,Nat.pow_add,Nat.mul_left_comm x,Nat.mul_assoc]
  rw[e2];omega
def mo (xs ys:List Nat):Nat→List Nat
 | 0=>List.replicate (xs.length+ys.length) 0
 | i+1=>let q:=mr (mo xs ys i) i (xs.getD i 0) ys ys.length;q.1.set (i+ys.length) q.2
theorem gX (xs ys:List Nat) (i:Nat):(mo xs ys i).length=xs.length+ys.length:=by
 induction i with
 | zero=>simp[mo]
 | succ i ih=>simp[mo,eN,ih]
theorem pP {xs ys:List Nat} (hx:Fit xs) (hy:Fit ys) (i:Nat):Fit (mo xs ys i):=by
 induction i with
 | zero=>exact Fit.gE _
 | succ i ih=>have:=mW (i:=i) ih (hx.get i) hy ys.length;exact this.1.set _ this.2
theorem oI {xs ys:List Nat} (i t:Nat) (h:i+ys.length≤t):(mo xs ys i).getD t 0=0:=by
 induction i with
 | zero=>simp only[mo];by_cases ht:t<xs.length+ys.length<;>simp[List.getD_eq_getElem?_getD,ht]
 | succ i ih=>simp only[mo];rw[getD_set_ne (by omega),gY _ _ (by omega),ih (by omega)]
theorem xA (xs ys:List Nat) (i:Nat) (h:i≤xs.length):val (mo xs ys i)=val (xs.take i)*val ys:=by
 induction i with
 | zero=>simp[mo,eg,val]
 | succ i ih=>
  have ih:=ih (by omega)
  simp only[mo]
  have hl:=gX xs ys i
  have hv:=xB (p:=mo xs ys i) (i:=i) (x:=xs.getD i 0) (ys:=ys) ys.length (by omega)
  have hz:(mr (mo xs ys i) i (xs.getD i 0) ys ys.length).1.getD (i+ys.length) 0=0:=by
   rw[gY _ _ (Nat.le_refl _),oI _ _ (Nat.le_refl _)]
  generalize hq:mr (mo xs ys i) i (xs.getD i 0) ys ys.length=q at *
  have hql:q.1.length=xs.length+ys.length:=by rw[←hq,eN,hl]
  have hs:=cH (xs:=q.1) (k:=i+ys.length) (by omega) q.2
  rw[hz] at hs
  rw[aQ (Nat.le_refl _)] at hv
  rw[az,Nat.add_mul,Nat.mul_assoc]
  omega
theorem xz (xs ys:List Nat):val (mo xs ys xs.length)=val xs*val ys:=by
 rw[xA _ _ _ (Nat.le_refl _),aQ (Nat.le_refl _)]
theorem jf {xs ys:List Nat} (hx:Fit xs) (hl:xs.length=ys.length) {i:Nat} (hi:i<xs.length)
  (he:∀ t,i<t→t<xs.length→xs.getD t 0=ys.getD t 0) (h:xs.getD i 0<ys.getD i 0):val xs<val ys:=by
 have ex:xs=xs.take (i+1)++xs.drop (i+1):=(List.take_append_drop _ _).symm
 have ey:ys=ys.take (i+1)++ys.drop (i+1):=(List.take_append_drop _ _).symm
 have ed:xs.drop (i+1)=ys.drop (i+1):=by
  apply List.ext_getElem
  ·simp[hl]
  ·intro t h1 h2
   rw[List.length_drop] at h1 h2
   rw[List.getElem_drop,List.getElem_drop,←aY (by omega),←aY (by omega)]
   exact he _ (by omega) (by omega)
 rw[ex,ey,bA,bA,ed,az,az,List.length_take,List.length_take,hl]
 have h1:=dt (hx.take i)
 rw[List.length_take,Nat.min_eq_left (by omega)] at h1
 have h2:B^i*xs.getD i 0+B^i≤B^i*ys.getD i 0:=by
  have:B^i*(xs.getD i 0+1)≤B^i*ys.getD i 0:=Nat.mul_le_mul_left _ h
  rwa [Nat.mul_add,Nat.mul_one] at this
 omega
theorem lA {m n:Nat} (h:size m<size n):m<n:=by
 have h1:=lt_size m
 have h2:=dP h
 omega
theorem fK {A c v1 v0 b q r:Nat} (he:q*v1+r=A) (hv:0<v1*b+v0)
  (h:r*b+c<q*v0):(A*b+c)/(v1*b+v0)≤q-1∧0<q:=by
 have hq0:0<q:=by
  rcases Nat.eq_zero_or_pos q with h0|h0
  ·subst h0;simp at h
  ·exact h0
 refine ⟨?_,hq0⟩
 have hlt:(A*b+c)/(v1*b+v0)<q:=by
  rw[Nat.div_lt_iff_lt_mul hv]
  have e:q*(v1*b+v0)=q*v1*b+q*v0:=by rw[Nat.mul_add,Nat.mul_assoc]
  have e2:A*b=q*v1*b+r*b:=by rw[←he,Nat.add_mul]
  omega
 omega
theorem iy {A c v1 v0 b q r:Nat} (he:q*v1+r=A) (hv:0<v1*b+v0) (h:q*v0≤r*b+c):q≤(A*b+c)/(v1*b+v0):=by
 rw[Nat.le_div_iff_mul_le hv]
 have e:q*(v1*b+v0)=q*v1*b+q*v0:=by rw[Nat.mul_add,Nat.mul_assoc]
 have e2:A*b=q*v1*b+r*b:=by rw[←he,Nat.add_mul]
 omega
theorem fg {A c v1 v0 b:Nat} (hv1:0<v1) (hc:c<b):(A*b+c)/(v1*b+v0)≤A/v1:=by
 have hb:0<b:=by omega
 have hv:0<v1*b+v0:=by have:=Nat.mul_pos hv1 hb;omega
 have h1:=Nat.div_mul_le_self (A*b+c) (v1*b+v0)
 rw[Nat.le_div_iff_mul_le hv1]
 generalize hQ:(A*b+c)/(v1*b+v0)=Q at *
 have h2:Q*v1*b≤A*b+c:=by
  have e:Q*(v1*b+v0)=Q*v1*b+Q*v0:=by rw[Nat.mul_add,Nat.mul_assoc]
  omega
 have h3:Q*v1*b<(A+1)*b:=by rw[Nat.add_mul];omega
 have h4:Q*v1<A+1:=Nat.lt_of_mul_lt_mul_right h3
 omega
theorem kB {T D s u v P:Nat} (hP:0<P) (hs:s<P) (hD:0<D) (hu:u=T*P+s) (hv:D*P≤v):u/v≤T/D:=by
 have hv0:0<v:=Nat.lt_of_lt_of_le (Nat.mul_pos hD hP) hv
 have h1:=Nat.div_mul_le_self u v
 rw[Nat.le_div_iff_mul_le hD]
 generalize u/v=Q at *
 have h2:Q*(D*P)≤Q*v:=Nat.mul_le_mul_left _ hv
 have h3:Q*D*P<(T+1)*P:=by rw[Nat.add_mul,Nat.mul_assoc];omega
 have h4:Q*D<T+1:=Nat.lt_of_mul_lt_mul_right h3
 omega
def ds (d:Nat):List Nat→List Nat × Nat
 | []=>([],0)
 | x::xs=>(((ds d xs).2*B+x)/d::(ds d xs).1,((ds d xs).2*B+x)%d)
theorem jH (d:Nat) (xs:List Nat):(ds d xs).1.length=xs.length:=by
 induction xs with
 | nil=>rfl
 | cons x xs ih=>simp[ds,ih]
theorem gh {d:Nat} (hd:0<d) (xs:List Nat):val xs=val (ds d xs).1*d+(ds d xs).2∧(ds d xs).2<d:=by
 induction xs with
 | nil=>exact⟨by simp[ds,val],hd⟩
 | cons x xs ih=>
  refine ⟨?_,Nat.mod_lt _ hd⟩
  have hm:=Nat.mod_add_div ((ds d xs).2*B+x) d
  simp only[ds,val]
  rw[ih.1,Nat.mul_add,Nat.add_mul,Nat.mul_comm (((ds d xs).2*B+x)/d) d,←Nat.mul_assoc,Nat.mul_comm B (ds d xs).2]
  omega
theorem sQ {d:Nat} (hd:0<d) {xs:List Nat} (h:Fit xs):Fit (ds d xs).1:=by
 induction xs with
 | nil=>exact Fit.nil
 | cons x xs ih=>
  refine Fit.cons ?_ (ih h.tail)
  have hr:=(gh hd xs).2
  have hx:=h.head
  rw[Nat.div_lt_iff_lt_mul hd]
  have:(ds d xs).2*B+B≤d*B:=by
   have:=Nat.mul_le_mul_right B (Nat.succ_le_of_lt hr)
   rwa [Nat.succ_mul] at this
  rw[Nat.mul_comm B d]
  omega
theorem oE (d:Nat) {xs:List Nat} {i:Nat} (h:i<xs.length) :
  ds d (xs.drop i)=(((ds d (xs.drop (i+1))).2*B+xs.getD i 0)/d::(ds d (xs.drop (i+1))).1,((ds d (xs.drop (i+1))).2*B+xs.getD i 0)%d):=by
 have e:xs.drop i=xs.getD i 0::xs.drop (i+1):=by rw[aY h];exact (List.drop_eq_getElem_cons h)
 rw[e];rfl
theorem jS (i:Nat) (qs:List Nat) (v:Nat):(List.replicate (i+1) 0++qs).set i v=List.replicate i 0++v::qs:=by
 rw[List.replicate_succ',List.append_assoc,List.set_append_right _ _ (by simp)]
 simp
theorem sP {d:Nat} (hd:0<d) (xs:List Nat):val (ds d xs).1=val xs/d∧(ds d xs).2=val xs%d:=by
 obtain⟨h1,h2⟩:=gh hd xs
 rw[Nat.mul_comm] at h1
 constructor
 ·rw[h1,Nat.mul_add_div hd,Nat.div_eq_of_lt h2,Nat.add_zero]
 ·rw[h1,Nat.mul_add_mod,Nat.mod_eq_of_lt h2]
def ms (u:List Nat) (j:Nat) (v:List Nat) (d:Nat):Nat→List Nat × Nat × Nat
 | 0=>(u,0,0)
 | k+1=>
  let s:=ms u j v d k
  let t:=d*v.getD k 0+s.2.1
  (s.1.set (j+k) (if s.1.getD (j+k) 0<t%B+s.2.2 then s.1.getD (j+k) 0+B-(t%B+s.2.2) else s.1.getD (j+k) 0-(t%B+s.2.2)),
   t/B,if s.1.getD (j+k) 0<t%B+s.2.2 then 1 else 0)
theorem dY (u:List Nat) (j:Nat) (v:List Nat) (d k:Nat):(ms u j v d k).1.length=u.length:=by
 induction k with
 | zero=>rfl
 | succ k ih=>simp[ms,ih]
theorem ju {u:List Nat} {j:Nat} {v:List Nat} {d:Nat} (hu:Fit u) (hv:Fit v) (hd:d<B) (k:Nat) :
  Fit (ms u j v d k).1∧(ms u j v d k).2.1<B∧(ms u j v d k).2.2≤1:=by
 induction k with
 | zero=>exact⟨hu,ay,Nat.zero_le _⟩
 | succ k ih=>
  obtain⟨h1,h2,h3⟩:=ih
  simp only[ms]
  generalize ms u j v d k=s at *
  have hx:=h1.get (j+k)
  have hm:(d*v.getD k 0+s.2.1)%B<B:=Nat.mod_lt _ ay
  refine ⟨h1.set _ ?_,lO hd (hv.get k) h2,by split<;>omega⟩
  split<;>omega
theorem mX (u:List Nat) (j:Nat) (v:List Nat) (d k:Nat):(ms u j v d k).2.2≤1:=by
 cases k with
 | zero=>exact Nat.zero_le _
 | succ k=>simp only[ms];split<;>omega
theorem xC {u:List Nat} {j:Nat} {v:List Nat} {d:Nat} (k:Nat) (h:j+k≤u.length) :
  val (ms u j v d k).1+B^j*(d*val (v.take k))=val u+B^(j+k)*((ms u j v d k).2.1+(ms u j v d k).2.2):=by
 induction k with
 | zero=>simp[ms,val]
 | succ k ih=>
  have ih:=ih (by omega)
  simp only[ms]
  have hl:=dY u j v d k
  have hb:=mX u j v d k
  generalize ms u j v d k=s at *
  have hm:=Nat.mod_add_div (d*v.getD k 0+s.2.1) B
  generalize ht:d*v.getD k 0+s.2.1=t at *
  rw[az,show j+(k+1)=(j+k)+1 from rfl,Nat.pow_succ]
  have e2:B^j*(d*(val (v.take k)+B^k*v.getD k 0))=B^j*(d*val (v.take k))+B^(j+k)*(d*v.getD k 0):=by
   rw[Nat.mul_add,Nat.mul_add,Nat.pow_add,Nat.mul_left_comm d,Nat.mul_assoc]
  rw[e2]
  have e3:B^(j+k)*(d*v.getD k 0)+B^(j+k)*s.2.1=B^(j+k)*(t%B)+B^(j+k)*B*(t/B):=by
   rw[←Nat.mul_add,ht,Nat.mul_assoc,←Nat.mul_add,hm]
  split
  ·rename_i hlt
   have hs:=cH (xs:=s.1) (k:=j+k) (by omega) (s.1.getD (j+k) 0+B-(t%B+s.2.2))
   have e4:B^(j+k)*(s.1.getD (j+k) 0+B-(t%B+s.2.2))+B^(j+k)*(t%B)+B^(j+k)*s.2.2=B^(j+k)*s.1.getD (j+k) 0+B^(j+k)*B:=by
    have:t%B<B:=Nat.mod_lt _ ay
    rw[←Nat.mul_add,←Nat.mul_add,←Nat.mul_add];congr 1;omega
   have e6:=Nat.mul_add (B^(j+k)) s.2.1 s.2.2
   have e7:=Nat.mul_add (B^(j+k)*B) (t/B) 1
   rw[Nat.mul_one] at e7
   omega
  ·rename_i hlt
   have hs:=cH (xs:=s.1) (k:=j+k) (by omega) (s.1.getD (j+k) 0-(t%B+s.2.2))
   have e4:B^(j+k)*(s.1.getD (j+k) 0-(t%B+s.2.2))+B^(j+k)*(t%B)+B^(j+k)*s.2.2=B^(j+k)*s.1.getD (j+k) 0:=by
    rw[←Nat.mul_add,←Nat.mul_add];congr 1;omega
   have e6:=Nat.mul_add (B^(j+k)) s.2.1 s.2.2
   rw[Nat.add_zero]
   omega
theorem bc (xs:List Nat) (i:Nat):val (xs.drop i)=xs.getD i 0+B*val (xs.drop (i+1)):=by
 by_cases h:i<xs.length
 ·rw[List.drop_eq_getElem_cons h,val,aY h]
 ·rw[List.drop_of_length_le (by omega),List.drop_of_length_le (by omega),bw (by omega)];simp[val]
theorem bU (xs:List Nat) (i:Nat) (h:i≤xs.length):val xs=val (xs.take i)+B^i*val (xs.drop i):=by
 conv=>lhs;rw[←List.take_append_drop i xs]
 rw[bA,List.length_take,Nat.min_eq_left h]
theorem bM {xs:List Nat} (hx:Fit xs) (i:Nat):val (xs.take i)<B^i:=by
 have h:=dt (hx.take i)
 refine Nat.lt_of_lt_of_le h (Nat.pow_le_pow_right ay ?_)
 rw[List.length_take];exact Nat.min_le_left _ _
theorem fP {u:List Nat} {j:Nat} {v:List Nat} {d:Nat} (k t:Nat) (h:j+k≤t):(ms u j v d k).1.getD t 0=u.getD t 0:=by
 induction k with
 | zero=>rfl
 | succ k ih=>simp only[ms];rw[getD_set_ne (by omega),ih (by omega)]
def ab (u:List Nat) (j:Nat) (v:List Nat):Nat→List Nat × Nat
 | 0=>(u,0)
 | k+1=>((ab u j v k).1.set (j+k) (((ab u j v k).1.getD (j+k) 0+v.getD k 0+(ab u j v k).2)%B),((ab u j v k).1.getD (j+k) 0+v.getD k 0+(ab u j v k).2)/B)
theorem eE (u:List Nat) (j:Nat) (v:List Nat) (k:Nat):(ab u j v k).1.length=u.length:=by
 induction k with
 | zero=>rfl
 | succ k ih=>simp[ab,ih]
theorem kl {u:List Nat} {j:Nat} {v:List Nat} (hu:Fit u) (hv:Fit v) (k:Nat):Fit (ab u j v k).1∧(ab u j v k).2≤1:=by
 induction k with
 | zero=>exact⟨hu,Nat.zero_le _⟩
 | succ k ih=>
  refine ⟨ih.1.set _ (Nat.mod_lt _ ay),?_⟩
  have h1:=ih.1.get (j+k);have h2:=hv.get k;have h3:=ih.2
  simp only[ab]
  have:((ab u j v k).1.getD (j+k) 0+v.getD k 0+(ab u j v k).2)/B<2:=by rw[Nat.div_lt_iff_lt_mul ay];omega
  omega
theorem gP {u:List Nat} {j:Nat} {v:List Nat} (k t:Nat) (h:j+k≤t):(ab u j v k).1.getD t 0=u.getD t 0:=by
 induction k with
 | zero=>rfl
 | succ k ih=>simp only[ab];rw[getD_set_ne (by omega),ih (by omega)]
theorem wI {u:List Nat} {j:Nat} {v:List Nat} (k:Nat) (h:j+k≤u.length) :
  val (ab u j v k).1+B^(j+k)*(ab u j v k).2=val u+B^j*val (v.take k):=by
 induction k with
 | zero=>simp[ab,val]
 | succ k ih=>
  have ih:=ih (by omega)
  simp only[ab]
  have hl:=eE u j v k
  generalize ab u j v k=s at *
  have hs:=cH (xs:=s.1) (k:=j+k) (by omega) ((s.1.getD (j+k) 0+v.getD k 0+s.2)%B)
  have hm:=Nat.mod_add_div (s.1.getD (j+k) 0+v.getD k 0+s.2) B
  rw[az,show j+(k+1)=(j+k)+1 from rfl,Nat.pow_succ,Nat.mul_assoc]
  have e:B^(j+k)*((s.1.getD (j+k) 0+v.getD k 0+s.2)%B)+B^(j+k)*(B*((s.1.getD (j+k) 0+v.getD k 0+s.2)/B))=B^(j+k)*s.1.getD (j+k) 0+B^(j+k)*v.getD k 0+B^(j+k)*s.2:=by
   rw[←Nat.mul_add,hm,Nat.mul_add,Nat.mul_add]
  have e2:B^j*(val (v.take k)+B^k*v.getD k 0)=B^j*val (v.take k)+B^(j+k)*v.getD k 0:=by
   rw[Nat.mul_add,Nat.pow_add,Nat.mul_assoc]
  rw[e2];omega
def fE (u:List Nat) (t:Nat):Prop:=∀ i,t≤i→u.getD i 0=0
theorem fE.drop {u:List Nat} {t:Nat} (h:fE u t):val (u.drop t)=0:=by
 have:∀ n t,fE u t→u.length≤t+n→val (u.drop t)=0:=by
  intro n
  induction n with
  | zero=>intro t _ hl;rw[List.drop_of_length_le (by omega)];rfl
  | succ n ih=>
   intro t h hl
   rw[bc,h t (Nat.le_refl _),ih (t+1) (fun i hi=>h i (by omega)) (by omega)];simp
 exact this u.length t h (by omega)
theorem fE.lt {u:List Nat} {t:Nat} (hf:Fit u) (h:fE u t):val u<B^t:=by
 by_cases ht:t≤u.length
 ·rw[bU u t ht,h.drop,Nat.mul_zero,Nat.add_zero];exact bM hf t
 ·exact Nat.lt_of_lt_of_le (dt hf) (Nat.pow_le_pow_right ay (by omega))
theorem eK {u:List Nat} {t:Nat} (h:val u<B^t):fE u t:=by
 intro i hi
 by_cases hl:i<u.length
 ·have h1:=bU u i (by omega)
  rw[bc] at h1
  have hp:0<B^i:=Nat.pow_pos ay
  have h2:B^t≤B^i:=Nat.pow_le_pow_right ay hi
  rcases Nat.eq_zero_or_pos (u.getD i 0) with h0|h0
  ·exact h0
  ·exfalso
   have:B^i*1≤B^i*(u.getD i 0+B*val (u.drop (i+1))):=Nat.mul_le_mul_left _ (by omega)
   omega
 ·exact bw (by omega)
structure Dig (U W v : List Nat) (j n g b : Nat) : Prop where
 fit:Fit W
 len:W.length=U.length
 high:fE W (j+n+1)
 le:b≤1
 val:val W+B^j*(g*val v)=val U+B^(j+n+1)*b
def digit (U v:List Nat) (j:Nat):Nat:=val (U.drop j)/val v
theorem eF {U v:List Nat} {j g:Nat} (hU:Fit U) (hv:0<val v) (hj:j≤U.length):g≤digit U v j↔B^j*(g*val v)≤val U:=by
 unfold digit
 rw[Nat.le_div_iff_mul_le hv,bU U j hj]
 have h1:=bM hU j
 have hp:0<B^j:=Nat.pow_pos ay
 constructor
 ·intro h
  have:=Nat.mul_le_mul_left (B^j) h
  omega
 ·intro h
  have h2:B^j*(g*DigNum.val v)<B^j*(DigNum.val (U.drop j)+1):=by rw[Nat.mul_add,Nat.mul_one];omega
  have:=Nat.lt_of_mul_lt_mul_left h2
  omega
theorem Dig.more {U W v:List Nat} {j n g:Nat} (h:Dig U W v j n g 1) (hU:Fit U) (hv:0<DigNum.val v) (hj:j≤U.length):digit U v j<g:=by
 rcases Nat.lt_or_ge (digit U v j) g with h1|h1
 ·exact h1
 ·exfalso
  have h2:=(eF hU hv hj).1 h1
  have h3:=h.val
  have h4:=h.high.lt h.fit
  omega
theorem Dig.done {U W v:List Nat} {j n g:Nat} (h:Dig U W v j n g 0) (hU:Fit U) (hv:0<DigNum.val v) (hj:j≤U.length) (hg:digit U v j≤g):g=digit U v j∧DigNum.val W<DigNum.val v*B^j∧DigNum.val W+DigNum.val v*(B^j*g)=DigNum.val U:=by
 have h3:=h.val
 rw[Nat.mul_zero,Nat.add_zero] at h3
 have hle:g≤digit U v j:=(eF hU hv hj).2 (by omega)
 have he:g=digit U v j:=by omega
 refine ⟨he,?_,by rw[←h3];congr 1;rw[Nat.mul_left_comm,Nat.mul_comm (DigNum.val v)]⟩
 have h5:¬g+1≤digit U v j:=by omega
 rw[eF hU hv hj] at h5
 have e:B^j*((g+1)*DigNum.val v)=B^j*(g*DigNum.val v)+DigNum.val v*B^j:=by rw[Nat.add_mul,Nat.mul_add,Nat.one_mul,Nat.mul_comm (DigNum.val v)]
 omega
theorem nK {xs:List Nat} {k v:Nat} (h:k<xs.length):(xs.set k v).getD k 0=v:=by
 simp[List.getD_eq_getElem?_getD,h]
theorem mG {U v:List Nat} {j n g:Nat} (hU:Fit U) (hv:Fit v) (hn:v.length=n) (hl:j+n<U.length) (hh:fE U (j+n+1)) (hg:g<B)
  (z:Nat) (b:Nat) (hz:z=if U.getD (j+n) 0<(ms U j v g n).2.1+(ms U j v g n).2.2 then U.getD (j+n) 0+B-((ms U j v g n).2.1+(ms U j v g n).2.2) else U.getD (j+n) 0-((ms U j v g n).2.1+(ms U j v g n).2.2))
  (hb:b=if U.getD (j+n) 0<(ms U j v g n).2.1+(ms U j v g n).2.2 then 1 else 0):Dig U ((ms U j v g n).1.set (j+n) z) v j n g b:=by
 have hm:=xC (u:=U) (j:=j) (v:=v) (d:=g) n (by omega)
 have hlen:=dY U j v g n
 have ho:=fP (u:=U) (j:=j) (v:=v) (d:=g) n (j+n) (Nat.le_refl _)
 obtain⟨f1,f2,f3⟩:=ju (j:=j) hU hv hg n
 have hx:=hU.get (j+n)
 have hzlt:z<B:=by rw[hz];split<;>omega
 have hs:=cH (xs:=(ms U j v g n).1) (k:=j+n) (by omega) z
 rw[aQ (by omega)] at hm
 rw[ho] at hs
 refine ⟨f1.set _ hzlt,by simp[hlen],?_,by rw[hb];split<;>omega,?_⟩
 ·intro i hi
  rw[getD_set_ne (by omega),fP _ _ (by omega),hh i hi]
 ·have key:B^(j+n)*z+B^(j+n)*((ms U j v g n).2.1+(ms U j v g n).2.2)=B^(j+n)*U.getD (j+n) 0+B^(j+n+1)*b:=by
   rw[Nat.pow_succ,Nat.mul_assoc,←Nat.mul_add,←Nat.mul_add]
   congr 1
   rw[hz,hb]
   split<;>omega
  omega
theorem pk {U W v:List Nat} {j n g:Nat} (h:Dig U W v j n (g+1) 1) (hU:Fit U) (hv:Fit v) (hvp:0<val v) (hn:v.length=n) (hl:j+n<U.length)
  (z o:Nat) (hz:z=(W.getD (j+n) 0+(ab W j v n).2)%B) (ho:o=(W.getD (j+n) 0+(ab W j v n).2)/B):o≤1∧Dig U ((ab W j v n).1.set (j+n) z) v j n g (1-o):=by
 have hm:=wI (u:=W) (j:=j) (v:=v) n (by rw[h.len];omega)
 have hlen:=eE W j v n
 have hot:=gP (u:=W) (j:=j) (v:=v) n (j+n) (Nat.le_refl _)
 obtain⟨f1,f2⟩:=kl (j:=j) h.fit hv n
 have hx:=h.fit.get (j+n)
 have hzlt:z<B:=by rw[hz];exact Nat.mod_lt _ ay
 have hs:=cH (xs:=(ab W j v n).1) (k:=j+n) (by rw[hlen,h.len];exact hl) z
 rw[aQ (by omega)] at hm
 rw[hot] at hs
 have ho1:o≤1:=by
  have:o<2:=by rw[ho,Nat.div_lt_iff_lt_mul ay];omega
  omega
 have hmd:=Nat.mod_add_div (W.getD (j+n) 0+(ab W j v n).2) B
 rw[←hz,←ho] at hmd
 refine ⟨ho1,f1.set _ hzlt,by simp[hlen,h.len],?_,by omega,?_⟩
 ·intro i hi
  rw[getD_set_ne (by omega),gP _ _ (by omega),h.high i hi]
 ·have hv1:=h.val
  have key:B^(j+n)*z+B^(j+n+1)*o=B^(j+n)*W.getD (j+n) 0+B^(j+n)*(ab W j v n).2:=by
   rw[Nat.pow_succ,Nat.mul_assoc,←Nat.mul_add,←Nat.mul_add,hmd]
  have e:B^j*((g+1)*val v)=B^j*(g*val v)+B^j*val v:=by rw[Nat.add_mul,Nat.one_mul,Nat.mul_add]
  have e2:B^(j+n+1)*(1-o)+B^(j+n+1)*o=B^(j+n+1):=by
   rw[←Nat.mul_add,show 1-o+o=1 by omega,Nat.mul_one]
  rw[Nat.mul_one] at hv1
  have _:=hU
  have _:=hvp
  omega
structure Div (X V : Nat) (v U qs : List Nat) (k : Nat) : Prop where
 fitU:Fit U
 fitQ:Fit qs
 sum:val U+V*val qs=X
 lt:val U<V*B^k
 gE:∀ i,i<k→qs.getD i 0=0
theorem Div.part {X V:Nat} {v U qs:List Nat} {j:Nat} (h:Div X V v U qs (j+1)) (hj:j≤U.length):val (U.drop j)<V*B:=by
 have h1:=h.lt
 rw[bU U j hj,Nat.pow_succ] at h1
 have hp:0<B^j:=Nat.pow_pos ay
 have h2:B^j*val (U.drop j)<B^j*(V*B):=by
  have e:V*(B^j*B)=B^j*(V*B):=by rw[Nat.mul_left_comm]
  omega
 exact Nat.lt_of_mul_lt_mul_left h2
theorem Div.high {X V:Nat} {v U qs:List Nat} {j n:Nat} (h:Div X V v U qs (j+1)) (hv:V<B^n):fE U (j+n+1):=by
 refine eK (Nat.lt_trans h.lt ?_)
 have hp:0<B^(j+1):=Nat.pow_pos ay
 rw[show j+n+1=n+(j+1) by omega,Nat.pow_add B n (j+1)]
 exact Nat.mul_lt_mul_of_pos_right hv hp
theorem Div.next {X V:Nat} {v U W qs:List Nat} {j n g:Nat} (h:Div X V v U qs (j+1)) (hV:val v=V) (hvp:0<V) (hj:j≤U.length) (hjq:j<qs.length)
  (hd:Dig U W v j n g 0) (hg:digit U v j≤g) (hgB:g<B):Div X V v W (qs.set j g) j:=by
 subst hV
 obtain⟨_,h2,h3⟩:=hd.done h.fitU hvp hj hg
 refine ⟨hd.fit,h.fitQ.set _ hgB,?_,h2,?_⟩
 ·have hs:=cH hjq g
  rw[h.gE j (by omega),Nat.mul_zero,Nat.add_zero] at hs
  rw[hs,Nat.mul_add,←h.sum]
  omega
 ·intro i hi
  rw[getD_set_ne (by omega)];exact h.gE i (by omega)
theorem Div.last {X V:Nat} {v U qs:List Nat} (h:Div X V v U qs 0) (hV:0<V):val qs=X/V∧val U=X%V:=by
 have h1:=h.lt
 rw[Nat.pow_zero,Nat.mul_one] at h1
 rw[←h.sum]
 constructor
 ·rw[Nat.add_mul_div_left _ _ hV,Nat.div_eq_of_lt h1,Nat.zero_add]
 ·rw[Nat.add_mul_mod_self_left,Nat.mod_eq_of_lt h1]
theorem JT {U v:List Nat} {j m:Nat} (hv:Fit v) (hn:v.length=m+2) (hT:val (U.drop j)<val v*B) :
  val v=val (v.take m)+(v.getD (m+1) 0*B+v.getD m 0)*B^m ∧
  val (U.drop j)=val ((U.drop j).take m)+((U.getD (j+(m+2)) 0*B+U.getD (j+(m+1)) 0)*B+U.getD (j+m) 0)*B^m:=by
 have hvl:val (v.drop (m+2))=0:=by rw[List.drop_of_length_le (by omega)];rfl
 have ev:val v=val (v.take m)+(v.getD (m+1) 0*B+v.getD m 0)*B^m:=by
  have h1:=bU v m (by omega)
  rw[bc v m,bc v (m+1),hvl] at h1
  rw[h1,Nat.mul_zero,Nat.add_zero,Nat.mul_comm B,Nat.add_comm (v.getD m 0),Nat.mul_comm (B^m)]
 refine ⟨ev,?_⟩
 have hUd:val (U.drop j)=val ((U.drop j).take m)+B^m*val (U.drop (j+m)):=by
  by_cases hl:m≤(U.drop j).length
  ·have:=bU (U.drop j) m hl
   rwa [List.drop_drop] at this
  ·have e:U.drop (j+m)=[]:=List.drop_of_length_le (by rw[List.length_drop] at hl;omega)
   rw[List.take_of_length_le (by omega),e];simp[val]
 have htop0:val (U.drop (j+(m+2)+1))=0:=by
  rw[bc U (j+m),bc U (j+m+1),bc U (j+m+1+1),show j+m+1+1=j+(m+2) by omega] at hUd
  rcases Nat.eq_zero_or_pos (val (U.drop (j+(m+2)+1))) with h0|h0
  ·exact h0
  ·exfalso
   have hvlt:val v<B^(m+2):=by have:=dt hv;rwa [hn] at this
   have h3:B^m*(B*(B*(B*1)))≤B^m*(U.getD (j+m) 0+B*(U.getD (j+m+1) 0+B*(U.getD (j+(m+2)) 0+B*val (U.drop (j+(m+2)+1))))):=by
    refine Nat.mul_le_mul_left _ ?_
    refine Nat.le_trans (Nat.mul_le_mul_left B ?_) (Nat.le_add_left _ _)
    refine Nat.le_trans (Nat.mul_le_mul_left B ?_) (Nat.le_add_left _ _)
    exact Nat.le_trans (Nat.mul_le_mul_left B h0) (Nat.le_add_left _ _)
   have h4:B^m*(B*(B*(B*1)))=B^(m+2)*B:=by
    rw[Nat.pow_add,show B^2=B*B from Nat.pow_two B,Nat.mul_one,Nat.mul_assoc,Nat.mul_assoc]
   have h5:val v*B+B≤B^(m+2)*B:=by
    have:=Nat.mul_le_mul_right B (Nat.succ_le_of_lt hvlt)
    rwa [Nat.succ_mul] at this
   omega
 have eU:val (U.drop (j+m))=(U.getD (j+(m+2)) 0*B+U.getD (j+(m+1)) 0)*B+U.getD (j+m) 0:=by
  rw[bc U (j+m),bc U (j+m+1),bc U (j+m+1+1),show j+m+1+1=j+(m+2) by omega,htop0,show j+m+1=j+(m+1) by omega]
  generalize U.getD (j+(m+2)) 0=a2
  generalize U.getD (j+(m+1)) 0=a1
  generalize U.getD (j+m) 0=a0
  rw[Nat.mul_zero,Nat.add_zero,Nat.mul_comm B a2,Nat.add_comm a1,Nat.mul_comm B,Nat.add_comm]
 rw[hUd,eU,Nat.mul_comm (B^m)]
theorem near {W V A3 Y u' v' P b:Nat} (hP:0<P) (hW:W=u'+A3*P) (hV:V=v'+Y*P) (hu:u'<P) (hv':v'<P) (hb:b≤Y) (hb0:0<b) (hT:W<V*b) :
  W/V≤A3/Y∧A3/Y≤W/V+1∧W/V<b∧A3<(Y+1)*b:=by
 have hY:0<Y:=by omega
 have hYP:Y*P≤V:=by omega
 have hVp:0<V:=Nat.lt_of_lt_of_le (Nat.mul_pos hY hP) hYP
 have h1:W/V≤A3/Y:=kB hP hu hY (by omega) hYP
 have hlt:W/V<b:=by rw[Nat.div_lt_iff_lt_mul hVp,Nat.mul_comm];exact hT
 have h3:A3<(Y+1)*b:=by
  have e1:V*b≤(Y+1)*b*P:=by
   have:V≤(Y+1)*P:=by rw[Nat.succ_mul];omega
   have:=Nat.mul_le_mul_right b this
   rwa [Nat.mul_right_comm] at this
  have e2:A3*P<(Y+1)*b*P:=by omega
  exact Nat.lt_of_mul_lt_mul_right e2
 have h4:A3/Y≤b:=by
  rw[←Nat.lt_succ_iff,Nat.div_lt_iff_lt_mul hY]
  rw[Nat.succ_mul,Nat.mul_comm b Y]
  rw[Nat.succ_mul] at h3
  omega
 refine ⟨h1,?_,hlt,h3⟩
 have h5:A3/Y*V≤W+V:=by
  have e1:A3/Y*Y≤A3:=Nat.div_mul_le_self _ _
  have e2:A3/Y*Y*P≤A3*P:=Nat.mul_le_mul_right P e1
  have e3:A3/Y*v'≤b*P:=Nat.mul_le_mul h4 (by omega)
  have e4:b*P≤Y*P:=Nat.mul_le_mul_right P hb
  rw[hV,Nat.mul_add,←Nat.mul_assoc]
  omega
 have h6:A3/Y*V≤(W/V+1)*V+(V-1):=by
  have:=Nat.div_add_mod W V
  have:=Nat.mod_lt W hVp
  rw[Nat.succ_mul,Nat.mul_comm (W/V) V]
  omega
 have h7:A3/Y*V<(W/V+1+1)*V:=by
  rw[Nat.succ_mul (W/V+1)]
  omega
 have:=Nat.lt_of_mul_lt_mul_right h7
 omega
theorem round {X V:Nat} {v U qs:List Nat} {j n t:Nat} (h:Div X V v U qs (j+1)) (hV:val v=V) (hvp:0<V) (hv:Fit v) (hn:v.length=n) (hl:j+n<U.length) (hjq:j<qs.length)
  (h1:digit U v j≤t) (h2:t≤digit U v j+1) (ht:t<B) :
  (ms U j v t n).2.1+(ms U j v t n).2.2≤B ∧
  ((ms U j v t n).2.1+(ms U j v t n).2.2≤U.getD (j+n) 0→Div X V v ((ms U j v t n).1.set (j+n) (U.getD (j+n) 0-((ms U j v t n).2.1+(ms U j v t n).2.2))) (qs.set j t) j) ∧
  (U.getD (j+n) 0<(ms U j v t n).2.1+(ms U j v t n).2.2→∃ W:List Nat,W=(ms U j v t n).1.set (j+n) (U.getD (j+n) 0+B-((ms U j v t n).2.1+(ms U j v t n).2.2))∧Fit W∧0<t ∧
   ((U.getD (j+n) 0:Nat):Int)-(((ms U j v t n).2.1+(ms U j v t n).2.2:Nat):Int)+(((ab W j v n).2:Nat):Int)=0∧(ab W j v n).2≤1 ∧
   Div X V v ((ab W j v n).1.set (j+n) 0) (qs.set j (t-1)) j):=by
 subst hV
 have hh:fE U (j+n+1):=by
  refine h.high ?_
  have:=dt hv
  rwa [hn] at this
 obtain⟨f1,f2,f3⟩:=ju (j:=j) h.fitU hv ht n
 have D:=mG h.fitU hv hn hl hh ht _ _ rfl rfl
 refine ⟨by omega,?_,?_⟩
 ·intro hle
  have hlt:¬U.getD (j+n) 0<(ms U j v t n).2.1+(ms U j v t n).2.2:=by omega
  rw[if_neg hlt,if_neg hlt] at D
  exact h.next rfl hvp (by omega) hjq D h1 ht
 ·intro hlt
  rw[if_pos hlt,if_pos hlt] at D
  refine ⟨_,rfl,D.fit,?_⟩
  have hW:((ms U j v t n).1.set (j+n) (U.getD (j+n) 0+B-((ms U j v t n).2.1+(ms U j v t n).2.2))).getD (j+n) 0=U.getD (j+n) 0+B-((ms U j v t n).2.1+(ms U j v t n).2.2):=
   nK (by rw[dY];exact hl)
  generalize hWe:(ms U j v t n).1.set (j+n) (U.getD (j+n) 0+B-((ms U j v t n).2.1+(ms U j v t n).2.2))=W at *
  have hmore:=D.more h.fitU hvp (by omega)
  obtain⟨g,rfl⟩:∃ g,t=g+1:=⟨t-1,by omega⟩
  have hg:g=digit U v j:=by omega
  obtain⟨ho,D2⟩:=pk D h.fitU hv hvp hn hl _ _ rfl rfl
  have hc:=(kl (j:=j) D.fit hv n).2
  have hut:=h.fitU.get (j+n)
  generalize ho0:(W.getD (j+n) 0+(ab W j v n).2)/B=o at *
  have ho1:o=1:=by
   rcases Nat.lt_or_ge 0 o with h0|h0
   ·omega
   ·obtain rfl:o=0:=by omega
    have:=Dig.more D2 h.fitU hvp (by omega)
    omega
  subst ho1
  rw[hW] at ho0 D2
  generalize (ms U j v (g+1) n).2.1+(ms U j v (g+1) n).2.2=bo at *
  generalize (ab W j v n).2=c at *
  have hBp:=ay
  have e1:U.getD (j+n) 0+B-bo+c=B:=by
   have:=Nat.div_add_mod (U.getD (j+n) 0+B-bo+c) B
   rw[ho0] at this
   omega
  rw[e1,Nat.mod_self] at D2
  refine ⟨by omega,by omega,hc,?_⟩
  rw[Nat.add_sub_cancel]
  exact h.next rfl hvp (by omega) hjq D2 (by omega) (by omega)
theorem Div.start {X V:Nat} {v U:List Nat} {m:Nat} (hU:Fit U) (hX:val U=X) (h:X<V*B^m):Div X V v U (List.replicate m 0) m:=
 ⟨hU,Fit.gE m,by rw[eg,hX];omega,by rw[hX];exact h,fun i hi=>by simp[List.getD_eq_getElem?_getD,List.getElem?_replicate,hi]⟩
theorem Div.rest {X V:Nat} {v U qs:List Nat} {n:Nat} (h:Div X V v U qs 0) (hV:val v=V) (hvp:0<V) (hv:Fit v) (hn:v.length=n) (hl:n≤U.length) :
  val qs=X/V∧val (U.take n)=X%V∧Fit (U.take n)∧Fit qs:=by
 obtain⟨h1,h2⟩:=h.last hvp
 refine ⟨h1,?_,h.fitU.take n,h.fitQ⟩
 have hh:fE U n:=by
  refine eK ?_
  rw[h2]
  refine Nat.lt_trans (Nat.mod_lt _ hvp) ?_
  have:=dt hv
  rwa [hn,hV] at this
 have:=bU U n hl
 rw[hh.drop,Nat.mul_zero,Nat.add_zero] at this
 rw[←this,h2]
theorem Ig {x y F:Nat} (hF:0<F):x*F/(y*F)=x/y∧x*F%(y*F)/F=x%y:=by
 refine ⟨Nat.mul_div_mul_right _ _ hF,?_⟩
 rw[Nat.mul_mod_mul_right,Nat.mul_div_cancel _ hF]
theorem JQ {m n:Nat} (hl:size m=n) (hn:2≤n):0<(ah m).getD (n-1) 0:=by
 change (ah m).length=n at hl
 have h:ah m≠[]:=by intro h;rw[h] at hl;simp at hl;omega
 have:=eM h
 rw[List.getD_eq_getElem?_getD,←hl,←List.getLast?_eq_getElem?,List.getLast?_eq_some_getLast h,Option.getD_some]
 omega
theorem Ib {m n:Nat} (hl:size m=n+1):m<((ah m).getD n 0+1)*B^n:=by
 change (ah m).length=n+1 at hl
 have h1:=bU (ah m) n (by omega)
 rw[aq,bc,List.drop_of_length_le (show (ah m).length≤n+1 by omega)] at h1
 have h2:=bM (al m) n
 rw[show val ([]:List Nat)=0 from rfl,Nat.mul_zero,Nat.add_zero] at h1
 rw[Nat.add_mul,Nat.one_mul,Nat.mul_comm _ (B^n)]
 omega
theorem IM {x y:Nat} (hy:2≤size y) (hle:y≤x) :
  ∃ tb F:Nat,(ah y).getD (size y-1) 0=tb∧0<tb∧tb<B∧B/(tb+1)=F∧0<F∧F<B∧size (y*F)=size y∧size y≤size x∧size (x*F)≤size x+1∧0<size (x*F) ∧
   x*F<y*F*B^(size x+1-size y):=by
 have ht0:=JQ (m:=y) rfl hy
 have htB:=(al y).get (size y-1)
 obtain⟨n,hn⟩:∃ n,size y=n+1:=⟨size y-1,by omega⟩
 have hcut:=Ib hn
 have hmono:=aM hle
 have hy0:0<y:=by
  have:=(size_pos (n:=y)).1 (by omega)
  omega
 rw[show n=size y-1 by omega] at hcut
 generalize (ah y).getD (size y-1) 0=tb at *
 have hF0:0<B/(tb+1):=Nat.div_pos (by omega) (by omega)
 have hFB:B/(tb+1)<B:=Nat.div_lt_self ay (by omega)
 have hFt:B/(tb+1)*(tb+1)≤B:=Nat.div_mul_le_self _ _
 have hBx:=lt_size x
 refine ⟨tb,_,rfl,ht0,htB,rfl,hF0,hFB,?_,hmono,?_,?_,?_⟩
 ·generalize B/(tb+1)=F at *
  refine Nat.le_antisymm (size_le ?_) (aM (Nat.le_mul_of_pos_right y hF0))
  have h1:y*F<(tb+1)*B^(size y-1)*F:=Nat.mul_lt_mul_of_pos_right hcut hF0
  have h2:(tb+1)*B^(size y-1)*F=F*(tb+1)*B^(size y-1):=by rw[Nat.mul_comm,Nat.mul_assoc]
  have h3:F*(tb+1)*B^(size y-1)≤B*B^(size y-1):=Nat.mul_le_mul_right _ hFt
  have h4:B*B^(size y-1)=B^size y:=by
   rw[Nat.mul_comm,←Nat.pow_succ];congr 1;omega
  omega
 ·generalize B/(tb+1)=F at *
  refine size_le ?_
  rw[Nat.pow_succ]
  exact Nat.lt_of_lt_of_le (Nat.mul_lt_mul_of_pos_right hBx hF0) (Nat.mul_le_mul_left _ (Nat.le_of_lt hFB))
 ·refine (size_pos (n:=x*(B/(tb+1)))).2 ?_
  have:=Nat.mul_pos (show 0<x by omega) hF0
  omega
 ·generalize B/(tb+1)=F at *
  have h1:B^(size y-1)≤y:=dP (by omega)
  have h2:x<y*B^(size x+1-size y):=by
   refine Nat.lt_of_lt_of_le hBx ?_
   have h3:=Nat.mul_le_mul_right (B^(size x+1-size y)) h1
   rw[←Nat.pow_add,show size y-1+(size x+1-size y)=size x by omega] at h3
   exact h3
  rw[Nat.mul_right_comm]
  exact Nat.mul_lt_mul_of_pos_right h2 hF0
def chs (s:ByteArray):List Nat:=s.data.toList.map UInt8.toNat
theorem ag (s:ByteArray):(chs s).length=s.size:=by
 unfold chs;rw[List.length_map];rfl
theorem bN {s:ByteArray} {k:Nat} (h:k<s.size):(chs s).getD k 0=s[k].toNat:=by
 have h':k<s.data.size:=h
 have h2:k<s.data.toList.length:=h'
 unfold chs
 rw[List.getD_eq_getElem?_getD,List.getElem?_map,List.getElem?_eq_getElem h2]
 rfl
def an (cs:List Nat):Nat:=cs.findIdx (· == 47)
theorem nt {cs:List Nat} {k:Nat} (hk:k≤cs.length) (h:∀ i,i<k→cs.getD i 0≠47) (h1:k<cs.length→cs.getD k 0=47):an cs=k:=by
 unfold an
 rcases Nat.lt_or_ge k cs.length with hl|hl
 ·rw[List.findIdx_eq hl]
  refine ⟨by have:=h1 hl;rw[aY hl] at this;simp[this],fun j hj=>?_⟩
  have:=h j hj
  rw[aY (by omega)] at this
  simpa using this
 ·obtain rfl:k=cs.length:=by omega
  rw[List.findIdx_eq_length]
  intro x hx
  obtain⟨i,hi,rfl⟩:=List.getElem_of_mem hx
  have:=h i hi
  rw[aY hi] at this
  simpa using this
def aH (cs:List Nat):Nat:=cs.foldl (fun n c=>10*n+(c-48)) 0
theorem rL (cs:List Nat) (c:Nat):aH (cs++[c])=10*aH cs+(c-48):=by simp[aH,List.foldl_append]
def Dec (cs:List Nat):Prop:=∀ c,c∈cs→48≤c∧c≤57
theorem Dec.get {cs:List Nat} (h:Dec cs) {k:Nat} (hk:k<cs.length):48≤cs.getD k 0∧cs.getD k 0≤57:=by
 rw[aY hk];exact h _ (List.getElem_mem hk)
theorem Dec.take {cs:List Nat} (h:Dec cs) (k:Nat):Dec (cs.take k):=fun c hc=>h c (List.mem_of_mem_take hc)
theorem Dec.drop {cs:List Nat} (h:Dec cs) (k:Nat):Dec (cs.drop k):=fun c hc=>h c (List.mem_of_mem_drop hc)
theorem jh {cs:List Nat} {k:Nat} (hk:k<cs.length):aH (cs.take (k+1))=10*aH (cs.take k)+(cs.getD k 0-48):=by
 rw[List.take_add_one,List.getElem?_eq_getElem hk,Option.toList_some,rL,aY hk]
theorem gg {cs:List Nat} (h:Dec cs):∀ k,k≤cs.length→aH (cs.take k)<10^k:=by
 intro k
 induction k with
 | zero=>intro _;simp[aH]
 | succ k ih=>
  intro hk
  have:=ih (by omega)
  have hg:=h.get (show k<cs.length by omega)
  rw[jh (by omega),Nat.pow_succ]
  omega
theorem FF {cs:List Nat} (h:Dec cs) {k:Nat} (hk:k≤cs.length) (hk2:k≤17):(aH (cs.take k):Int)≤100000000000000000:=by
 have h1:=gg h k hk
 have h2:10^k≤10^17:=Nat.pow_le_pow_right (by decide) hk2
 have h3:(10:Nat)^17=100000000000000000:=by decide
 omega
theorem aF (a b:ByteArray):chs (a++b)=chs a++chs b:=by
 unfold chs
 rw[ByteArray.data_append,Array.toList_append,List.map_append]
theorem aA (a:ByteArray) (i j:Nat):chs (a.extract i j)=((chs a).drop i).take (j-i):=by
 unfold chs
 rw[ByteArray.data_extract,Array.toList_extract,List.extract_eq_take_drop,List.map_take,List.map_drop]
theorem Af {r:Nat} (h:r<10):chs ((ByteArray.mk #[48,49,50,51,52,53,54,55,56,57]).extract r (r+1))=[48+r]:=by
 rw[aA,show chs (ByteArray.mk #[48,49,50,51,52,53,54,55,56,57])=[48,49,50,51,52,53,54,55,56,57] from rfl]
 match r,h with
 | 0,_=>rfl|1,_=>rfl|2,_=>rfl|3,_=>rfl|4,_=>rfl|5,_=>rfl|6,_=>rfl|7,_=>rfl|8,_=>rfl|9,_=>rfl
def cQ (n:Nat):Nat→List Nat
 | 0=>[]
 | k+1=>(48+n/10^k%10)::cQ n k
theorem dX (n k:Nat):(cQ n k).length=k:=by
 induction k with
 | zero=>rfl
 | succ k ih=>simp[cQ,ih]
theorem CB (n k:Nat):n/10^k/10=n/10^(k+1):=by rw[Nat.div_div_eq_div_mul,Nat.pow_succ]
theorem Di (a b m:Nat) (hb:b<10^m):∀ k,k≤m→cQ (a*10^m+b) k=cQ b k:=by
 intro k
 induction k with
 | zero=>intro _;rfl
 | succ k ih=>
  intro hk
  simp only[cQ]
  rw[ih (by omega)]
  congr 2
  obtain⟨d,rfl⟩:∃ d,m=k+1+d:=⟨m-(k+1),by omega⟩
  have hp:0<10^k:=Nat.pow_pos (by decide)
  have e:a*10^(k+1+d)+b=b+10^k*(10*(a*10^d)):=by
   rw[Nat.pow_add,Nat.pow_succ,Nat.add_comm]
   congr 1
   rw[Nat.mul_assoc (10^k),Nat.mul_left_comm a,Nat.mul_left_comm a]
  rw[e,Nat.add_mul_div_left _ _ hp,Nat.add_mul_mod_self_left]
theorem gm (a b m:Nat) (hb:b<10^m):∀ k,cQ (a*10^m+b) (k+m)=cQ a k++cQ b m:=by
 intro k
 induction k with
 | zero=>rw[Nat.zero_add,Di a b m hb m (Nat.le_refl _)];rfl
 | succ k ih=>
  rw[show k+1+m=(k+m)+1 by omega]
  simp only[cQ,List.cons_append]
  rw[ih]
  congr 2
  rw[Nat.add_comm k m,Nat.pow_add,←Nat.div_div_eq_div_mul,Nat.add_comm (a*10^m),Nat.add_mul_div_right _ _ (Nat.pow_pos (by decide)),Nat.div_eq_of_lt hb,Nat.zero_add]
def sH (n:Nat) (cs:List Nat):Prop:=∃ k,cs=cQ n k∧n<10^k∧1≤k∧(1<k→10^(k-1)≤n)
theorem Al {a b:Nat} {cs:List Nat} (h:sH a cs) (ha:0<a) (hb:b<B):sH (a*B+b) (cs++cQ b 9):=by
 obtain⟨k,rfl,h1,h2,h3⟩:=h
 have hB:B=10^9:=rfl
 rw[hB] at hb ⊢
 refine ⟨k+9,(gm a b 9 hb k).symm,?_,by omega,fun _=>?_⟩
 ·rw[Nat.pow_add]
  have:=Nat.mul_le_mul_right (10^9) (Nat.succ_le_of_lt h1)
  rw[Nat.succ_mul] at this
  omega
 ·rw[show k+9-1=(k-1)+9 by omega,Nat.pow_add]
  have h4:10^(k-1)≤a:=by
   rcases Nat.lt_or_ge 1 k with h|h
   ·exact h3 h
   ·rw[show k-1=0 by omega];exact ha
  exact Nat.le_trans (Nat.mul_le_mul_right (10^9) h4) (Nat.le_add_right _ _)
theorem uK {n j:Nat} (h:j<size n):val ((ah n).drop j)=val ((ah n).drop (j+1))*B+(ah n).getD j 0:=by
 rw[bc,Nat.mul_comm B,Nat.add_comm]
theorem CG {n j:Nat} (h:j<size n):0<val ((ah n).drop j):=by
 rcases Nat.eq_zero_or_pos (val ((ah n).drop j)) with h0|h0
 ·exfalso
  have hl:j≤(ah n).length:=Nat.le_of_lt h
  have h1:=bU (ah n) j hl
  rw[h0,Nat.mul_zero,Nat.add_zero,aq] at h1
  have h2:=bM (al n) j
  have h3:=dP h
  omega
 ·exact h0
theorem uI {n k least:Nat} (h0:n/10^k=0) (hl:least≤k) (h:∀ j,j<k→0<n/10^j∨j<least):n<10^k∧(least<k→10^(k-1)≤n):=by
 have hp:0<10^k:=Nat.pow_pos (by decide)
 refine ⟨by rcases (Nat.div_eq_zero_iff).1 h0 with h|h<;>omega,fun hk=>?_⟩
 rcases h (k-1) (by omega) with h1|h1
 ·rcases Nat.lt_or_ge n (10^(k-1)) with h2|h2
  ·rw[Nat.div_eq_of_lt h2] at h1;omega
  ·exact h2
 ·omega
theorem jg (a b:List Nat):aH (a++b)=aH a*10^b.length+aH b:=by
 have:∀ (b:List Nat) (n:Nat),b.foldl (fun n c=>10*n+(c-48)) n=n*10^b.length+b.foldl (fun n c=>10*n+(c-48)) 0:=by
  intro b
  induction b with
  | nil=>intro n;simp
  | cons c b ih=>
   intro n
   rw[List.foldl_cons,ih,List.foldl_cons,ih (10*0+(c-48)),List.length_cons,Nat.pow_succ,Nat.add_mul,Nat.mul_zero,Nat.zero_add,Nat.mul_comm 10 n,Nat.mul_assoc,Nat.mul_comm 10 (10^b.length),Nat.add_assoc]
 unfold aH
 rw[List.foldl_append,this]
theorem Dec.lt {cs:List Nat} (h:Dec cs):aH cs<10^cs.length:=by
 have:=gg h cs.length (Nat.le_refl _)
 rwa [List.take_of_length_le (Nat.le_refl _)] at this
theorem xQ {cs:List Nat} (h:Dec cs) {l:Nat} (hl:9<l) (hlc:l≤cs.length) {zs:List Nat} {k N:Nat} (hk:zs.length=k) (hN:aH (cs.take l)*B^k+val zs=N) (hf:Fit zs) :
  Dec ((cs.take l).drop (l-9))∧((cs.take l).drop (l-9)).length=9∧aH ((cs.take l).drop (l-9))<B ∧
  aH (cs.take (l-9))*B^(k+1)+val (zs++[aH ((cs.take l).drop (l-9))])=N∧Fit (zs++[aH ((cs.take l).drop (l-9))]):=by
 have hd:=(h.take l).drop (l-9)
 have hlen:((cs.take l).drop (l-9)).length=9:=by rw[List.length_drop,List.length_take];omega
 have hlt:aH ((cs.take l).drop (l-9))<B:=by have:=hd.lt;rwa [hlen] at this
 refine ⟨hd,hlen,hlt,?_,hf.append (Fit.cons hlt Fit.nil)⟩
 have e:cs.take l=cs.take (l-9)++(cs.take l).drop (l-9):=by
  have:=(List.take_append_drop (l-9) (cs.take l)).symm
  rwa [List.take_take,Nat.min_eq_left (by omega)] at this
 have e2:aH (cs.take l)=aH (cs.take (l-9))*B+aH ((cs.take l).drop (l-9)):=by
  conv=>lhs;rw[e]
  rw[jg,hlen];rfl
 generalize aH ((cs.take l).drop (l-9))=d at *
 rw[bA,hk,Nat.pow_succ,←hN,e2,Nat.add_mul,Nat.mul_assoc,Nat.mul_comm B (B^k),Nat.mul_comm d]
 simp only[val,Nat.mul_zero,Nat.add_zero]
 omega
theorem xP {cs:List Nat} (h:Dec cs) {l:Nat} (hl:l≤9) (hlc:l≤cs.length) {zs:List Nat} {k N:Nat} (hk:zs.length=k) (hN:aH (cs.take l)*B^k+val zs=N) (hf:Fit zs) :
  val (zs++[aH (cs.take l)])=N∧Fit (zs++[aH (cs.take l)]):=by
 have hlt:aH (cs.take l)<B:=by
  have h1:=gg h l hlc
  have h2:10^l≤10^9:=Nat.pow_le_pow_right (by decide) hl
  have h3:(10:Nat)^9=B:=rfl
  omega
 refine ⟨?_,hf.append (Fit.cons hlt Fit.nil)⟩
 rw[bA,hk,←hN,Nat.mul_comm (B^k)]
 simp only[val,Nat.mul_zero,Nat.add_zero]
 omega
def nd (n:Nat):Nat:=if n<10 then 1 else nd (n/10)+1
theorem iR {n:Nat} (h:n<10):nd n=1:=by rw[nd,if_pos h]
theorem Dq {n:Nat} (h:¬n<10):nd n=nd (n/10)+1:=by rw[nd,if_neg h]
theorem gL (n:Nat):1≤nd n:=by
 rw[nd];split<;>omega
theorem cN (n:Nat):n<10^nd n:=by
 induction n using Nat.strongRecOn with
 | ind n ih=>
  by_cases h:n<10
  ·rw[iR h];omega
  ·rw[Dq h,Nat.pow_succ]
   have:=ih (n/10) (by omega)
   omega
theorem nk (n:Nat) (h1:1<nd n):10^(nd n-1)≤n:=by
 induction n using Nat.strongRecOn with
 | ind n ih=>
  by_cases h:n<10
  ·rw[iR h] at h1;omega
  ·rw[Dq h] at h1 ⊢
   rw[Nat.add_sub_cancel]
   by_cases h2:1<nd (n/10)
   ·have:=ih (n/10) (by omega) h2
    obtain⟨k,hk⟩:∃ k,nd (n/10)=k+1:=⟨nd (n/10)-1,by omega⟩
    rw[hk,Nat.add_sub_cancel] at this
    rw[hk,Nat.pow_succ];omega
   ·have:nd (n/10)=1:=by have:=gL (n/10);omega
    rw[this];omega
theorem gv {n k:Nat} (hk:1≤k):nd n≤k↔n<10^k:=by
 constructor
 ·intro h
  exact Nat.lt_of_lt_of_le (cN n) (Nat.pow_le_pow_right (by decide) h)
 ·intro h
  rcases Nat.lt_or_ge k (nd n) with h1|h1
  ·exfalso
   have h2:=nk n (by omega)
   have h3:10^k≤10^(nd n-1):=Nat.pow_le_pow_right (by decide) (by omega)
   omega
  ·exact h1
def aW (n:Nat):List Nat:=cQ n (nd n)
theorem aB (n:Nat):(aW n).length=nd n:=dX _ _
theorem Ak (n:Nat):sH n (aW n):=⟨nd n,rfl,cN n,gL n,nk n⟩
theorem oD {n:Nat} {cs:List Nat} (h:sH n cs):cs=aW n:=by
 obtain⟨k,rfl,h1,h2,h3⟩:=h
 have a:nd n≤k:=(gv h2).2 h1
 have b:¬nd n<k:=fun h=>by
  have h4:=h3 (by have:=gL n;omega)
  have h5:10^nd n≤10^(k-1):=Nat.pow_le_pow_right (by decide) (by omega)
  have:=cN n
  omega
 obtain rfl:k=nd n:=by omega
 rfl
theorem Cy (n k:Nat):Dec (cQ n k):=by
 induction k with
 | zero=>intro c hc;simp[cQ] at hc
 | succ k ih=>
  intro c hc
  simp only[cQ,List.mem_cons] at hc
  rcases hc with rfl|hc
  ·have:=Nat.mod_lt (n/10^k) (show 10>0 by decide)
   omega
  ·exact ih c hc
theorem di (n:Nat):Dec (aW n):=Cy _ _
theorem jF (c:Nat) (cs:List Nat):aH (c::cs)=(c-48)*10^cs.length+aH cs:=by
 have:=jg [c] cs
 simpa [aH] using this
theorem Ai (n k:Nat):aH (cQ n k)=n%10^k:=by
 induction k with
 | zero=>simp[cQ,aH,Nat.mod_one]
 | succ k ih=>
  simp only[cQ]
  rw[jF,ih,dX,Nat.mod_pow_succ,Nat.add_comm,Nat.mul_comm,Nat.add_sub_cancel_left]
theorem dz (n:Nat):aH (aW n)=n:=by
 unfold aW
 rw[Ai,Nat.mod_eq_of_lt (cN n)]
theorem fc {a b:Nat} (h:aW a=aW b):a=b:=by
 rw[←dz a,h,dz]
theorem AR {cs:List Nat} (h:Dec cs):cQ (aH cs) cs.length=cs:=by
 induction cs with
 | nil=>rfl
 | cons c cs ih=>
  have hc:=h c (List.mem_cons_self ..)
  have hcs:Dec cs:=fun x hx=>h x (List.mem_cons_of_mem _ hx)
  have hl:aH cs<10^cs.length:=by
   have:=gg hcs cs.length (Nat.le_refl _)
   rwa [List.take_of_length_le (Nat.le_refl _)] at this
  rw[jF,List.length_cons,Nat.add_comm cs.length,gm _ _ _ hl,ih hcs]
  simp only[cQ,Nat.pow_zero,Nat.div_one,List.cons_append,List.nil_append]
  congr 1
  omega
def bD (cs:List Nat):Bool:=decide (1≤cs.length) && !(decide (1<cs.length)&&cs.getD 0 0==48)&&cs.all fun c=>decide (48≤c)&&decide (c≤57)
theorem yD {cs:List Nat}:Dec cs↔(cs.all fun c=>decide (48≤c)&&decide (c≤57))=true:=by
 unfold Dec;simp
theorem dW {cs:List Nat}:bD cs=true↔cs=aW (aH cs):=by
 constructor
 ·intro h
  unfold bD at h
  simp only[Bool.and_eq_true,decide_eq_true_eq,Bool.not_eq_true',Bool.and_eq_false_iff,decide_eq_false_iff_not,beq_eq_false_iff_ne] at h
  obtain⟨⟨h1,h2⟩,h3⟩:=h
  have hd:=yD.2 h3
  refine oD ⟨cs.length,(AR hd).symm,?_,h1,fun hl=>?_⟩
  ·have:=gg hd cs.length (Nat.le_refl _)
   rwa [List.take_of_length_le (Nat.le_refl _)] at this
  ·match cs,h1 with
   | c::t,_=>
    have h4:c≠48:=by
     rcases h2 with h2|h2
     ·exact absurd hl h2
     ·simpa using h2
    have hc:=hd c (List.mem_cons_self ..)
    rw[jF,List.length_cons,Nat.add_sub_cancel]
    have:=Nat.mul_le_mul_right (10^t.length) (show 1≤c-48 by omega)
    omega
 ·intro h
  unfold bD
  rw[yD.1 (by rw[h];exact di _)]
  have h1:1≤cs.length:=by rw[h,aB];exact gL _
  simp only[h1,decide_true,Bool.true_and,Bool.and_true,Bool.not_eq_true',Bool.and_eq_false_iff,decide_eq_false_iff_not,beq_eq_false_iff_ne]
  rcases Nat.lt_or_ge 1 cs.length with h2|h2
  ·right
   intro h3
   have hn:1<nd (aH cs):=by rw[←aB,←h];exact h2
   have h4:=nk _ hn
   have h5:cs.length=nd (aH cs):=by rw[←aB,←h]
   match cs,h1,h3 with
   | c::t,_,h3=>
    obtain rfl:c=48:=h3
    rw[←h5,List.length_cons,Nat.add_sub_cancel,jF,Nat.sub_self,Nat.zero_mul,Nat.zero_add] at h4
    have hd:Dec t:=fun x hx=>(di (aH (48::t))) x (by rw[←h];exact List.mem_cons_of_mem _ hx)
    have:=gg hd t.length (Nat.le_refl _)
    rw[List.take_of_length_le (Nat.le_refl _)] at this
    omega
  ·left;omega
def bq (n:Int):List Nat:=(if decide (n<0)=true then [45] else [])++aW n.natAbs
def bR (x:Rat):List Nat:=bq x.num++if x.den=1 then [] else 47::aW x.den
theorem pV {cs:List Nat} (h:Dec cs):∀ c,c∈cs→c≠47:=fun c hc=>by have:=h c hc;omega
theorem qJ {a b:List Nat} (h:∀ c,c∈a→c≠47):an (a++47::b)=a.length:=by
 refine nt (by simp) (fun i hi=>?_) (fun _=>?_)
 ·rw[List.getD_eq_getElem?_getD,List.getElem?_append_left hi,List.getElem?_eq_getElem hi]
  exact h _ (List.getElem_mem hi)
 ·rw[List.getD_eq_getElem?_getD,List.getElem?_append_right (Nat.le_refl _),Nat.sub_self];rfl
theorem nV {a:List Nat} (h:∀ c,c∈a→c≠47):an a=a.length:=by
 refine nt (Nat.le_refl _) (fun i hi=>?_) (fun h=>absurd h (by omega))
 rw[List.getD_eq_getElem?_getD,List.getElem?_eq_getElem hi]
 exact h _ (List.getElem_mem hi)
theorem pG (n:Int):∀ c,c∈bq n→c≠47:=by
 intro c hc
 unfold bq at hc
 rw[List.mem_append] at hc
 rcases hc with hc|hc
 ·split at hc
  ·simp at hc;omega
  ·simp at hc
 ·exact pV (di _) c hc
theorem iF (x:Rat):an (bR x)=(bq x.num).length:=by
 unfold bR
 split
 ·rw[List.append_nil];exact nV (pG _)
 ·exact qJ (pG _)
theorem bp (n:Int):(bq n).length=(if n<0 then 1 else 0)+nd n.natAbs:=by
 unfold bq
 rw[List.length_append,aB]
 by_cases h:n<0<;>simp[h]
theorem bt (x:Rat):(bR x).length=(bq x.num).length+if x.den=1 then 0 else 1+nd x.den:=by
 unfold bR
 rw[List.length_append]
 split
 ·simp
 ·rw[List.length_cons,aB];omega
theorem jM (x:Rat):(bR x).take (bq x.num).length=bq x.num:=by
 unfold bR;rw[List.take_left'];rfl
theorem jL (x:Rat) (h:x.den≠1):(bR x).drop ((bq x.num).length+1)=aW x.den:=by
 unfold bR
 rw[if_neg h,List.drop_append,List.drop_of_length_le (by omega),Nat.add_sub_cancel_left]
 rfl
theorem uW {a b:Int} (h:bq a=bq b):a=b:=by
 have head:∀ (n:Int),(bq n).getD 0 0=45↔n<0:=fun n=>by
  unfold bq
  by_cases hn:n<0
  ·simp[hn]
  ·simp only[hn,decide_false,Bool.false_eq_true,if_false,List.nil_append,iff_false]
   have:=(di n.natAbs).get (k:=0) (by rw[aB];exact gL _)
   omega
 have hs:a<0↔b<0:=by rw[←head a,←head b,h]
 have h2:a.natAbs=b.natAbs:=by
  unfold bq at h
  refine fc ?_
  by_cases ha:a<0
  ·simpa [ha,hs.1 ha] using h
  ·have hb:¬b<0:=fun hb=>ha (hs.2 hb)
   simpa [ha,hb] using h
 omega
theorem Ea {x y:Rat} (h:bR x=bR y):x=y:=by
 have h1:(bq x.num).length=(bq y.num).length:=by rw[←iF,←iF,h]
 have h2:x.num=y.num:=by
  refine uW ?_
  rw[←jM x,h,h1,jM]
 refine Rat.ext h2 ?_
 have h3:=congrArg List.length h
 rw[bt,bt,h1] at h3
 by_cases hx:x.den=1
 ·by_cases hy:y.den=1
  ·rw[hx,hy]
  ·rw[if_pos hx,if_neg hy] at h3;omega
 ·by_cases hy:y.den=1
  ·rw[if_neg hx,if_pos hy] at h3;omega
  ·refine fc ?_
   rw[←jL x hx,←jL y hy,h,h1]
theorem iv {a b:ByteArray} (h:chs a=chs b):a=b:=by
 unfold chs at h
 have h2:a.data.toList=b.data.toList:=by
  refine List.map_inj_right (f:=UInt8.toNat) (fun x y hxy=>?_) |>.1 h
  exact UInt8.toNat_inj.1 hxy
 exact ByteArray.ext (Array.toList_inj.1 h2)
def aG (s:ByteArray) (x:Rat):Prop:=chs s=bR x
theorem aG.eq {s:ByteArray} {x y:Rat} (h:aG s x) (h2:aG s y):x=y:=Ea (h.symm.trans h2)
theorem aG.same {s t:ByteArray} {x:Rat} (h:aG s x) (h2:aG t x):s=t:=iv (h.trans h2.symm)
def Bd (x:Rat) (k:Nat):Prop:=x.num.natAbs<10^k∧x.den<10^k
theorem Bd.mono {x:Rat} {k l:Nat} (h:Bd x k) (hl:k≤l):Bd x l:=
 ⟨Nat.lt_of_lt_of_le h.1 (Nat.pow_le_pow_right (by decide) hl),Nat.lt_of_lt_of_le h.2 (Nat.pow_le_pow_right (by decide) hl)⟩
theorem Bd.pos {x:Rat} {k:Nat} (h:Bd x k):1≤k:=by
 rcases k with _|k
 ·have:=h.2;have:=x.den_nz;simp at *;omega
 ·omega
theorem rI {x:Rat} {k:Nat} (hk:1≤k):Bd x k↔nd x.num.natAbs≤k∧nd x.den≤k:=by
 unfold Bd;rw[gv hk,gv hk]
theorem iC {x:Rat} {k:Nat} (h:Bd x k):(bR x).length≤2*k+2:=by
 have h1:=(rI h.pos).1 h
 rw[bt,bp]
 split<;>split<;>omega
theorem vE (n:Int) (d:Nat) (hd:d≠0):(mkRat n d).num.natAbs≤n.natAbs∧(mkRat n d).den≤d:=by
 rw[Rat.num_mkRat,Rat.den_mkRat,if_neg hd,if_neg hd]
 refine ⟨?_,Nat.div_le_self _ _⟩
 obtain⟨m,hm⟩:((d.gcd n.natAbs:Nat):Int) ∣ n:=Int.ofNat_dvd_left.2 (Nat.gcd_dvd_right _ _)
 have hg:0<d.gcd n.natAbs:=Nat.gcd_pos_of_pos_left _ (by omega)
 generalize d.gcd n.natAbs=g at *
 subst hm
 rw[Int.mul_ediv_cancel_left _ (by omega),Int.natAbs_mul]
 exact Nat.le_mul_of_pos_left _ hg
theorem mC {x y:Rat} {k l:Nat} (h:Bd x k) (h2:Bd y l):Bd (x*y) (k+l):=by
 rw[Rat.mul_def']
 have hd:=Nat.mul_ne_zero x.den_nz y.den_nz
 obtain⟨h3,h4⟩:=vE (x.num*y.num) (x.den*y.den) hd
 refine ⟨Nat.lt_of_le_of_lt h3 ?_,Nat.lt_of_le_of_lt h4 ?_⟩
 ·rw[Int.natAbs_mul,Nat.pow_add];exact Nat.mul_lt_mul'' h.1 h2.1
 ·rw[Nat.pow_add];exact Nat.mul_lt_mul'' h.2 h2.2
theorem Cp {x y:Rat} {k l:Nat} (h:Bd x k) (h2:Bd y l):Bd (x+y) (k+l+1):=by
 rw[Rat.add_def']
 have hd:=Nat.mul_ne_zero x.den_nz y.den_nz
 obtain⟨h3,h4⟩:=vE (x.num*y.den+y.num*x.den) (x.den*y.den) hd
 have a1:=Nat.mul_lt_mul'' h.1 h2.2
 have a2:=Nat.mul_lt_mul'' h.2 h2.1
 have a3:=Nat.mul_lt_mul'' h.2 h2.2
 rw[←Nat.pow_add] at a1 a2 a3
 refine ⟨Nat.lt_of_le_of_lt h3 ?_,Nat.lt_of_le_of_lt h4 ?_⟩
 ·have e1:(x.num*(y.den:Int)).natAbs=x.num.natAbs*y.den:=by rw[Int.natAbs_mul];rfl
  have e2:(y.num*(x.den:Int)).natAbs=x.den*y.num.natAbs:=by rw[Int.natAbs_mul,Nat.mul_comm];rfl
  have e3:=Int.natAbs_add_le (x.num*(y.den:Int)) (y.num*(x.den:Int))
  rw[e1,e2] at e3
  rw[Nat.pow_succ];omega
 ·rw[Nat.pow_succ];omega
theorem sN {x:Rat} {k:Nat} (h:Bd x k):Bd (-x) k:=by
 unfold Bd;rw[Rat.neg_num,Rat.neg_den,Int.natAbs_neg];exact h
theorem uX {x:Rat} (h:x≠0):(x⁻¹).num=x.num.sign*x.den∧(x⁻¹).den=x.num.natAbs:=by
 have h0:x.num≠0:=fun h1=>h (Rat.num_eq_zero.1 h1)
 have hg:x.num.gcd (x.den:Int)=1:=x.reduced
 rw[Rat.inv_def,Rat.num_divInt,Rat.den_divInt,if_neg h0,hg]
 simp
theorem ID {x:Rat} {k:Nat} (h:Bd x k):Bd (x⁻¹) k:=by
 by_cases h0:x=0
 ·subst h0;rw[Rat.inv_zero];exact h
 ·obtain⟨h1,h2⟩:=uX h0
  have h3:x.num≠0:=fun h1=>h0 (Rat.num_eq_zero.1 h1)
  unfold Bd
  rw[h1,h2,Int.natAbs_mul,Int.natAbs_sign_of_ne_zero h3,Nat.one_mul]
  exact⟨h.2,h.1⟩
theorem bz {n k:Nat} (h:n<10^k):size n≤k:=by
 refine size_le (Nat.lt_of_lt_of_le h (Nat.pow_le_pow_left ?_ k))
 rw[show B=1000000000 from rfl];decide
theorem CX (n:Int):0<(bq n).length:=by rw[bp];have:=gL n.natAbs;omega
theorem Eb (x:Rat):0<(bR x).length:=by rw[bt];have:=CX x.num;omega
theorem Be (x:Rat):(bR x).getD 0 0=45↔x.num<0:=by
 unfold bR bq
 by_cases hn:x.num<0
 ·simp[hn]
 ·simp only[hn,decide_false,Bool.false_eq_true,if_false,List.nil_append,iff_false]
  have hl:0<(aW x.num.natAbs).length:=by rw[aB];exact gL _
  have:=(di x.num.natAbs).get (k:=0) hl
  rw[List.getD_eq_getElem?_getD,List.getElem?_append_left hl,←List.getD_eq_getElem?_getD]
  omega
theorem nm:bR 0=[48]:=by
 unfold bR bq aW
 rw[show (0:Rat).num=0 from rfl,show (0:Rat).den=1 from rfl,Int.natAbs_zero,iR (by decide)]
 rfl
theorem aG.size {s:ByteArray} {x:Rat} (h:aG s x):s.size=(bR x).length:=by rw[←ag,h]
theorem aG.pos {s:ByteArray} {x:Rat} (h:aG s x):0<s.size:=by rw[h.size];exact Eb x
theorem aG.zero {s:ByteArray} {x:Rat} (h:aG s x):s=ByteArray.mk #[48]↔x=0:=by
 constructor
 ·rintro rfl
  exact h.eq (show chs _=_ by rw[nm];rfl)
 ·rintro rfl
  exact iv (by rw[h,nm];rfl)
theorem aG.head {s:ByteArray} {x:Rat} (h:aG s x) (h0:0<s.size):((s[0].toNat:Int)==45)=decide (x.num<0):=by
 have h1:=bN h0
 rw[h] at h1
 have h2:=Be x
 rw[h1] at h2
 by_cases hx:x.num<0
 ·rw[h2.2 hx];simp[hx]
 ·have:¬s[0].toNat=45:=fun h=>hx (h2.1 h)
  simp only[hx,decide_false,beq_eq_false_iff_ne];omega
theorem vO {x:Rat} (h:0≤x.num) (h0:x.num≠0):bR (-x)=45::bR x:=by
 unfold bR bq
 rw[Rat.neg_num,Rat.neg_den,Int.natAbs_neg]
 rw[decide_eq_true (show -x.num<0 by omega),decide_eq_false (show ¬x.num<0 by omega)]
 rfl
theorem aG.minus {s:ByteArray} {x:Rat} (h:aG s x) (h1:0≤x.num) (h0:x.num≠0):aG (ByteArray.mk #[45]++s) (-x):=by
 show chs _=_
 rw[aF,h,vO h1 h0];rfl
theorem aG.tail {s:ByteArray} {x:Rat} (h:aG s x) (h1:x.num<0):aG (s.extract 1 s.size) (-x):=by
 show chs _=_
 have h2:=vO (x:=-x) (by rw[Rat.neg_num];omega) (by rw[Rat.neg_num];omega)
 rw[Rat.neg_neg] at h2
 rw[aA,h,List.take_of_length_le (by rw[List.length_drop,h.size];omega),h2]
 rfl
theorem aG.wj {s:ByteArray} {x:Rat} (h:aG s x):an (chs s)=(bq x.num).length:=by rw[h,iF]
def aJ (s:ByteArray) (n:Int):Prop:=chs s=bq n
theorem aJ.size {s:ByteArray} {n:Int} (h:aJ s n):s.size=(bq n).length:=by rw[←ag,h]
theorem aG.num {s:ByteArray} {x:Rat} (h:aG s x):aJ (s.extract 0 (bq x.num).length) x.num:=by
 show chs _=_
 rw[aA,h,List.drop_zero,Nat.sub_zero,jM]
theorem dn (n:Nat):bq n=aW n:=by
 unfold bq
 rw[decide_eq_false (show ¬(n:Int)<0 by omega)];rfl
theorem aG.den {s:ByteArray} {x:Rat} (h:aG s x) (hd:x.den≠1):aJ (s.extract ((bq x.num).length+1) s.size) x.den:=by
 show chs _=_
 rw[aA,h,List.take_of_length_le (by rw[List.length_drop,h.size];omega),jL x hd,dn]
theorem aG.whole {s:ByteArray} {x:Rat} (h:aG s x):(bq x.num).length=s.size↔x.den=1:=by
 rw[h.size,bt]
 split<;>omega
theorem aJ.same {s t:ByteArray} {n:Int} (h:aJ s n) (h2:aJ t n):s=t:=iv (h.trans h2.symm)
theorem sd {s:ByteArray} {n:Int} (h:aJ s n):aG s (n:Rat):=by
 show chs s=bR n
 rw[h];unfold bR
 simp
theorem se {s t:ByteArray} {x:Rat} (h:aJ s x.num) (h2:aJ t x.den) (hd:x.den≠1):aG (s++ByteArray.mk #[47]++t) x:=by
 show chs _=bR x
 rw[aF,aF,h,h2,dn,bR,if_neg hd,List.append_assoc];rfl
theorem qz {s:ByteArray} {x:Rat} (h:aJ s x.num) (hd:x.den=1):aG s x:=by
 show chs _=bR x
 rw[h,bR,if_pos hd,List.append_nil]
def jl (cs:List Nat):Bool:=cs.all fun c=>decide (48≤c)&&decide (c≤57)
theorem rM {cs:List Nat} (h:∀ i,i<cs.length→48≤cs.getD i 0∧cs.getD i 0≤57):jl cs=true:=by
 unfold jl
 rw[List.all_eq_true]
 intro c hc
 obtain⟨i,hi,rfl⟩:=List.getElem_of_mem hc
 have:=h i hi
 rw[aY hi] at this
 simpa using this
theorem pj {cs:List Nat} {i:Nat} (hi:i<cs.length) (h:¬(48≤cs.getD i 0∧cs.getD i 0≤57)):jl cs=false:=by
 unfold jl
 rw[List.all_eq_false]
 rw[aY hi] at h
 exact⟨_,List.getElem_mem hi,by simpa using h⟩
theorem uJ (cs:List Nat):bD cs=(decide (1≤cs.length) && !(decide (1<cs.length)&&cs.getD 0 0==48)&&jl cs):=rfl
def aC (cs:List Nat):List Nat:=if cs.getD 0 0=45 then cs.drop 1 else cs
def cq (cs:List Nat):Nat:=
 if (!bD ((aC cs).take (an (aC cs))) || (decide (cs.getD 0 0=45)&&decide ((aC cs).take (an (aC cs))=[48])))=true then 1
 else if (decide (an (aC cs)<(aC cs).length)&&(!bD ((aC cs).drop (an (aC cs)+1)) || decide ((aC cs).drop (an (aC cs)+1)=[48]) || decide ((aC cs).drop (an (aC cs)+1)=[49])))=true then 1
 else if (decide (600<an (aC cs)) || decide (600<(aC cs).length-an (aC cs)-1))=true then 4
 else if (decide (an (aC cs)<(aC cs).length) && !decide (Nat.gcd (aH ((aC cs).take (an (aC cs)))) (aH ((aC cs).drop (an (aC cs)+1)))=1))=true then 1
 else 0
theorem fA (cs:List Nat):an cs≤cs.length:=List.findIdx_le_length
theorem wm {cs:List Nat} (h:an cs<cs.length):cs=cs.take (an cs)++47::cs.drop (an cs+1):=by
 have h1:cs[an cs]=47:=by
  have:=List.findIdx_getElem (p:=(· == 47)) (xs:=cs) (w:=h)
  exact eq_of_beq this
 conv=>lhs;rw[←List.take_append_drop (an cs) cs]
 rw[List.drop_eq_getElem_cons h,h1]
theorem vN (n:Int):bR (n:Rat)=bq n:=by unfold bR;simp
theorem dV:aW 0=[48]:=by rw[aW,iR (by decide)];rfl
theorem ji:aW 1=[49]:=by rw[aW,iR (by decide)];rfl
theorem uB (n:Int) (l:List Nat):aC (bq n++l)=aW n.natAbs++l∧((bq n++l).getD 0 0=45↔n<0):=by
 have hh:(bq n++l).getD 0 0=45↔n<0:=by
  unfold bq
  by_cases hn:n<0
  ·simp[hn]
  ·simp only[hn,decide_false,Bool.false_eq_true,if_false,List.nil_append,iff_false]
   have hl:0<(aW n.natAbs).length:=by rw[aB];exact gL _
   have:=(di n.natAbs).get (k:=0) hl
   rw[List.getD_eq_getElem?_getD,List.getElem?_append_left hl,←List.getD_eq_getElem?_getD]
   omega
 refine ⟨?_,hh⟩
 unfold aC
 by_cases hn:n<0
 ·rw[if_pos (hh.2 hn)]
  unfold bq
  rw[if_pos (by simpa using hn)];rfl
 ·rw[if_neg (fun h=>hn (hh.1 h))]
  unfold bq
  rw[if_neg (by simpa using hn)];rfl
theorem ph {x:Rat} (h:Bd x 600):cq (bR x)=0:=by
 obtain⟨hn,hd⟩:=(rI (by decide)).1 h
 obtain⟨hb,hh⟩:=uB x.num (if x.den=1 then [] else 47::aW x.den)
 change aC (bR x)=_ at hb
 change (bR x).getD 0 0=45↔_ at hh
 have hf:bD (aW x.num.natAbs)=true:=dW.2 (by rw[dz])
 have hneg:(decide ((bR x).getD 0 0=45)&&decide (aW x.num.natAbs=[48]))=false:=by
  rw[Bool.and_eq_false_iff,decide_eq_false_iff_not,decide_eq_false_iff_not,hh]
  by_cases h0:x.num<0
  ·right
   intro h1
   rw[←dV] at h1
   have:=fc h1
   omega
  ·exact .inl h0
 by_cases h1:x.den=1
 ·rw[if_pos h1,List.append_nil] at hb
  have hs:an (aC (bR x))=nd x.num.natAbs:=by rw[hb,nV (pV (di _)),aB]
  unfold cq
  rw[hs,hb,List.take_of_length_le (by rw[aB];omega),hf,hneg,aB]
  simp only[Nat.lt_irrefl,decide_false,Bool.false_and,Bool.not_true,Bool.false_or,Bool.false_eq_true,if_false]
  rw[if_neg]
  simp only[Bool.or_eq_true,decide_eq_true_eq];omega
 ·rw[if_neg h1] at hb
  have hs:an (aC (bR x))=nd x.num.natAbs:=by rw[hb,qJ (pV (di _)),aB]
  have ht:(aC (bR x)).take (nd x.num.natAbs)=aW x.num.natAbs:=by rw[hb,List.take_left' (aB _)]
  have hdr:(aC (bR x)).drop (nd x.num.natAbs+1)=aW x.den:=by
   rw[hb,List.drop_append,List.drop_of_length_le (by rw[aB];omega),aB,Nat.add_sub_cancel_left];rfl
  have hl:(aC (bR x)).length=nd x.num.natAbs+1+nd x.den:=by rw[hb,List.length_append,List.length_cons,aB,aB];omega
  have hf2:bD (aW x.den)=true:=dW.2 (by rw[dz])
  have n0:decide (aW x.den=[48])=false:=by
   rw[decide_eq_false_iff_not,←dV];intro h;exact x.den_nz (fc h)
  have n1:decide (aW x.den=[49])=false:=by
   rw[decide_eq_false_iff_not,←ji];intro h;exact h1 (fc h)
  have hg:decide (Nat.gcd x.num.natAbs x.den=1)=true:=by rw[decide_eq_true_eq];exact x.reduced
  unfold cq
  rw[hs,ht,hdr,hl,hf,hneg,hf2,n0,n1,dz,dz,hg]
  simp only[Bool.not_true,Bool.false_or,Bool.and_false,Bool.false_eq_true,if_false]
  rw[if_neg]
  simp only[Bool.or_eq_true,decide_eq_true_eq];omega
theorem lx {cs:List Nat} (h:cq cs=0):∃ x:Rat,cs=bR x∧Bd x 600:=by
 unfold cq at h
 split at h
 ·exact absurd h (by decide)
 ·split at h
  ·exact absurd h (by decide)
  ·split at h
   ·exact absurd h (by decide)
   ·split at h
    ·exact absurd h (by decide)
    ·rename_i h1 h2 h3 h4
     have hle:=fA (aC cs)
     have hcs:cs=(if decide (cs.getD 0 0=45)=true then [45] else [])++aC cs:=by
      unfold aC
      by_cases hc:cs.getD 0 0=45
      ·rw[if_pos hc,decide_eq_true hc,if_pos rfl]
       match cs,hc with
       | c::t,hc=>obtain rfl:c=45:=hc;rfl
      ·rw[if_neg hc,decide_eq_false hc];rfl
     have hsp:=@wm (aC cs)
     have htl:((aC cs).take (an (aC cs))).length=an (aC cs):=by rw[List.length_take];omega
     have hdl:((aC cs).drop (an (aC cs)+1)).length=(aC cs).length-an (aC cs)-1:=by rw[List.length_drop];omega
     have htk:an (aC cs)=(aC cs).length→(aC cs).take (an (aC cs))=aC cs:=fun h=>List.take_of_length_le (by omega)
     generalize decide (cs.getD 0 0=45)=neg at *
     generalize (aC cs).take (an (aC cs))=top at *
     generalize (aC cs).drop (an (aC cs)+1)=bot at *
     generalize an (aC cs)=k at *
     generalize aC cs=b at *
     simp only[Bool.or_eq_true,Bool.and_eq_true,Bool.not_eq_true',decide_eq_true_eq,decide_eq_false_iff_not,not_or,not_and,Bool.not_eq_false] at h1 h2 h3 h4
     obtain⟨t1,t2⟩:=h1
     have et:=dW.1 t1
     have el:nd (aH top)=k:=by rw[←aB,←et,htl]
     have hsgn:neg=true→aH top≠0:=fun hn h0=>by
      refine t2 hn ?_
      rw[et,h0,dV]
     have hnum:∀ r:List Nat,(if neg=true then [45] else [])++(top++r)=bq (if neg then -(aH top:Int) else aH top)++r:=fun r=>by
      unfold bq
      cases neg
      ·simp only[Bool.false_eq_true,if_false]
       rw[decide_eq_false (by omega),Int.natAbs_natCast,←et];rfl
      ·have h0:=hsgn rfl
       simp only[if_true]
       rw[decide_eq_true (by omega),Int.natAbs_neg,Int.natAbs_natCast,←et];simp
     have hna:(if neg then -(aH top:Int) else aH top).natAbs=aH top:=by
      cases neg<;>simp
     by_cases hk:k<b.length
     ·obtain⟨⟨b1,b2⟩,b3⟩:=h2 hk
      have eb:=dW.1 b1
      have hb0:aH bot≠0:=fun h=>b2 (by rw[eb,h,dV])
      have hb1:aH bot≠1:=fun h=>b3 (by rw[eb,h,ji])
      refine ⟨⟨if neg then -(aH top:Int) else aH top,aH bot,hb0,by rw[hna];exact Decidable.not_not.1 (h4 hk)⟩,?_,?_⟩
      ·unfold bR
       rw[if_neg hb1,←eb,←hnum,←hsp hk];exact hcs
      ·refine (rI (by decide)).2 ⟨?_,?_⟩
       ·show nd (if neg then -(aH top:Int) else aH top).natAbs≤600
        rw[hna];omega
       ·show nd (aH bot)≤600
        rw[←aB,←eb,hdl];omega
     ·have hkb:k=b.length:=by omega
      refine ⟨((if neg then -(aH top:Int) else aH top:Int):Rat),?_,?_⟩
      ·have:=hnum []
       rw[List.append_nil,List.append_nil] at this
       rw[vN,←this,htk hkb];exact hcs
      ·refine (rI (by decide)).2 ⟨?_,?_⟩
       ·show nd (if neg then -(aH top:Int) else aH top).natAbs≤600
        rw[hna];omega
       ·show nd 1≤600
        rw[iR (by decide)];omega
theorem rG {x:Rat}:(if x.num<0 then -x else x).num=x.num.natAbs∧(if x.num<0 then -x else x).den=x.den:=by
 split
 ·rw[Rat.neg_num,Rat.neg_den];exact⟨by omega,rfl⟩
 ·exact⟨by omega,rfl⟩
def fh (x:Rat):Nat:=if nd x.num.natAbs≤600∧nd x.den≤600 then 0 else 4
theorem xX (x y:Rat):(x*y).num=x.num.tdiv (Nat.gcd x.num.natAbs y.den:Nat)*y.num.tdiv (Nat.gcd y.num.natAbs x.den:Nat) ∧
  ((x*y).den:Int)=(x.den:Int).tdiv (Nat.gcd y.num.natAbs x.den:Nat)*(y.den:Int).tdiv (Nat.gcd x.num.natAbs y.den:Nat):=by
 show (Rat.mul x y).num=_∧((Rat.mul x y).den:Int)=_
 unfold Rat.mul
 simp only[Int.divExact_eq_tdiv,Nat.divExact_eq_div]
 refine ⟨trivial,?_⟩
 rw[Int.natCast_mul,Int.ofNat_tdiv,Int.ofNat_tdiv]
theorem rW {num:Int} {den g:Nat} {h1 h2 h3 h4}:(Rat.maybeNormalize num den g h1 h2 h3 h4).num=num.tdiv g∧(Rat.maybeNormalize num den g h1 h2 h3 h4).den=den/g:=by
 unfold Rat.maybeNormalize
 split
 ·rename_i h
  subst h
  simp
 ·simp only[Int.divExact_eq_tdiv,Nat.divExact_eq_div]
  exact⟨trivial,trivial⟩
theorem xS (x y:Rat) :
  (x+y).num=(x.num*((y.den/Nat.gcd x.den y.den:Nat):Int)+y.num*((x.den/Nat.gcd x.den y.den:Nat):Int)).tdiv (Nat.gcd (x.num*((y.den/Nat.gcd x.den y.den:Nat):Int)+y.num*((x.den/Nat.gcd x.den y.den:Nat):Int)).natAbs (Nat.gcd x.den y.den):Nat) ∧
  ((x+y).den:Int)=((x.den/Nat.gcd x.den y.den:Nat):Int)*(y.den:Int).tdiv (Nat.gcd (x.num*((y.den/Nat.gcd x.den y.den:Nat):Int)+y.num*((x.den/Nat.gcd x.den y.den:Nat):Int)).natAbs (Nat.gcd x.den y.den):Nat):=by
 show (Rat.add x y).num=_∧((Rat.add x y).den:Int)=_
 unfold Rat.add
 simp only
 have hgp:0<Nat.gcd x.den y.den:=Nat.gcd_pos_of_pos_left _ x.den_pos
 split
 ·rename_i h
  simp only[h,Nat.div_one,Nat.gcd_one_right]
  simp
 ·rw[rW.1,rW.2]
  refine ⟨rfl,?_⟩
  have hdvd:Nat.gcd (x.num*((y.den/Nat.gcd x.den y.den:Nat):Int)+y.num*((x.den/Nat.gcd x.den y.den:Nat):Int)).natAbs (Nat.gcd x.den y.den) ∣ y.den:=Nat.dvd_trans (Nat.gcd_dvd_right _ _) (Nat.gcd_dvd_right _ _)
  have hg1:=Nat.gcd_pos_of_pos_right (x.num*((y.den/Nat.gcd x.den y.den:Nat):Int)+y.num*((x.den/Nat.gcd x.den y.den:Nat):Int)).natAbs hgp
  generalize Nat.gcd (x.num*((y.den/Nat.gcd x.den y.den:Nat):Int)+y.num*((x.den/Nat.gcd x.den y.den:Nat):Int)).natAbs (Nat.gcd x.den y.den)=g1 at *
  generalize x.den/Nat.gcd x.den y.den=l at *
  obtain⟨m,hm⟩:=hdvd
  rw[hm,Nat.mul_left_comm,Nat.mul_div_cancel_left _ hg1,Int.natCast_mul,Int.natCast_mul,Int.mul_tdiv_cancel_left _ (by omega)]
theorem iH {a:Int} {k:Nat} (h:a.natAbs<10^k) (b:Int):(a.tdiv b).natAbs<10^k:=by
 rw[Int.natAbs_tdiv]
 exact Nat.lt_of_le_of_lt (Nat.div_le_self _ _) h
theorem sX {a k:Nat} (h:a<10^k) (h0:0<a) (b:Nat):Nat.gcd b a<10^k:=Nat.lt_of_le_of_lt (Nat.le_of_dvd h0 (Nat.gcd_dvd_right _ _)) h
theorem cJ {a b:Int} {k l:Nat} (ha:a.natAbs<10^k) (hb:b.natAbs<10^l):(a*b).natAbs<10^(k+l):=by
 rw[Int.natAbs_mul,Nat.pow_add];exact Nat.mul_lt_mul'' ha hb
theorem Fc {a b:Int} {k:Nat} (ha:a.natAbs<10^k) (hb:b.natAbs<10^k):(a+b).natAbs<10^(k+1):=by
 have:=Int.natAbs_add_le a b
 rw[Nat.pow_succ];omega
theorem dB {n k:Nat} (h:n<10^k):((n:Nat):Int).natAbs<10^k:=by rw[Int.natAbs_natCast];exact h
theorem Fy (x y:Rat):(if x.num*y.den<y.num*x.den then (-1:Int) else if y.num*x.den<x.num*y.den then 1 else 0)=(x-y).num.sign:=by
 have h1:x.num*y.den<y.num*x.den↔x<y:=Rat.lt_iff x y |>.symm
 have h2:y.num*x.den<x.num*y.den↔y<x:=Rat.lt_iff y x |>.symm
 by_cases h:x<y
 ·rw[if_pos (h1.2 h),Int.sign_eq_neg_one_of_neg]
  have:¬0≤x-y:=by intro h3;have:=Rat.not_le.2 h;apply this;grind
  have h4:¬0≤(x-y).num:=fun h=>this (Rat.num_nonneg.1 h)
  omega
 ·rw[if_neg (fun h3=>h (h1.1 h3))]
  by_cases h':y<x
  ·rw[if_pos (h2.2 h'),Int.sign_eq_one_of_pos]
   have h3:0≤(x-y).num:=Rat.num_nonneg.2 (by grind)
   have h4:(x-y).num≠0:=fun h=>by have:=Rat.num_eq_zero.1 h;grind
   omega
  ·rw[if_neg (fun h3=>h' (h2.1 h3))]
   have:x-y=0:=by grind
   rw[this];rfl
def jt (cs:List Nat) (i j:Nat):Nat:=aH ((cs.take j).drop i)
theorem tt (cs:List Nat) (i:Nat):jt cs i i=0:=by
 unfold jt
 rw[List.drop_of_length_le (by rw[List.length_take];omega)];rfl
theorem pO {cs:List Nat} {i j:Nat} (hi:i≤j) (hj:j<cs.length):jt cs i (j+1)=10*jt cs i j+(cs.getD j 0-48):=by
 unfold jt
 rw[List.take_add_one,List.getElem?_eq_getElem hj,Option.toList_some,List.drop_append_of_le_length (by rw[List.length_take];omega),rL,aY hj]
theorem Dn {cs:List Nat} (h:Dec cs) {i j:Nat} (hi:i≤j) (hj:j≤cs.length):jt cs i j<10^(j-i):=by
 unfold jt
 have h2:Dec ((cs.take j).drop i):=(h.take j).drop i
 have hl:((cs.take j).drop i).length=j-i:=by rw[List.length_drop,List.length_take];omega
 have:=gg h2 _ (Nat.le_refl _)
 rwa [List.take_of_length_le (Nat.le_refl _),hl] at this
theorem xy {cs:List Nat} (h:Dec cs) {i j:Nat} (hi:i≤j) (hj:j≤cs.length) (hd:j-i≤18):(jt cs i j:Int)≤999999999999999999:=by
 have h1:=Dn h hi hj
 have h2:10^(j-i)≤10^18:=Nat.pow_le_pow_right (by decide) hd
 have h3:(10:Nat)^18=1000000000000000000:=by decide
 omega
theorem pN {cs:List Nat} (h:Dec cs) {i j:Nat} (hi:i≤j) (hj:j≤cs.length) (hd:j-i≤19):jt cs i j<10000000000000000000:=by
 have h1:=Dn h hi hj
 have h2:10^(j-i)≤10^19:=Nat.pow_le_pow_right (by decide) hd
 have h3:(10:Nat)^19=10000000000000000000:=by decide
 omega
theorem pM {cs:List Nat} {i j:Nat} (hi:i≤j) (hj:j≤cs.length) (h:j-i=19∨i=0):aH (cs.take j)=aH (cs.take i)*10000000000000000000+jt cs i j:=by
 have e:cs.take j=cs.take i++(cs.take j).drop i:=by
  conv=>lhs;rw[←List.take_append_drop i (cs.take j)]
  rw[List.take_take,Nat.min_eq_left hi]
 have hl:((cs.take j).drop i).length=j-i:=by rw[List.length_drop,List.length_take];omega
 rw[e,jg,hl]
 rcases h with h|h
 ·rw[h];rfl
 ·subst h
  rw[List.take_zero,show aH []=0 from rfl,Nat.zero_mul,Nat.zero_mul];rfl
theorem wk {c:Nat} {cs:List Nat} (h:c≠47):an (c::cs)=an cs+1:=by
 unfold an
 have h2:(c==47)=false:=beq_eq_false_iff_ne.2 h
 rw[List.findIdx_cons,h2];rfl
theorem km (cs:List Nat):aC (45::cs)=cs:=by simp[aC]
theorem jb {cs:List Nat} (h:cs.getD 0 0≠45):aC cs=cs:=by simp only[aC,if_neg h]
theorem Fu (cs:List Nat) :
  cq cs=if (!bD (aC (cs.take (an cs))) || decide (cs.take (an cs)=[45,48]))=true then 1
   else if (decide (an cs<cs.length)&&(!bD (cs.drop (an cs+1)) || decide (cs.drop (an cs+1)=[48]) || decide (cs.drop (an cs+1)=[49])))=true then 1
   else if (decide (600<(aC (cs.take (an cs))).length) || decide (600<(cs.drop (an cs+1)).length))=true then 4
   else if (decide (an cs<cs.length) && !decide (Nat.gcd (aH (aC (cs.take (an cs)))) (aH (cs.drop (an cs+1)))=1))=true then 1
   else 0:=by
 have key:∀ b:List Nat,(b.take (an b)).length=an b∧(b.drop (an b+1)).length=b.length-an b-1:=fun b=>by
  have:=fA b
  rw[List.length_take,List.length_drop];omega
 by_cases h:cs.getD 0 0=45
 ·match cs,h with
  | c::r,h=>
   obtain rfl:c=45:=h
   unfold cq
   rw[km,wk (by decide),List.take_succ_cons,km,List.drop_succ_cons,List.length_cons,(key r).1,(key r).2]
   have e1:decide ((45::r).getD 0 0=45)=true:=rfl
   have e2:decide (45::r.take (an r)=[45,48])=decide (r.take (an r)=[48]):=by simp
   have e3:decide (an r+1<r.length+1)=decide (an r<r.length):=by simp
   rw[e1,e2,e3,Bool.true_and]
 ·unfold cq
  rw[jb h]
  have hT:(cs.take (an cs)).getD 0 0≠45:=by
   rw[List.getD_eq_getElem?_getD,List.getElem?_take]
   split
   ·rw[←List.getD_eq_getElem?_getD];exact h
   ·decide
  rw[jb hT,(key cs).1,(key cs).2]
  have e1:decide (cs.getD 0 0=45)=false:=decide_eq_false h
  have e2:decide (cs.take (an cs)=[45,48])=false:=by
   rw[decide_eq_false_iff_not]
   intro h2
   rw[h2] at hT
   exact hT rfl
  rw[e1,e2,Bool.false_and]
theorem En {t:ByteArray} (h:bD (aC (chs t))=true) (h0:decide (chs t=[45,48])=false):∃ n:Int,aJ t n∧n.natAbs=aH (aC (chs t)):=by
 have hd:=dW.1 h
 by_cases hn:(chs t).getD 0 0=45
 ·have hc:chs t=45::aC (chs t):=by
   match hcs:chs t,hn with
   | c::r,hn=>
    obtain rfl:c=45:=hn
    rw[km]
  have hz:aH (aC (chs t))≠0:=by
   intro hz
   rw[hz,dV] at hd
   rw[hd] at hc
   rw[hc] at h0
   exact absurd h0 (by decide)
  refine ⟨-(aH (aC (chs t)):Int),?_,by rw[Int.natAbs_neg,Int.natAbs_natCast]⟩
  show chs t=bq _
  unfold bq
  rw[decide_eq_true (by omega),Int.natAbs_neg,Int.natAbs_natCast,←hd]
  exact hc
 ·have hb:=jb hn
  refine ⟨(aH (aC (chs t)):Int),?_,Int.natAbs_natCast _⟩
  show chs t=bq _
  rw[dn,←hd];exact hb.symm
theorem vV {s t u:ByteArray} {x:Rat} (h:aG s x) (ht:chs t=(chs s).take (an (chs s))) (hu:chs u=(chs s).drop (an (chs s)+1)) :
  (∀ n,aJ t n→x.num=n)∧(an (chs s)<s.size→∀ m:Nat,aJ u (m:Int)→x.den=m)∧(¬an (chs s)<s.size→x.den=1):=by
 have h1:chs s=bR x:=h
 have hs:=iF x
 refine ⟨fun n hn=>?_,fun hl m hm=>?_,fun hl=>?_⟩
 ·refine uW ?_
  have h2:chs t=bq n:=hn
  rw[←h2,ht,h1,hs,jM]
 ·have hd:x.den≠1:=fun hd=>by
   rw[h1,hs,h.size,bt,if_pos hd] at hl;omega
  have h2:chs u=bq m:=hm
  rw[hu,h1,hs,jL x hd,dn] at h2
  exact fc h2
 ·rw[h1,hs] at hl
  refine (h.whole).1 ?_
  have:=h.size
  rw[bt] at this
  omega
theorem Aj {a v:Nat} (ha:0<a) (hv:v<10^19):aW (a*10^19+v)=aW a++cQ v 19:=by
 obtain⟨k,hk,h1,h2,h3⟩:=Ak a
 refine (oD ⟨k+19,?_,?_,by omega,fun _=>?_⟩).symm
 ·rw[hk];exact (gm a v 19 hv k).symm
 ·rw[Nat.pow_add]
  have:=Nat.mul_le_mul_right (10^19) (Nat.succ_le_of_lt h1)
  rw[Nat.succ_mul] at this
  omega
 ·rw[show k+19-1=(k-1)+19 by omega,Nat.pow_add]
  have h4:10^(k-1)≤a:=by
   rcases Nat.lt_or_ge 1 k with h|h
   ·exact h3 h
   ·rw[show k-1=0 by omega];exact ha
  exact Nat.le_trans (Nat.mul_le_mul_right (10^19) h4) (Nat.le_add_right _ _)
theorem Dj {v:Nat} (hv:v<10^19):cQ v 19=List.replicate (19-nd v) 48++aW v:=by
 have h:∀ j k,k≤j→v<10^k→cQ v j=List.replicate (j-k) 48++cQ v k:=by
  intro j k hk hlt
  induction j with
  | zero=>
   obtain rfl:k=0:=by omega
   simp
  | succ j ih=>
   by_cases h:k=j+1
   ·subst h;simp
   ·rw[show j+1-k=(j-k)+1 by omega,List.replicate_succ,List.cons_append,←ih (by omega)]
    simp only[cQ]
    have:v/10^j=0:=Nat.div_eq_of_lt (Nat.lt_of_lt_of_le hlt (Nat.pow_le_pow_right (by decide) (by omega)))
    rw[this]
 exact h 19 (nd v) ((gv (by decide)).2 hv) (cN v)
def gV (ps:List ByteArray):List Nat:=(ps.reverse.map chs).flatten
theorem fM (ps:List ByteArray) (p:ByteArray):gV (ps++[p])=chs p++gV ps:=by simp[gV]
theorem kD {x v x2 N:Nat} {ps:List ByteArray} {p:ByteArray} (hx:x=x2*10000000000000000000+v) (hv:v<10000000000000000000) (h:aW N=aW x++gV ps) :
  (0<x2→chs p=cQ v 19→aW N=aW x2++gV (ps++[p]))∧(x2=0→chs p=aW v→aW N=gV (ps++[p])):=by
 refine ⟨fun h2 hp=>?_,fun h2 hp=>?_⟩
 ·rw[fM,hp,←List.append_assoc,h]
  congr 1
  have:=Aj h2 (show v<10^19 from hv)
  rw[show (10:Nat)^19=10000000000000000000 from rfl,←hx] at this
  exact this
 ·subst h2
  rw[Nat.zero_mul,Nat.zero_add] at hx
  rw[fM,hp,h,hx]
theorem AD {α:Type} (xs:List (List α)):List.intercalate [] xs=xs.flatten:=by
 unfold List.intercalate
 induction xs with
 | nil=>rfl
 | cons x xs ih=>
  cases xs with
  | nil=>rfl
  | cons y ys=>
   rw[List.intersperse_cons_cons] at *
   simp only[List.flatten_cons] at *
   rw[ih];simp
end DigNum
