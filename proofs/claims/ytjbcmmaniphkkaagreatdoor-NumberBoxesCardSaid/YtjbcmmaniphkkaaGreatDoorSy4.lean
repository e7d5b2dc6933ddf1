import Derived.Test.YtjbcmmaniphkkaaGreatDoorSy3
set_option linter.unusedSectionVars false
set_option linter.unusedVariables false
set_option linter.unusedSimpArgs false
namespace Go.Sx.Seat
open Go Go.Sx Go.Proofs Go.RowKit LimbNum DigNum
abbrev Nd:=List (SE × SE × Bool)
def ivA (a b:SE):AV:=.agg [.sym (.nc a 0),.sym (.nc a 1),.sym (.nc a 2),.sym (.nc a 3),.sym (.nc b 0),.sym (.nc b 1),.sym (.nc b 2),.sym (.nc b 3)]
def Kb (f:FuncId):List AV:=[ivA (.v 0) (.v 1),ivA (.v 2) (.v 3),.fn f []]
def cLo (op:SE→SE→SE) (a b c d:SE):SE:=lo4 (op a c) (op a d) (op b c) (op b d)
def cHi (op:SE→SE→SE) (a b c d:SE):SE:=hi4 (op a c) (op a d) (op b c) (op b d)
def Ct (op:SE→SE→SE) (L:List PT):List PT:=L.flatMap fun T=>yF (op (.v 0) (.v 2)) (op (.v 0) (.v 3)) (op (.v 1) (.v 2)) (op (.v 1) (.v 3)) T
theorem pe {ρ:Nat→Rat} {σ:Nat→ByteArray} {L:List PT} (h:cC ρ σ L) (op:SE→SE→SE):cC ρ σ (Ct op L):=by
 obtain⟨T,hm,hT⟩:=h
 obtain⟨T',h1,h2⟩:=cC.yF hT (op (.v 0) (.v 2)) (op (.v 0) (.v 3)) (op (.v 1) (.v 2)) (op (.v 1) (.v 3))
 exact⟨T',List.mem_flatMap.2 ⟨T,hm,h1⟩,h2⟩
def n2:Nd:=[(.v 0,.v 1,false),(.v 2,.v 3,false)]
def rC (f:FuncId) (op:SE→SE→SE) (n:Nd):Rule:=⟨Kb f,ivA (cLo op (.v 0) (.v 1) (.v 2) (.v 3)) (cHi op (.v 0) (.v 1) (.v 2) (.v 3)),20000,n2++n⟩
def tSg (op:SE→SE→SE) (T:PT):PT:=
 let p:=op (.v 0) (.v 2);let q:=op (.v 0) (.v 3);let r:=op (.v 1) (.v 2);let s:=op (.v 1) (.v 3)
 ((((T.add p q 0).add p r 0).add p s 0).add (.v 0) (.v 1) 0).add (.v 2) (.v 3) 0
def tNs (T:PT):List PT:=[T.add (.v 0) (.v 1) (-1),(T.add (.v 0) (.v 1) 0).add (.v 2) (.v 3) (-1)]
def Ka (op:SE→SE→SE) (T:PT):List PT:=tSg op T::Ct op (tNs T)
theorem Iu {x y:Rat} (h:y<x):sg x y=1:=by rw[gD,fR.2 h];rfl
section
variable {ρ : Nat → Rat} {σ : Nat → ByteArray}
theorem iR {l:Nd} {a b:SE} (hn:∀ c∈l,uc ρ c) (h:(a,b,true)∈l):a.val ρ<b.val ρ:=hn _ h
theorem Dr {l:Nd} {a b:SE} (hn:∀ c∈l,uc ρ c) (h:(a,b,false)∈l):a.val ρ≤b.val ρ:=hn _ h
theorem Fq {T:PT} (hT:TOK ρ σ T) (h1:ρ 0≤ρ 1) (h2:ρ 2≤ρ 3) (op:SE→SE→SE) (hop:∀ a b c d:SE,a.val ρ=c.val ρ→b.val ρ=d.val ρ→(op a b).val ρ=(op c d).val ρ):cC ρ σ (Ka op T):=by
 have g1:=gC.1 h1
 have g2:=gC.1 h2
 rcases cG (ρ 0) (ρ 1) with h|h|h
 ·obtain⟨T',q1,q2⟩:=pe (⟨_,List.mem_cons_self,hT.add (a:=.v 0) (b:=.v 1) h⟩:cC ρ σ (tNs T)) op
  exact⟨T',List.mem_cons_of_mem _ q1,q2⟩
 ·rcases cG (ρ 2) (ρ 3) with g|g|g
  ·obtain⟨T',q1,q2⟩:=pe (⟨_,List.mem_cons_of_mem _ List.mem_cons_self,(hT.add (a:=.v 0) (b:=.v 1) h).add (a:=.v 2) (b:=.v 3) g⟩:cC ρ σ (tNs T)) op
   exact⟨T',List.mem_cons_of_mem _ q1,q2⟩
  ·have e1:=cK.1 h
   have e2:=cK.1 g
   refine ⟨_,List.mem_cons_self,((((hT.add (a:=op (.v 0) (.v 2)) (b:=op (.v 0) (.v 3)) ?_).add (a:=op (.v 0) (.v 2)) (b:=op (.v 1) (.v 2)) ?_).add (a:=op (.v 0) (.v 2)) (b:=op (.v 1) (.v 3)) ?_).add (a:=.v 0) (b:=.v 1) h).add (a:=.v 2) (b:=.v 3) g⟩
   ·exact cK.2 (hop _ _ _ _ rfl e2)
   ·exact cK.2 (hop _ _ _ _ e1 rfl)
   ·exact cK.2 (hop _ _ _ _ e1 e2)
  ·omega
 ·omega
end
theorem Kt:fG Tryz.prog 176 (rC 75 .mul []):=gB iU (by kernel_rfl) rfl (L:=Ka .mul (mg 0 20000)) (fun ρ h hn=>Fq h (Dr (a:=.v 0) (b:=.v 1) hn (by simp[rC,n2])) (Dr (a:=.v 2) (b:=.v 3) hn (by simp[rC,n2])) .mul (fun a b c d h1 h2=>by show _*_=_*_;rw[h1,h2])) (fun ρ=>by kernel_rfl)
def abS (s:Int) (e:SE):SE:=match s with
 | .negSucc _=>.neg e
 | .ofNat _=>e
def tSq (s t c:Int):PT:=((((mg 0 20000).add (.mul (.v 0) (.v 0)) (.mul (.v 1) (.v 1)) c).add (abS s (.v 0)) (abS t (.v 1)) c).add (.v 1) (.int 0) t).add (.v 0) (.int 0) s
def three:List Int:=[-1,0,1]
def tSqs:List PT:=three.flatMap fun s=>three.flatMap fun t=>three.map fun c=>tSq s t c
theorem jq (x y:Rat):sg x y∈three:=by
 rcases cG x y with h|h|h<;>rw[h]<;>decide
theorem ni {x:Rat}:0<x.num↔0<x:=by
 constructor
 ·intro h
  refine Rat.not_le.1 fun hc=>?_
  have h2:=Rat.num_nonneg.2 (show 0≤-x by grind)
  rw[Rat.neg_num] at h2
  omega
 ·intro h
  have h1:=Rat.num_nonneg.2 (Rat.le_of_lt h)
  have h2:x.num≠0:=fun hc=>by rw[Rat.num_eq_zero.1 hc] at h;exact absurd h (by decide)
  omega
theorem oP (x y:Rat):(x*y).num.sign=x.num.sign*y.num.sign:=by
 have h1:∀ z:Rat,z.num.sign=sg z 0:=fun z=>by unfold sg;rw[Rat.sub_eq_add_neg,show (-(0:Rat))=0 from rfl,Rat.add_zero]
 rcases Int.lt_trichotomy x.num 0 with hx|hx|hx<;>rcases Int.lt_trichotomy y.num 0 with hy|hy|hy
 all_goals first
  |(have e:=Rat.num_eq_zero.1 hx;subst e;rw[Rat.zero_mul];simp;done)
  |(have e:=Rat.num_eq_zero.1 hy;subst e;rw[Rat.mul_zero];simp;done)
  | skip
 ·rw[Int.sign_eq_neg_one_of_neg hx,Int.sign_eq_neg_one_of_neg hy]
  have h:=Rat.mul_pos (a:=-x) (b:=-y) (ni.1 (by rw[Rat.neg_num];omega)) (ni.1 (by rw[Rat.neg_num];omega))
  rw[Rat.neg_mul,Rat.mul_neg,Rat.neg_neg] at h
  exact Int.sign_eq_one_of_pos (ni.2 h)
 ·rw[Int.sign_eq_neg_one_of_neg hx,Int.sign_eq_one_of_pos hy]
  have h:=Rat.mul_pos (a:=-x) (b:=y) (ni.1 (by rw[Rat.neg_num];omega)) (ni.1 hy)
  have h2:=ni.2 h
  rw[Rat.neg_mul,Rat.neg_num] at h2
  exact Int.sign_eq_neg_one_of_neg (by omega)
 ·rw[Int.sign_eq_one_of_pos hx,Int.sign_eq_neg_one_of_neg hy]
  have h:=Rat.mul_pos (a:=x) (b:=-y) (ni.1 hx) (ni.1 (by rw[Rat.neg_num];omega))
  have h2:=ni.2 h
  rw[Rat.mul_neg,Rat.neg_num] at h2
  exact Int.sign_eq_neg_one_of_neg (by omega)
 ·rw[Int.sign_eq_one_of_pos hx,Int.sign_eq_one_of_pos hy]
  exact Int.sign_eq_one_of_pos (ni.2 (Rat.mul_pos (ni.1 hx) (ni.1 hy)))
def abV (x:Rat):Rat:=if x<0 then -x else x
theorem pa (x:Rat):0≤abV x:=by unfold abV;split<;>grind
theorem Cc (x:Rat):abV x*abV x=x*x:=by unfold abV;split<;>grind
theorem yu (ρ:Nat→Rat) (i:Nat):(abS (sg (ρ i) 0) (.v i)).val ρ=abV (ρ i):=by
 unfold abV abS
 rcases cG (ρ i) 0 with h|h|h
 ·rw[h,if_pos (fR.1 h)];rfl
 ·rw[h,if_neg (fun hc=>by rw[fR.2 hc] at h;exact absurd h (by decide))];rfl
 ·rw[h,if_neg (fun hc=>by rw[fR.2 hc] at h;exact absurd h (by decide))];rfl
theorem KC {x y:Rat} (hx:0≤x) (hy:0≤y):sg (x*x) (y*y)=sg x y:=by
 have e:x*x-y*y=(x-y)*(x+y):=by grind
 unfold sg
 rw[e,oP]
 by_cases h:x+y=0
 ·have h1:x-y=0:=by grind
  rw[h1,show (0:Rat).num.sign=0 from rfl,Int.zero_mul]
 ·have h3:0<(x+y).num:=ni.2 (by grind)
  rw[Int.sign_eq_one_of_pos h3,Int.mul_one]
def rSq:Rule:=⟨[ivA (.v 0) (.v 1)],ivA (.bin 2 (.v 0) (.v 1)) (.bin 3 (.v 0) (.v 1)),20000,[]⟩
theorem rsq:fG Tryz.prog 96 rSq:=gB iU (by kernel_rfl) rfl (L:=tSqs) (fun ρ h _=>by
 have hc:sg (ρ 0*ρ 0) (ρ 1*ρ 1)=sg (abV (ρ 0)) (abV (ρ 1)):=by
  rw[←Cc (ρ 0),←Cc (ρ 1),KC (pa _) (pa _)]
 refine ⟨tSq (sg (ρ 0) 0) (sg (ρ 1) 0) (sg (abV (ρ 0)) (abV (ρ 1))),?_,?_⟩
 ·exact List.mem_flatMap.2 ⟨_,jq _ _,List.mem_flatMap.2 ⟨_,jq _ _,List.mem_map.2 ⟨_,jq _ _,rfl⟩⟩⟩
 ·exact (((h.add (a:=.mul (.v 0) (.v 0)) (b:=.mul (.v 1) (.v 1)) hc).add (a:=abS (sg (ρ 0) 0) (.v 0)) (b:=abS (sg (ρ 1) 0) (.v 1)) (by rw[yu,yu])).add (a:=.v 1) (b:=.int 0) rfl).add (a:=.v 0) (b:=.int 0) rfl) (fun ρ=>by kernel_rfl)
end Go.Sx.Seat
namespace Go.Sx.Seat
open Go Go.Sx Go.Proofs Go.RowKit LimbNum DigNum
def spS (a b:SE):AV:=.agg [.sym (.ss a),.sym (.ss b)]
def KH:List AV:=[spS (.v 0) (.v 1),spS (.v 2) (.v 3)]
theorem Eg:fG Tryz.prog 29 ⟨KH,spS (cLo .mul (.v 0) (.v 1) (.v 2) (.v 3)) (cHi .mul (.v 0) (.v 1) (.v 2) (.v 3)),600,[]⟩:=gB iU (by kernel_rfl) rfl (L:=Ct .mul [mg 0 600]) (fun _ h _=>pe (cC.one h) .mul) (fun _=>by kernel_rfl)
def tRq (s t d m:Int):PT:=
 let a:=SE.mul (.v 0) (.v 0);let b:=SE.mul (.v 0) (.v 1);let b':=SE.mul (.v 1) (.v 0);let c:=SE.mul (.v 1) (.v 1)
 ((((((((mg 0 600).add b b' 0).add a b (s*d)).add a b' (s*d)).add b c (t*d)).add b' c (t*d)).add a c (d*m)).add (.v 1) (.int 0) t).add (.v 0) (.int 0) s
def JM:List PT:=[tRq (-1) (-1) (-1) (-1),tRq (-1) (-1) 0 (-1),tRq (-1) 0 (-1) (-1),tRq (-1) 1 (-1) (-1),tRq (-1) 1 (-1) 0,tRq (-1) 1 (-1) 1,tRq 0 0 0 0,tRq 0 1 (-1) 1,tRq 1 1 (-1) 1,tRq 1 1 0 1]
theorem sg0 (x:Rat):sg x 0=x.num.sign:=by unfold sg;rw[Rat.sub_eq_add_neg,show (-(0:Rat))=0 from rfl,Rat.add_zero]
theorem JL {ρ:Nat→Rat} {σ:Nat→ByteArray} (h:TOK ρ σ (mg 0 600)) {s t d m:Int} (hs:sg (ρ 0) 0=s) (ht:sg (ρ 1) 0=t) (hd:sg (ρ 0) (ρ 1)=d) (hm:sg (ρ 0+ρ 1) 0=m):TOK ρ σ (tRq s t d m):=by
 rw[sg0] at hs ht hm
 have hd':(ρ 0-ρ 1).num.sign=d:=hd
 have e1:sg (ρ 0*ρ 0) (ρ 0*ρ 1)=s*d:=by
  unfold sg
  rw[show ρ 0*ρ 0-ρ 0*ρ 1=ρ 0*(ρ 0-ρ 1) by grind,oP,hs,hd']
 have e2:sg (ρ 0*ρ 0) (ρ 1*ρ 0)=s*d:=by rw[Rat.mul_comm (ρ 1)];exact e1
 have e3:sg (ρ 0*ρ 1) (ρ 1*ρ 1)=t*d:=by
  unfold sg
  rw[show ρ 0*ρ 1-ρ 1*ρ 1=ρ 1*(ρ 0-ρ 1) by grind,oP,ht,hd']
 have e4:sg (ρ 1*ρ 0) (ρ 1*ρ 1)=t*d:=by rw[Rat.mul_comm (ρ 1) (ρ 0)];exact e3
 have e5:sg (ρ 0*ρ 0) (ρ 1*ρ 1)=d*m:=by
  unfold sg
  rw[show ρ 0*ρ 0-ρ 1*ρ 1=(ρ 0-ρ 1)*(ρ 0+ρ 1) by grind,oP,hd',hm]
 have e0:sg (ρ 0*ρ 1) (ρ 1*ρ 0)=0:=by rw[Rat.mul_comm (ρ 1)];exact tL _
 exact (((((((h.add (a:=.mul (.v 0) (.v 1)) (b:=.mul (.v 1) (.v 0)) e0).add (a:=.mul (.v 0) (.v 0)) (b:=.mul (.v 0) (.v 1)) e1).add (a:=.mul (.v 0) (.v 0)) (b:=.mul (.v 1) (.v 0)) e2).add (a:=.mul (.v 0) (.v 1)) (b:=.mul (.v 1) (.v 1)) e3).add (a:=.mul (.v 1) (.v 0)) (b:=.mul (.v 1) (.v 1)) e4).add (a:=.mul (.v 0) (.v 0)) (b:=.mul (.v 1) (.v 1)) e5).add (a:=.v 1) (b:=.int 0) (by show sg (ρ 1) 0=t;rw[sg0];exact ht)).add (a:=.v 0) (b:=.int 0) (by show sg (ρ 0) 0=s;rw[sg0];exact hs)
theorem JA {x y:Rat}:sg x y = -1↔x<y:=⟨fun h=>fR.1 h,fun h=>fR.2 h⟩
theorem JB {x y:Rat}:sg x y=1↔y<x:=⟨fun h=>fR.1 (by rw[gD,h]),fun h=>Iu h⟩
theorem Hv {ρ:Nat→Rat} {σ:Nat→ByteArray} (h:TOK ρ σ (mg 0 600)) (hle:ρ 0≤ρ 1):cC ρ σ JM:=by
 refine ⟨_,?_,JL h rfl rfl rfl rfl⟩
 have hd:sg (ρ 0) (ρ 1)≤0:=gC.1 hle
 generalize hdd:sg (ρ 0) (ρ 1)=d at *
 generalize hss:sg (ρ 0) 0=s at *
 generalize htt:sg (ρ 1) 0=t at *
 generalize hmm:sg (ρ 0+ρ 1) 0=m at *
 have D:=cG (ρ 0) (ρ 1)
 have S:=cG (ρ 0) 0
 have Q:=cG (ρ 1) 0
 have M:=cG (ρ 0+ρ 1) 0
 rw[hdd] at D
 rw[hss] at S
 rw[htt] at Q
 rw[hmm] at M
 rcases S with rfl|rfl|rfl<;>rcases Q with rfl|rfl|rfl<;>rcases D with rfl|rfl|rfl<;>rcases M with rfl|rfl|rfl
 all_goals first
  |(exfalso;revert hd;decide)
  |(simp[JM];done)
  |(exfalso;simp only[JA,JB,cK] at *;grind)
theorem Bi:fG Tryz.prog 19 ⟨[spS (.v 0) (.v 1)],spS (.bin 2 (.v 0) (.v 1)) (.bin 3 (.v 0) (.v 1)),600,[(.v 0,.v 1,false)]⟩:=gB iU (by kernel_rfl) rfl (L:=JM) (fun _ h hn=>Hv h (hn (.v 0,.v 1,false) List.mem_cons_self)) (fun _=>by kernel_rfl)
theorem Ku:fG Tryz.prog 17 ⟨[spS (.v 0) (.v 1)],.int .i64 0,600,[(.v 0,.v 1,false)]⟩:=gB iU (by kernel_rfl) rfl (L:=sp2 (.v 0) (.v 1) [mg 0 600]) (fun ρ h hn=>
 (cC.one h).sp2 (hn (.v 0,.v 1,false) List.mem_cons_self)) (fun ρ=>by kernel_rfl)
theorem Kw:fG Tryz.prog 95 ⟨[spS (.v 0) (.v 1)],.tup [ivA (.v 0) (.v 1),.int .i64 0],600,[(.v 0,.v 1,false)]⟩:=gB iU (by kernel_rfl) rfl (L:=sp2 (.v 0) (.v 1) [mg 0 600]) (fun ρ h hn=>
 (cC.one h).sp2 (hn (.v 0,.v 1,false) List.mem_cons_self)) (fun ρ=>by kernel_rfl)
end Go.Sx.Seat
namespace Go.Sx.Seat
open Go Go.Sx Go.Proofs Go.RowKit LimbNum DigNum
def z4:List AV:=[.sym (.nc (.int 0) 0),.sym (.nc (.int 0) 1),.sym (.nc (.int 0) 2),.sym (.nc (.int 0) 3)]
def z8:List AV:=z4++z4
def gG (s t:ByteArray) (c:Nat):Prop:=(cq (chs s)=c∧(c=1∨c=4))∨(cq (chs s)=0∧cq (chs t)=c∧(c=1∨c=4))∨(c=11∧cq (chs s)=0∧cq (chs t)=0∧nB t<nB s)
def oZ (s t:ByteArray):Prop:=cq (chs s)=0∧cq (chs t)=0∧nB s≤nB t
def gd:List Nat:=[1,4,11]
theorem gG.mem {s t:ByteArray} {c:Nat} (h:gG s t c):c∈gd:=by
 rcases h with ⟨_,rfl|rfl⟩|⟨_,_,rfl|rfl⟩|⟨rfl,_⟩<;>decide
theorem nv (s t:ByteArray):oZ s t∨∃ c,gG s t c:=by
 rcases mE (chs s) with h|h|h
 ·rcases mE (chs t) with g|g|g
  ·by_cases hl:nB s≤nB t
   ·exact .inl ⟨h,g,hl⟩
   ·exact .inr ⟨11,.inr (.inr ⟨rfl,h,g,Rat.not_le.1 hl⟩)⟩
  ·exact .inr ⟨1,.inr (.inl ⟨h,g,.inl rfl⟩)⟩
  ·exact .inr ⟨4,.inr (.inl ⟨h,g,.inr rfl⟩)⟩
 ·exact .inr ⟨1,.inl ⟨h,.inl rfl⟩⟩
 ·exact .inr ⟨4,.inl ⟨h,.inr rfl⟩⟩
def tE (c d:Nat) (l:List (SE × SE × Int)):PT:=JN 600 [(0,c),(1,d)] (l,[])
def yx (c:Nat):List PT:=(three.map fun s=>tE c 0 [(.int 0,.v 1,s)])++([tE c 1 [],tE c 4 []]++three.map fun s=>tE 0 c [(.v 0,.int 0,s)])
def qK:Nat→List PT
 | 11=>[tE 0 0 [(.v 0,.v 1,1)]]
 | c=>yx c
theorem Ev {σ:Nat→ByteArray} (hs:∀ i,(σ i).size≤1000000) {c:Nat} (h:gG (σ 0) (σ 1) c):cC (ew σ) σ (qK c):=by
 have key:∀ (a b:Nat) (l:List (SE × SE × Int)),cq (chs (σ 0))=a→cq (chs (σ 1))=b→(∀ x∈l,sg (x.1.val (ew σ)) (x.2.1.val (ew σ))=x.2.2)→TOK (ew σ) σ (tE a b l):=fun a b l h1 h2 h3=>
  KG hs (fun i=>tS _) (fun x hx=>by
   simp only[List.mem_cons,List.not_mem_nil,or_false] at hx
   rcases hx with rfl|rfl
   ·exact h1
   ·exact h2) ⟨h3,fun x hx=>absurd hx List.not_mem_nil⟩
 have one:∀ (a b:SE) (s:Int),sg (a.val (ew σ)) (b.val (ew σ))=s→∀ x∈[(a,b,s)],sg (x.1.val (ew σ)) (x.2.1.val (ew σ))=x.2.2:=fun a b s h x hx=>by
  rw[List.mem_singleton] at hx;subst hx;exact h
 have bad:∀ c,(c=1∨c=4)→cC (ew σ) σ (yx c)→cC (ew σ) σ (qK c):=fun c hc h=>by rcases hc with rfl|rfl<;>exact h
 rcases h with ⟨h,hc⟩|⟨h1,h2,hc⟩|⟨rfl,h1,h2,h3⟩
 ·refine bad c hc ?_
  rcases mE (chs (σ 1)) with g|g|g
  ·exact⟨_,List.mem_append_left _ (List.mem_map.2 ⟨_,jq _ _,rfl⟩),key c 0 _ h g (one (.int 0) (.v 1) _ rfl)⟩
  ·exact⟨_,List.mem_append_right _ (List.mem_append_left _ List.mem_cons_self),key c 1 _ h g fun x hx=>absurd hx List.not_mem_nil⟩
  ·exact⟨_,List.mem_append_right _ (List.mem_append_left _ (List.mem_cons_of_mem _ List.mem_cons_self)),key c 4 _ h g fun x hx=>absurd hx List.not_mem_nil⟩
 ·exact bad c hc ⟨_,List.mem_append_right _ (List.mem_append_right _ (List.mem_map.2 ⟨_,jq _ _,rfl⟩)),key 0 c _ h1 h2 (one (.v 0) (.int 0) _ rfl)⟩
 ·exact⟨_,List.mem_cons_self,key 0 0 _ h1 h2 (one (.v 0) (.v 1) _ (Iu h3))⟩
def okP (c:Nat):AV:=.tup [.agg z8,.int .i64 (.ofNat c)]
def okI (c:Nat):AV:=.int .i64 (.ofNat c)
theorem lY {ss:List ByteArray} (h:∀ x∈ss,x.size≤1000000) (i:Nat):(sig ss i).size≤1000000:=by
 unfold sig
 rw[List.getD_eq_getElem?_getD]
 cases hg:ss[i]? with
 | none=>exact Nat.zero_le _
 | some x=>exact h x (List.mem_of_getElem? hg)
theorem sM {ss:List ByteArray} (hs:∀ x∈ss,x.size≤1000000) {L:List PT} (hL:cC (ew (sig ss)) (sig ss) L) {lv:PT→List (Nat × Prm)} (hlv:∀ (U:Unk) T,@Sem U (ew (sig ss)) (sig ss) T→∀ x∈lv T,@au U _ Tryz.prog x.1 x.2) {f:FuncId} {is:List Nat} (hi:is.map (sig ss)=ss) {out:AV} (hb:(fnT.get f).isSome=true) (ho:plA out=true)
  (hrun:(L.all fun T=>@qp (gn (ew (sig ss)) (sig ss) T) _ T (ES lv T) 1000 60 f [agS is] out)=true):kX Tryz.prog f ss out:=by
 have:=yp ho (leaf (E:=ES lv) hL mixed (fun _=>dr) (fun _=>dc) (fun U T hT=>@ml U _ _ _ _ (@bI U) (hlv U T hT)) (fun fn h=>jC hb h) hrun)
 rwa [hi] at this
theorem Jw (ρ:Nat→Rat) (σ:Nat→ByteArray):(gd.all fun c=>(qK c).all fun T=>@qp (gn ρ σ T) _ T (ES sy T) 1000 60 95 [agS [0,1]] (okP c))=true:=by kernel_rfl
theorem Jv (ρ:Nat→Rat) (σ:Nat→ByteArray):(gd.all fun c=>(qK c).all fun T=>@qp (gn ρ σ T) _ T (ES sy T) 1000 60 17 [agS [0,1]] (okI c))=true:=by kernel_rfl
theorem Jp {c:Nat} (h:c∈gd):plA (okP c)=true:=by
 simp only[gd,List.mem_cons,List.not_mem_nil,or_false] at h
 rcases h with rfl|rfl|rfl<;>rfl
theorem KD {s t:ByteArray} (hs:s.size≤1000000) (ht:t.size≤1000000) {c:Nat} (h:gG s t c):kX Tryz.prog 95 [s,t] (okP c)∧kX Tryz.prog 17 [s,t] (okI c):=by
 have hz:∀ x∈[s,t],x.size≤1000000:=fun x hx=>by
  simp only[List.mem_cons,List.not_mem_nil,or_false] at hx
  rcases hx with rfl|rfl<;>assumption
 have hc:=h.mem
 have hL:cC (ew (sig [s,t])) (sig [s,t]) (qK c):=Ev (lY hz) h
 exact⟨sM hz hL (fun U T hT=>iU U _ _ T hT) (is:=[0,1]) rfl (by kernel_rfl) (Jp hc) (List.all_eq_true.1 (Jw _ _) c hc),
  sM hz hL (fun U T hT=>iU U _ _ T hT) (is:=[0,1]) rfl (by kernel_rfl) rfl (List.all_eq_true.1 (Jv _ _) c hc)⟩
def okB (c:Nat):AV:=.tup [.agg (z8++z8),.int .i64 (.ofNat c)]
def lvS:PT→List (Nat × Prm):=sK 95 ⟨[spS (.v 0) (.v 1)],.tup [ivA (.v 0) (.v 1),.int .i64 0],600,[(.v 0,.v 1,false)]⟩ (sK 17 ⟨[spS (.v 0) (.v 1)],.int .i64 0,600,[(.v 0,.v 1,false)]⟩ sy)
theorem Dl:ub lvS:=(iU.add Ku).add Kw
def bdS (i c:Nat):List (Nat × Prm):=match c with
 | 0=>[]
 | c=>[(95,AX [i,i+1] (okP c)),(17,AX [i,i+1] (okI c))]
def chS (i c:Nat):List (Nat × Nat):=match c with
 | 0=>[(i,0),(i+1,0)]
 | _=>[]
def leS (i c:Nat):List (SE × SE):=match c with
 | 0=>[(.v i,.v (i+1))]
 | _=>[]
def tX (K:Nat) (l:List (Nat × Nat)) (cm:List (SE × SE × Int)):PT:=JN K (l.flatMap fun x=>chS x.1 x.2) (cm,l.flatMap fun x=>leS x.1 x.2)
def lvX (l:List (Nat × Nat)) (lv:PT→List (Nat × Prm)) (T:PT):List (Nat × Prm):=(l.flatMap fun x=>bdS x.1 x.2)++lv T
def uh (σ:Nat→ByteArray) (i c:Nat):Prop:=match c with
 | 0=>oZ (σ i) (σ (i+1))
 | c=>gG (σ i) (σ (i+1)) c
theorem Iv {σ:Nat→ByteArray} {K:Nat} (hs:∀ i,(σ i).size≤1000000) (hb:∀ i,Bd (ew σ i) K) {l:List (Nat × Nat)} (h:∀ x∈l,uh σ x.1 x.2) {cm:List (SE × SE × Int)} (hcm:∀ x∈cm,sg (x.1.val (ew σ)) (x.2.1.val (ew σ))=x.2.2):TOK (ew σ) σ (tX K l cm):=
 KG hs hb (fun y hy=>by
  obtain⟨⟨i,c⟩,h1,h2⟩:=List.mem_flatMap.1 hy
  have h3:=h _ h1
  cases c with
  | zero=>
   simp only[chS,List.mem_cons,List.not_mem_nil,or_false] at h2
   have h3:oZ (σ i) (σ (i+1)):=h3
   rcases h2 with rfl|rfl
   ·exact h3.1
   ·exact h3.2.1
  | succ c=>exact absurd h2 List.not_mem_nil) ⟨hcm,fun y hy=>by
  obtain⟨⟨i,c⟩,h1,h2⟩:=List.mem_flatMap.1 hy
  have h3:=h _ h1
  cases c with
  | zero=>
   simp only[leS,List.mem_cons,List.not_mem_nil,or_false] at h2
   have h3:oZ (σ i) (σ (i+1)):=h3
   subst h2
   exact h3.2.2
  | succ c=>exact absurd h2 List.not_mem_nil⟩
theorem Dm {U:Unk} {σ:Nat→ByteArray} {T:PT} (hT:@Sem U (ew σ) σ T) (hs:∀ i,(σ i).size≤1000000) {l:List (Nat × Nat)} (h:∀ x∈l,uh σ x.1 x.2) {lv:PT→List (Nat × Prm)} (hlv:ub lv):∀ x∈lvX l lv T,@au U _ Tryz.prog x.1 x.2:=by
 intro x hx
 rcases List.mem_append.1 hx with hx|hx
 ·obtain⟨⟨i,c⟩,h1,h2⟩:=List.mem_flatMap.1 hx
  have h3:=h _ h1
  cases c with
  | zero=>exact absurd h2 List.not_mem_nil
  | succ c=>
   have h3:gG (σ i) (σ (i+1)) (c+1):=h3
   obtain⟨g1,g2⟩:=KD (hs i) (hs (i+1)) h3
   simp only[bdS,List.mem_cons,List.not_mem_nil,or_false] at h2
   rcases h2 with rfl|rfl
   ·exact @oK _ _ _ U _ hT _ _ [i,i+1] _ g1
   ·exact @oK _ _ _ U _ hT _ _ [i,i+1] _ g2
 ·exact hlv U _ _ T hT x hx
def two (a b:Nat):Nat:=match a with
 | 0=>b
 | a=>a
def Cf:List Nat:=[0,1,4,11]
def zi:List (Nat × Nat):=(gd.flatMap fun a=>Cf.map fun b=>(a,b))++gd.map fun b=>(0,b)
theorem Ju (ρ:Nat→Rat) (σ:Nat→ByteArray):(zi.all fun p=>[tX 600 [(0,p.1),(2,p.2)] []].all fun T=>@qp (gn ρ σ T) _ T (ES (lvX [(0,p.1),(2,p.2)] lvS) T) 1000 60 106 [agS [0,1,2,3]] (okB (two p.1 p.2)))=true:=by kernel_rfl
theorem Jt (ρ:Nat→Rat) (σ:Nat→ByteArray):(zi.all fun p=>[tX 600 [(0,p.1),(2,p.2)] []].all fun T=>@qp (gn ρ σ T) _ T (ES (lvX [(0,p.1),(2,p.2)] lvS) T) 1000 60 32 [agS [0,1,2,3]] (okI (two p.1 p.2)))=true:=by kernel_rfl
def mu (a b c d:ByteArray) (e:Nat):Prop:=gG a b e∨(oZ a b∧gG c d e)
def BK (a b c d:ByteArray):Prop:=oZ a b∧oZ c d
theorem mu.mem {a b c d:ByteArray} {e:Nat} (h:mu a b c d e):e∈gd:=h.elim (fun h=>h.mem) fun h=>h.2.mem
theorem Ab (a b c d:ByteArray):BK a b c d∨∃ e,mu a b c d e:=by
 rcases nv a b with h|⟨e,h⟩
 ·rcases nv c d with g|⟨e,g⟩
  ·exact .inl ⟨h,g⟩
  ·exact .inr ⟨e,.inr ⟨h,g⟩⟩
 ·exact .inr ⟨e,.inl h⟩
theorem mF {c:Nat} (h:c∈gd):∃ n,c=n+1:=by
 simp only[gd,List.mem_cons,List.not_mem_nil,or_false] at h
 rcases h with rfl|rfl|rfl<;>exact⟨_,rfl⟩
theorem tP {σ:Nat→ByteArray} {i c:Nat} (h:gG (σ i) (σ (i+1)) c):uh σ i c:=by
 obtain⟨n,rfl⟩:=mF h.mem
 exact h
theorem Jo {c:Nat} (h:c∈gd):plA (okB c)=true:=by
 simp only[gd,List.mem_cons,List.not_mem_nil,or_false] at h
 rcases h with rfl|rfl|rfl<;>rfl
theorem JZ {a b c d:ByteArray} (ha:a.size≤1000000) (hb:b.size≤1000000) (hc:c.size≤1000000) (hd:d.size≤1000000) {e:Nat} (h:mu a b c d e):kX Tryz.prog 106 [a,b,c,d] (okB e)∧kX Tryz.prog 32 [a,b,c,d] (okI e):=by
 have hz:∀ x∈[a,b,c,d],x.size≤1000000:=fun x hx=>by
  simp only[List.mem_cons,List.not_mem_nil,or_false] at hx
  rcases hx with rfl|rfl|rfl|rfl<;>assumption
 have hm:=h.mem
 have key:∀ p∈zi,(∀ x∈[(0,p.1),(2,p.2)],uh (sig [a,b,c,d]) x.1 x.2)→two p.1 p.2=e→kX Tryz.prog 106 [a,b,c,d] (okB e)∧kX Tryz.prog 32 [a,b,c,d] (okI e):=by
  intro p hp hst he
  have hT:=Iv (K:=600) (lY hz) (fun i=>tS _) hst (cm:=[]) fun x hx=>absurd hx List.not_mem_nil
  have r1:=List.all_eq_true.1 (Ju (ew (sig [a,b,c,d])) (sig [a,b,c,d])) p hp
  have r2:=List.all_eq_true.1 (Jt (ew (sig [a,b,c,d])) (sig [a,b,c,d])) p hp
  rw[he] at r1 r2
  exact⟨sM hz (cC.one hT) (fun U T hT=>Dm hT (lY hz) hst Dl) (is:=[0,1,2,3]) rfl (by kernel_rfl) (Jo hm) r1,
   sM hz (cC.one hT) (fun U T hT=>Dm hT (lY hz) hst Dl) (is:=[0,1,2,3]) rfl (by kernel_rfl) rfl r2⟩
 have pm:∀ a b,a∈gd→b∈Cf→(a,b)∈zi:=fun a b h1 h2=>List.mem_append_left _ (List.mem_flatMap.2 ⟨a,h1,List.mem_map.2 ⟨b,h2,rfl⟩⟩)
 have tw:∀ a b,a∈gd→two a b=a:=fun a b h=>by
  obtain⟨n,rfl⟩:=mF h
  rfl
 have st:∀ p q,uh (sig [a,b,c,d]) 0 p→uh (sig [a,b,c,d]) 2 q→∀ x∈[(0,p),(2,q)],uh (sig [a,b,c,d]) x.1 x.2:=fun p q h1 h2 x hx=>by
  simp only[List.mem_cons,List.not_mem_nil,or_false] at hx
  rcases hx with rfl|rfl
  ·exact h1
  ·exact h2
 rcases h with h|⟨h1,h2⟩
 ·rcases nv c d with g|⟨e',g⟩
  ·exact key (e,0) (pm _ _ h.mem (by decide)) (st _ _ (tP (σ:=sig [a,b,c,d]) (i:=0) h) g) (tw _ _ h.mem)
  ·exact key (e,e') (pm _ _ h.mem (List.mem_cons_of_mem _ g.mem)) (st _ _ (tP (σ:=sig [a,b,c,d]) (i:=0) h) (tP (σ:=sig [a,b,c,d]) (i:=2) g)) (tw _ _ h.mem)
 ·exact key (0,e) (List.mem_append_right _ (List.mem_map.2 ⟨e,h2.mem,rfl⟩)) (st 0 e h1 (tP (σ:=sig [a,b,c,d]) (i:=2) h2)) rfl
def n4:Nd:=[(.v 0,.v 1,false),(.v 2,.v 3,false)]
def bxS (a b c d:SE):AV:=.agg [.sym (.ss a),.sym (.ss b),.sym (.ss c),.sym (.ss d)]
def bxA (a b c d:SE):AV:=.agg [.sym (.nc a 0),.sym (.nc a 1),.sym (.nc a 2),.sym (.nc a 3),.sym (.nc b 0),.sym (.nc b 1),.sym (.nc b 2),.sym (.nc b 3),.sym (.nc c 0),.sym (.nc c 1),.sym (.nc c 2),.sym (.nc c 3),.sym (.nc d 0),.sym (.nc d 1),.sym (.nc d 2),.sym (.nc d 3)]
def tB4:List PT:=sp2 (.v 2) (.v 3) (sp2 (.v 0) (.v 1) [mg 0 600])
theorem EJ {ρ:Nat→Rat} {σ:Nat→ByteArray} (h:TOK ρ σ (mg 0 600)) (hn:∀ c∈n4,uc ρ c):cC ρ σ tB4:=
 ((cC.one h).sp2 (hn (.v 0,.v 1,false) (by simp[n4]))).sp2 (hn (.v 2,.v 3,false) (by simp[n4]))
def rPB:Rule:=⟨[bxS (.v 0) (.v 1) (.v 2) (.v 3)],.tup [bxA (.v 0) (.v 1) (.v 2) (.v 3),.int .i64 0],600,n4⟩
def rCB:Rule:=⟨[bxS (.v 0) (.v 1) (.v 2) (.v 3)],.int .i64 0,600,n4⟩
theorem rpb:fG Tryz.prog 106 rPB:=gB iU (by kernel_rfl) rfl (L:=tB4) (fun ρ h hn=>EJ h hn) (fun ρ=>by kernel_rfl)
theorem rcb:fG Tryz.prog 32 rCB:=gB iU (by kernel_rfl) rfl (L:=tB4) (fun ρ h hn=>EJ h hn) (fun ρ=>by kernel_rfl)
end Go.Sx.Seat
