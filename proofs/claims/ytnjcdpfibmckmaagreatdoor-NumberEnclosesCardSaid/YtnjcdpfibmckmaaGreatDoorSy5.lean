import Derived.Test.YtnjcdpfibmckmaaGreatDoorSy4
import Derived.Test.YtnjcdpfibmckmaaGreatDoorAw
set_option linter.unusedSectionVars false
set_option linter.unusedVariables false
set_option linter.unusedSimpArgs false
namespace Go.Sx.Seat
open Go Go.Sx Go.Proofs Go.RowKit LimbNum DigNum
theorem I5 {x y:Rat} (h:x≤y) (g:y≤x):sg x y=0:=dN.2 (Rat.le_antisymm h g)
def nLt:Nd:=[(.v 1,.v 2,true)]
def nGt:Nd:=[(.v 3,.v 0,true)]
def nEq:Nd:=[(.v 1,.v 0,false),(.v 3,.v 2,false),(.v 0,.v 2,false),(.v 2,.v 0,false)]
def nOv:Nd:=[(.v 2,.v 1,false),(.v 0,.v 3,false)]
theorem rsLt:cg Tryz.prog 25 (rSI (-1) 0 nLt):=bQ l1 (by kernel_rfl) rfl (L:=sp1 (.v 1) (.v 2) (-1) tS2) (fun ρ h hn=>
 (jo h hn).sp1 (cL.2 (dD hn (by simp[rSI,nLt])))) (fun ρ=>by kernel_rfl)
theorem rsGt:cg Tryz.prog 25 (rSI 1 0 nGt):=bQ l1 (by kernel_rfl) rfl (L:=sp1 (.v 0) (.v 3) 1 (sp1 (.v 1) (.v 2) 1 tS2)) (fun ρ h hn=>by
 have h0:ρ 0≤ρ 1:=cw (a:=.v 0) (b:=.v 1) hn (by simp[rSI,n2])
 have h1:ρ 2≤ρ 3:=cw (a:=.v 2) (b:=.v 3) hn (by simp[rSI,n2])
 have h2:ρ 3<ρ 0:=dD (a:=.v 3) (b:=.v 0) hn (by simp[rSI,nGt])
 exact ((jo h hn).sp1 (a:=.v 1) (b:=.v 2) (lG (rh h1 (rn h2 h0)))).sp1 (a:=.v 0) (b:=.v 3) (lG h2)) (fun ρ=>by kernel_rfl)
theorem rsEq:cg Tryz.prog 25 (rSI 0 0 nEq):=bQ l1 (by kernel_rfl) rfl (L:=sp1 (.v 0) (.v 2) 0 (sp1 (.v 1) (.v 3) 0 (sp1 (.v 0) (.v 3) 0 (sp1 (.v 1) (.v 2) 0 (sp1 (.v 2) (.v 3) 0 (sp1 (.v 0) (.v 1) 0 [mN 0 100])))))) (fun ρ h hn=>by
 have a1:ρ 0≤ρ 1:=cw (a:=.v 0) (b:=.v 1) hn (by simp[rSI,n2])
 have a2:ρ 2≤ρ 3:=cw (a:=.v 2) (b:=.v 3) hn (by simp[rSI,n2])
 have a3:ρ 1≤ρ 0:=cw (a:=.v 1) (b:=.v 0) hn (by simp[rSI,nEq])
 have a4:ρ 3≤ρ 2:=cw (a:=.v 3) (b:=.v 2) hn (by simp[rSI,nEq])
 have a5:ρ 0≤ρ 2:=cw (a:=.v 0) (b:=.v 2) hn (by simp[rSI,nEq])
 have a6:ρ 2≤ρ 0:=cw (a:=.v 2) (b:=.v 0) hn (by simp[rSI,nEq])
 have e1:ρ 1=ρ 0:=Rat.le_antisymm a3 a1
 have e2:ρ 2=ρ 0:=Rat.le_antisymm a6 a5
 have e3:ρ 3=ρ 0:=(Rat.le_antisymm a4 a2).trans e2
 have k:∀ i j,ρ i=ρ 0→ρ j=ρ 0→sg ((SE.v i).val ρ) ((SE.v j).val ρ)=0:=fun i j hi hj=>dN.2 (hi.trans hj.symm)
 exact ((((((bY.one h).sp1 (k 0 1 rfl e1)).sp1 (k 2 3 e2 e3)).sp1 (k 1 2 e1 e2)).sp1 (k 0 3 rfl e3)).sp1 (k 1 3 e1 e3)).sp1 (k 0 2 rfl e2)) (fun ρ=>by kernel_rfl)
theorem EX:cg Tryz.prog 25 (rSI 0 24 ((.v 0,.v 1,true)::nOv)):=bQ l1 (by kernel_rfl) rfl (L:=sp3 (.v 0) (.v 2) (sp3 (.v 1) (.v 3) (sp2 (.v 0) (.v 3) (sp2 (.v 2) (.v 1) (sp1 (.v 0) (.v 1) (-1) (sp2 (.v 2) (.v 3) [mN 0 100])))))) (fun ρ h hn=>
 (((((((bY.one h).sp2 (cw hn (by simp[rSI,n2]))).sp1 (cL.2 (dD hn (by simp[rSI])))).sp2 (cw hn (by simp[rSI,nOv]))).sp2 (cw hn (by simp[rSI,nOv]))).sp3 (.v 1) (.v 3))).sp3 (.v 0) (.v 2)) (fun ρ=>by kernel_rfl)
def tOB (s s' t:Int):PT:=((((((mN 0 100).add (.v 0) (.v 1) 0).add (.v 2) (.v 3) (-1)).add (.v 2) (.v 1) s).add (.v 0) (.v 2) s').add (.v 0) (.v 3) t).add (.v 1) (.v 3) t
theorem EY:cg Tryz.prog 25 (rSI 0 24 ((.v 1,.v 0,false)::(.v 2,.v 3,true)::nOv)):=bQ l1 (by kernel_rfl) rfl (L:=[tOB (-1) 1 (-1),tOB (-1) 1 0,tOB 0 0 (-1)]) (fun ρ h hn=>by
 have a1:ρ 0≤ρ 1:=cw (a:=.v 0) (b:=.v 1) hn (by simp[rSI,n2])
 have a2:ρ 1≤ρ 0:=cw (a:=.v 1) (b:=.v 0) hn (by simp[rSI])
 have a3:ρ 2<ρ 3:=dD (a:=.v 2) (b:=.v 3) hn (by simp[rSI])
 have a4:ρ 2≤ρ 1:=cw (a:=.v 2) (b:=.v 1) hn (by simp[rSI,nOv])
 have a5:ρ 0≤ρ 3:=cw (a:=.v 0) (b:=.v 3) hn (by simp[rSI,nOv])
 have e:ρ 1=ρ 0:=Rat.le_antisymm a2 a1
 have key:∀ s t,sg (ρ 2) (ρ 1)=s→sg (ρ 0) (ρ 3)=t→TOK ρ _ (tOB s (-s) t):=fun s t hs ht=>
  (((((h.add (a:=.v 0) (b:=.v 1) (dN.2 e.symm)).add (a:=.v 2) (b:=.v 3) (cL.2 a3)).add (a:=.v 2) (b:=.v 1) hs).add (a:=.v 0) (b:=.v 2) (by rw[gB,show (SE.v 0).val ρ=ρ 1 from e.symm,show sg ((SE.v 2).val ρ) (ρ 1)=s from hs])).add (a:=.v 0) (b:=.v 3) ht).add (a:=.v 1) (b:=.v 3) (by show sg (ρ 1) (ρ 3)=t;rw[e];exact ht)
 have b1:=ic.1 a4
 have b2:=ic.1 a5
 rcases dI (ρ 2) (ρ 1) with hs|hs|hs
 ·rcases dI (ρ 0) (ρ 3) with ht|ht|ht
  ·exact⟨_,List.mem_cons_self,key _ _ hs ht⟩
  ·exact⟨_,List.mem_cons_of_mem _ List.mem_cons_self,key _ _ hs ht⟩
  ·omega
 ·rcases dI (ρ 0) (ρ 3) with ht|ht|ht
  ·exact⟨_,List.mem_cons_of_mem _ (List.mem_cons_of_mem _ List.mem_cons_self),key _ _ hs ht⟩
  ·have h1:=dN.1 hs
   have h2:=dN.1 ht
   rw[h1,e,h2] at a3
   exact absurd a3 (by rw[←Rat.not_le];exact fun hc=>hc Rat.le_refl)
  ·omega
 ·omega) (fun ρ=>by kernel_rfl)
def I6:List AV:=[spS (.v 0) (.v 1),.sym (.ss (.v 2))]
def rH (b:Bool) (l:Nd):Rule:=⟨I6,.bool b,20000,l⟩
theorem Iv:cg Tryz.prog 21 (rH true [(.v 0,.v 2,false),(.v 2,.v 1,false)]):=bQ jn (by kernel_rfl) rfl (L:=sp2 (.v 2) (.v 1) (sp2 (.v 0) (.v 2) [mN 0 20000])) (fun ρ h hn=>
 ((bY.one h).sp2 (cw hn (by simp[rH]))).sp2 (cw hn (by simp[rH]))) (fun ρ=>by kernel_rfl)
theorem Iu:cg Tryz.prog 21 (rH false [(.v 2,.v 0,true)]):=bQ jn (by kernel_rfl) rfl (L:=sp1 (.v 2) (.v 0) (-1) [mN 0 20000]) (fun ρ h hn=>
 (bY.one h).sp1 (cL.2 (dD hn (by simp[rH])))) (fun ρ=>by kernel_rfl)
theorem GL:cg Tryz.prog 21 (rH false [(.v 0,.v 2,false),(.v 1,.v 2,true)]):=bQ jn (by kernel_rfl) rfl (L:=sp1 (.v 1) (.v 2) (-1) (sp2 (.v 0) (.v 2) [mN 0 20000])) (fun ρ h hn=>
 ((bY.one h).sp2 (cw hn (by simp[rH]))).sp1 (cL.2 (dD hn (by simp[rH])))) (fun ρ=>by kernel_rfl)
theorem Is:cg Tryz.prog 20 ⟨[spS (.v 0) (.v 1)],.int .i64 0,600,[(.v 0,.v 1,false)]⟩:=bQ jn (by kernel_rfl) rfl (L:=sp2 (.v 0) (.v 1) [mN 0 600]) (fun ρ h hn=>
 (bY.one h).sp2 (cw hn (by simp))) (fun ρ=>by kernel_rfl)
end Go.Sx.Seat
namespace Go.Sx.Seat
open Go Go.Sx Go.Proofs Go.RowKit LimbNum DigNum
def xj:Prm:=fun _ a=>match a with
 | []=>some (.bool true)
 | _=>none
theorem Bq [Unk]:au Tryz.prog 6 xj:=by
 intro h args av hg m w vals hv hs
 unfold xj at hg
 split at hg
 ·cases hg
  exact Br m w _ vals hv hs
 ·cases hg
def L2 (T:PT):List (Nat × Prm):=(6,xj)::(gE 17 (rS .add []) (gE 18 (rS .sub []) (gE 19 (rS .mul []) (gE 27 (rS .quo nP) (gE 27 (rS .quo nN) (gE 27 (rSB 6 nZ)
 (gE 25 (rSI (-1) 0 nLt) (gE 25 (rSI 1 0 nGt) (gE 25 (rSI 0 0 nEq) (gE 25 (rSI 0 24 ((.v 0,.v 1,true)::nOv)) (gE 25 (rSI 0 24 ((.v 1,.v 0,false)::(.v 2,.v 3,true)::nOv))
 (gE 21 (rH true [(.v 0,.v 2,false),(.v 2,.v 1,false)]) (gE 21 (rH false [(.v 2,.v 0,true)]) (gE 21 (rH false [(.v 0,.v 2,false),(.v 1,.v 2,true)]) (gE 20 ⟨[spS (.v 0) (.v 1)],.int .i64 0,600,[(.v 0,.v 1,false)]⟩ sy))))))))))))))) T
theorem l2:vP L2:=fun U ρ σ T hT x hx=>by
 rcases List.mem_cons.1 hx with rfl|hx
 ·exact @Bq U
 ·exact (((((((((((((((jn.add Is).add GL).add Iu).add Iv).add EY).add EX).add rsEq).add rsGt).add rsLt).add GN).add Iw).add Ix).add EZ).add EW).add GM) U ρ σ T hT x hx
open Classical in
noncomputable def Ds (d:Nat) (s:ByteArray):Rat:=if h:Few s d then h.choose else 0
theorem FH {d:Nat} {s:ByteArray} (h:Few s d):aC s (Ds d s):=by
 unfold Ds;rw[dif_pos h];exact h.choose_spec.1
theorem FG {d:Nat} (s:ByteArray) (hd:1≤d):Bd (Ds d s) d:=by
 unfold Ds
 split
 ·rename_i h;exact h.choose_spec.2
 ·exact kP hd
noncomputable def fS (d n:Nat) (σ:Nat→ByteArray) (p:List Nat) (i:Nat):Rat:=if i<n then Ds d (σ i) else if i<1000 then 0 else (((p.getD (i-1000) 0:Nat):Int):Rat)
theorem EV {d n:Nat} (hd:3≤d) (σ:Nat→ByteArray) {p:List Nat} (hp:∀ x∈p,x≤255) (i:Nat):Bd (fS d n σ p i) d:=by
 unfold fS
 split
 ·exact FG _ (by omega)
 ·split
  ·exact kP (by omega)
  ·have h1:p.getD (i-1000) 0≤255:=by
    rw[List.getD_eq_getElem?_getD]
    cases h:p[i-1000]? with
    | none=>simp
    | some x=>exact hp x (List.mem_of_getElem? h)
   have h2:10^3≤10^d:=Nat.pow_le_pow_right (by decide) hd
   refine ⟨?_,?_⟩
   ·rw[Rat.num_intCast];show p.getD (i-1000) 0<10^d;omega
   ·rw[Rat.den_intCast];omega
abbrev qO:=List (SE × SE × Int) × List (SE × SE)
def fp (ρ:Nat→Rat) (c:qO):Prop:=(∀ x∈c.1,sg (x.1.val ρ) (x.2.1.val ρ)=x.2.2)∧∀ x∈c.2,x.1.val ρ≤x.2.val ρ
def tr (d:Nat) (yes:List Nat) (no:List Nat) (c:qO):PT:=⟨c.1,yes.map fun i=>(i,0),[],c.2,yes.map (fun i=>(i,d,true))++no.map fun i=>(i,d,false),d⟩
open Classical in
theorem tokL {d n:Nat} {σ:Nat→ByteArray} {p:List Nat} (hd:3≤d∧d≤600) (hs:∀ i,(σ i).size≤9223372036854775807) (hp:∀ x∈p,x≤255) {yes no:List Nat} (h1:∀ i∈yes,i<n∧Few (σ i) d) (h2:∀ i∈no,¬Few (σ i) d) {c:qO} (hc:fp (fS d n σ p) c) :
  TOK (fS d n σ p) σ (tr d yes no c) where
 cmp:=hc.1
 chk:=fun x hx=>by
  obtain⟨i,hi,rfl⟩:=List.mem_map.1 hx
  obtain⟨y,g1,g2⟩:=(h1 i hi).2
  show cN (chs (σ i))=0
  rw[show chs (σ i)=bW y from g1]
  exact j4 (g2.mono hd.2)
 says:=fun x hx _=>by
  obtain⟨i,hi,rfl⟩:=List.mem_map.1 hx
  show aC (σ i) (fS d n σ p i)
  unfold fS
  rw[if_pos (h1 i hi).1]
  exact FH (h1 i hi).2
 len:=hs
 clen:=fun x hx=>by
  obtain⟨i,hi,rfl⟩:=List.mem_map.1 hx
  obtain⟨y,g1,g2⟩:=(h1 i hi).2
  show (σ i).size≤1000000
  rw[g1.size]
  exact Nat.le_trans (fx (g2.mono hd.2)) (by decide)
 lrg:=fun x hx=>absurd hx List.not_mem_nil
 le:=hc.2
 few:=fun x hx=>by
  rcases List.mem_append.1 hx with hx|hx
  ·obtain⟨i,hi,rfl⟩:=List.mem_map.1 hx
   exact decide_eq_true (h1 i hi).2
  ·obtain⟨i,hi,rfl⟩:=List.mem_map.1 hx
   exact decide_eq_false (h2 i hi)
 bd:=EV hd.1 σ hp
def wA:SE:=.add (.v 0) (.mul (.quo (.v 1000) (.int 255)) (.sub (.v 1) (.v 0)))
def wB:SE:=.add (.v 2) (.mul (.quo (.v 1001) (.int 255)) (.sub (.v 3) (.v 2)))
def spT (i:Nat):AV:=.agg [.sym (.st i),.sym (.st (i+1))]
def oR:List AV:=[spT 0,spT 2,.agg [.sym (.si 0),.sym (.si 1)]]
def inC (op:SE→SE→SE):List (SE × SE):=[(cLo op (.v 0) (.v 1) (.v 2) (.v 3),op wA wB),(op wA wB,cHi op (.v 0) (.v 1) (.v 2) (.v 3)),(cLo op (.v 0) (.v 1) (.v 2) (.v 3),cHi op (.v 0) (.v 1) (.v 2) (.v 3))]
def Bs:List (SE × SE):=[(.v 0,.v 1),(.v 2,.v 3)]++(inC .add++(inC .sub++inC .mul))
def Bz:List qO:=[([(.v 1,.v 2,-1),(wA,wB,-1)],[]),([(.v 3,.v 0,-1),(wA,wB,1)],[]),([(wA,wB,0)],[(.v 1,.v 0),(.v 3,.v 2),(.v 0,.v 2),(.v 2,.v 0)]),([(.v 0,.v 1,-1)],[(.v 2,.v 1),(.v 0,.v 3)]),([(.v 2,.v 3,-1)],[(.v 1,.v 0),(.v 2,.v 1),(.v 0,.v 3)])]
def BB:List qO:=[([(.v 2,.int 0,1),(wB,.int 0,1)],inC .quo),([(.v 3,.int 0,-1),(wB,.int 0,-1)],(.v 2,.int 0)::inC .quo),([],[(.v 2,.int 0),(.int 0,.v 3)])]
def nC:List PT:=[tr 6 [] [0] ([],[]),tr 6 [0] [1] ([],[]),tr 6 [0,1] [] ([(.v 1,.v 0,-1)],[]),tr 6 [0,1] [2] ([],[(.v 0,.v 1)]),tr 6 [0,1,2] [3] ([],[(.v 0,.v 1)]),tr 6 [0,1,2,3] [] ([(.v 3,.v 2,-1)],[(.v 0,.v 1)])]
def FU:List PT:=Bz.flatMap fun c=>BB.map fun z=>tr 6 [0,1,2,3] [] (c.1++z.1,Bs++(c.2++z.2))
theorem runE (ρ:Nat→Rat) (σ:Nat→ByteArray):(nC.all fun T=>@Ai (lv ρ σ T) _ T (ES L2 T) 1000 60 4 oR (.bool true))=true:=by kernel_rfl
theorem runM (ρ:Nat→Rat) (σ:Nat→ByteArray):(FU.all fun T=>@Ai (lv ρ σ T) _ T (ES L2 T) 1000 60 4 oR (.bool true))=true:=by kernel_rfl
end Go.Sx.Seat
namespace Go.Sx.Seat
open Go Go.Sx Go.Proofs Go.RowKit LimbNum DigNum
section
variable {ρ : Nat → Rat}
theorem pb {op:SE→SE→SE} (h:(cLo op (.v 0) (.v 1) (.v 2) (.v 3)).val ρ≤(op wA wB).val ρ∧(op wA wB).val ρ≤(cHi op (.v 0) (.v 1) (.v 2) (.v 3)).val ρ):∀ x∈inC op,x.1.val ρ≤x.2.val ρ:=by
 intro x hx
 simp only[inC,List.mem_cons,List.not_mem_nil,or_false] at hx
 rcases hx with rfl|rfl|rfl
 ·exact h.1
 ·exact h.2
 ·exact Rat.le_trans h.1 h.2
variable {n0 n1 : Nat} (hn0 : n0 ≤ 255) (hn1 : n1 ≤ 255) (e0 : ρ 1000 = ((n0 : Int) : Rat)) (e1 : ρ 1001 = ((n1 : Int) : Rat)) (ha : ρ 0 ≤ ρ 1) (hb : ρ 2 ≤ ρ 3)
include hn0 e0 ha in
theorem rT:ρ 0≤wA.val ρ∧wA.val ρ≤ρ 1:=by
 have:=yF hn0 ha
 rw[←e0] at this
 exact this
include hn1 e1 hb in
theorem qp:ρ 2≤wB.val ρ∧wB.val ρ≤ρ 3:=by
 have:=yF hn1 hb
 rw[←e1] at this
 exact this
include hn0 hn1 e0 e1 ha hb
theorem Gf:∀ x∈inC .add,x.1.val ρ≤x.2.val ρ:=pb (by
 have h1:=rT hn0 e0 ha
 have h2:=qp hn1 e1 hb
 have l:=ph ρ (.add (.v 0) (.v 2)) (.add (.v 0) (.v 3)) (.add (.v 1) (.v 2)) (.add (.v 1) (.v 3))
 have m:=pf ρ (.add (.v 0) (.v 2)) (.add (.v 0) (.v 3)) (.add (.v 1) (.v 2)) (.add (.v 1) (.v 3))
 have l1:(cLo .add (.v 0) (.v 1) (.v 2) (.v 3)).val ρ≤ρ 0+ρ 2:=l.1
 have m1:ρ 1+ρ 3≤(cHi .add (.v 0) (.v 1) (.v 2) (.v 3)).val ρ:=m.2.2.2
 show _≤wA.val ρ+wB.val ρ∧wA.val ρ+wB.val ρ≤_
 generalize (cLo .add (.v 0) (.v 1) (.v 2) (.v 3)).val ρ=lo at *
 generalize (cHi .add (.v 0) (.v 1) (.v 2) (.v 3)).val ρ=hi at *
 generalize wA.val ρ=x at *
 generalize wB.val ρ=y at *
 clear l m
 exact⟨by grind,by grind⟩)
theorem Gj:∀ x∈inC .sub,x.1.val ρ≤x.2.val ρ:=pb (by
 have h1:=rT hn0 e0 ha
 have h2:=qp hn1 e1 hb
 have l:=ph ρ (.sub (.v 0) (.v 2)) (.sub (.v 0) (.v 3)) (.sub (.v 1) (.v 2)) (.sub (.v 1) (.v 3))
 have m:=pf ρ (.sub (.v 0) (.v 2)) (.sub (.v 0) (.v 3)) (.sub (.v 1) (.v 2)) (.sub (.v 1) (.v 3))
 have l1:(cLo .sub (.v 0) (.v 1) (.v 2) (.v 3)).val ρ≤ρ 0-ρ 3:=l.2.1
 have m1:ρ 1-ρ 2≤(cHi .sub (.v 0) (.v 1) (.v 2) (.v 3)).val ρ:=m.2.2.1
 show _≤wA.val ρ-wB.val ρ∧wA.val ρ-wB.val ρ≤_
 generalize (cLo .sub (.v 0) (.v 1) (.v 2) (.v 3)).val ρ=lo at *
 generalize (cHi .sub (.v 0) (.v 1) (.v 2) (.v 3)).val ρ=hi at *
 generalize wA.val ρ=x at *
 generalize wB.val ρ=y at *
 clear l m
 exact⟨by grind,by grind⟩)
theorem Gg:∀ x∈inC .mul,x.1.val ρ≤x.2.val ρ:=pb (by
 have h1:=rT hn0 e0 ha
 have h2:=qp hn1 e1 hb
 have l:=ph ρ (.mul (.v 0) (.v 2)) (.mul (.v 0) (.v 3)) (.mul (.v 1) (.v 2)) (.mul (.v 1) (.v 3))
 have m:=pf ρ (.mul (.v 0) (.v 2)) (.mul (.v 0) (.v 3)) (.mul (.v 1) (.v 2)) (.mul (.v 1) (.v 3))
 exact C1 h1.1 h1.2 h2.1 h2.2 l.1 l.2.1 l.2.2.1 l.2.2.2 m.1 m.2.1 m.2.2.1 m.2.2.2)
theorem Gi (h0:0<ρ 2):∀ x∈inC .quo,x.1.val ρ≤x.2.val ρ:=pb (by
 have h1:=rT hn0 e0 ha
 have h2:=qp hn1 e1 hb
 have l:=ph ρ (.quo (.v 0) (.v 2)) (.quo (.v 0) (.v 3)) (.quo (.v 1) (.v 2)) (.quo (.v 1) (.v 3))
 have m:=pf ρ (.quo (.v 0) (.v 2)) (.quo (.v 0) (.v 3)) (.quo (.v 1) (.v 2)) (.quo (.v 1) (.v 3))
 exact ld h1.1 h1.2 h2.1 h2.2 h0 l.1 l.2.1 m.2.2.1 m.2.2.2)
theorem Gh (h0:ρ 3<0):∀ x∈inC .quo,x.1.val ρ≤x.2.val ρ:=pb (by
 have h1:=rT hn0 e0 ha
 have h2:=qp hn1 e1 hb
 have l:=ph ρ (.quo (.v 0) (.v 2)) (.quo (.v 0) (.v 3)) (.quo (.v 1) (.v 2)) (.quo (.v 1) (.v 3))
 have m:=pf ρ (.quo (.v 0) (.v 2)) (.quo (.v 0) (.v 3)) (.quo (.v 1) (.v 2)) (.quo (.v 1) (.v 3))
 exact sD h1.1 h1.2 h2.1 h2.2 h0 l.2.2.1 l.2.2.2 m.1 m.2.1)
theorem DH:∀ x∈Bs,x.1.val ρ≤x.2.val ρ:=by
 intro x hx
 rcases List.mem_append.1 hx with hx|hx
 ·simp only[List.mem_cons,List.not_mem_nil,or_false] at hx
  rcases hx with rfl|rfl
  ·exact ha
  ·exact hb
 ·rcases List.mem_append.1 hx with hx|hx
  ·exact Gf hn0 hn1 e0 e1 ha hb x hx
  ·rcases List.mem_append.1 hx with hx|hx
   ·exact Gj hn0 hn1 e0 e1 ha hb x hx
   ·exact Gg hn0 hn1 e0 e1 ha hb x hx
theorem BA:∃ c∈Bz,fp ρ c:=by
 have h1:=rT hn0 e0 ha
 have h2:=qp hn1 e1 hb
 unfold Bz fp
 by_cases c1:ρ 1<ρ 2
 ·refine ⟨_,List.mem_cons_self,?_⟩
  simp only[List.forall_mem_cons]
  exact⟨⟨cL.2 c1,cL.2 (rh h1.2 (rn c1 h2.1)),fun x h=>by cases h⟩,fun x h=>by cases h⟩
 ·by_cases c2:ρ 3<ρ 0
  ·refine ⟨_,List.mem_cons_of_mem _ List.mem_cons_self,?_⟩
   simp only[List.forall_mem_cons]
   exact⟨⟨cL.2 c2,lG (rh h2.2 (rn c2 h1.1)),fun x h=>by cases h⟩,fun x h=>by cases h⟩
  ·have d1:ρ 2≤ρ 1:=Rat.not_lt.1 c1
   have d2:ρ 0≤ρ 3:=Rat.not_lt.1 c2
   by_cases c3:ρ 0<ρ 1
   ·refine ⟨_,List.mem_cons_of_mem _ (List.mem_cons_of_mem _ (List.mem_cons_of_mem _ List.mem_cons_self)),?_⟩
    simp only[List.forall_mem_cons]
    exact⟨⟨cL.2 c3,fun x h=>by cases h⟩,d1,d2,fun x h=>by cases h⟩
   ·have d3:ρ 1≤ρ 0:=Rat.not_lt.1 c3
    by_cases c4:ρ 2<ρ 3
    ·refine ⟨_,List.mem_cons_of_mem _ (List.mem_cons_of_mem _ (List.mem_cons_of_mem _ (List.mem_cons_of_mem _ List.mem_cons_self))),?_⟩
     simp only[List.forall_mem_cons]
     exact⟨⟨cL.2 c4,fun x h=>by cases h⟩,d3,d1,d2,fun x h=>by cases h⟩
    ·have d4:ρ 3≤ρ 2:=Rat.not_lt.1 c4
     have d5:ρ 0≤ρ 2:=Rat.le_trans d2 d4
     have d6:ρ 2≤ρ 0:=Rat.le_trans d1 d3
     refine ⟨_,List.mem_cons_of_mem _ (List.mem_cons_of_mem _ List.mem_cons_self),?_⟩
     simp only[List.forall_mem_cons]
     exact⟨⟨I5 (Rat.le_trans h1.2 (Rat.le_trans d3 (Rat.le_trans d5 h2.1))) (Rat.le_trans h2.2 (Rat.le_trans d4 (Rat.le_trans d6 h1.1))),fun x h=>by cases h⟩,d3,d4,d5,d6,fun x h=>by cases h⟩
theorem BC:∃ c∈BB,fp ρ c:=by
 have h2:=qp hn1 e1 hb
 unfold BB fp
 by_cases c1:0<ρ 2
 ·refine ⟨_,List.mem_cons_self,?_⟩
  simp only[List.forall_mem_cons]
  exact⟨⟨lG c1,lG (rn c1 h2.1),fun x h=>by cases h⟩,Gi hn0 hn1 e0 e1 ha hb c1⟩
 ·have d1:ρ 2≤0:=Rat.not_lt.1 c1
  by_cases c2:ρ 3<0
  ·refine ⟨_,List.mem_cons_of_mem _ List.mem_cons_self,?_⟩
   simp only[List.forall_mem_cons]
   exact⟨⟨cL.2 c2,cL.2 (rh h2.2 c2),fun x h=>by cases h⟩,d1,Gh hn0 hn1 e0 e1 ha hb c2⟩
  ·have d2:0≤ρ 3:=Rat.not_lt.1 c2
   refine ⟨_,List.mem_cons_of_mem _ (List.mem_cons_of_mem _ List.mem_cons_self),?_⟩
   simp only[List.forall_mem_cons]
   exact⟨(fun x h=>by cases h),d1,d2,fun x h=>by cases h⟩
end
theorem uQ (ρ:Nat→Rat):fp ρ ([],[]):=⟨fun x h=>(by cases h),fun x h=>by cases h⟩
theorem one_le {ρ:Nat→Rat} {a b:SE} (h:a.val ρ≤b.val ρ):fp ρ ([],[(a,b)]):=⟨fun x h=>(by cases h),fun x hx=>by
 rcases List.mem_cons.1 hx with rfl|hx
 ·exact h
 ·cases hx⟩
theorem yA {ρ:Nat→Rat} {a b:SE} {s:Int} {l:List (SE × SE)} (h:sg (a.val ρ) (b.val ρ)=s) (hl:∀ x∈l,x.1.val ρ≤x.2.val ρ):fp ρ ([(a,b,s)],l):=by
 refine ⟨fun x hx=>?_,hl⟩
 rcases List.mem_cons.1 hx with rfl|hx
 ·exact h
 ·cases hx
theorem nO {σ:Nat→ByteArray} (hs:∀ i,(σ i).size≤9223372036854775807) {p q:Nat} (hp:p≤255) (hq:q≤255):Yields Tryz.prog (fS 6 4 σ [p,q]) σ 4 oR (.bool true):=by
 have hpq:∀ x∈[p,q],x≤255:=fun x hx=>by
  simp only[List.mem_cons,List.not_mem_nil,or_false] at hx
  omega
 have hrun:=runE (fS 6 4 σ [p,q]) σ
 have hrunM:=runM (fS 6 4 σ [p,q]) σ
 have K:∀ T,TOK (fS 6 4 σ [p,q]) σ T→(T∈nC∨T∈FU)→Yields Tryz.prog (fS 6 4 σ [p,q]) σ 4 oR (.bool true):=by
  intro T hT hm
  refine leaf (E:=ES L2) (bY.one hT) mixed (fun _=>dJ) (fun _=>dC) (fun U T hT=>@vK U _ _ _ _ (@bN U) (l2 U _ _ T hT)) (fun fn h=>qR (by kernel_rfl) h) (fuel:=1000) (d:=60) ?_
  rw[List.all_cons,List.all_nil,Bool.and_true]
  rcases hm with hm|hm
  ·exact List.all_eq_true.1 hrun T hm
  ·exact List.all_eq_true.1 hrunM T hm
 have tk:∀ (yes no:List Nat) (c:qO),(∀ i∈yes,i<4∧Few (σ i) 6)→(∀ i∈no,¬Few (σ i) 6)→fp (fS 6 4 σ [p,q]) c→TOK (fS 6 4 σ [p,q]) σ (tr 6 yes no c):=fun yes no c h1 h2 h3=>tokL (by decide) hs hpq h1 h2 h3
 clear hrun hrunM
 have n0:∀ i∈([]:List Nat),¬Few (σ i) 6:=fun i h=>by cases h
 have y1:∀ {i},¬Few (σ i) 6→∀ j∈[i],¬Few (σ j) 6:=fun h j hj=>by rcases List.mem_cons.1 hj with rfl|hj;exact h;cases hj
 by_cases f0:Few (σ 0) 6
 ·by_cases f1:Few (σ 1) 6
  ·have y2:∀ i∈[0,1],i<4∧Few (σ i) 6:=by simp only[List.forall_mem_cons];exact⟨⟨by decide,f0⟩,⟨by decide,f1⟩,fun i h=>by cases h⟩
   by_cases ha:fS 6 4 σ [p,q] 0≤fS 6 4 σ [p,q] 1
   ·by_cases f2:Few (σ 2) 6
    ·by_cases f3:Few (σ 3) 6
     ·have y4:∀ i∈[0,1,2,3],i<4∧Few (σ i) 6:=by simp only[List.forall_mem_cons];exact⟨⟨by decide,f0⟩,⟨by decide,f1⟩,⟨by decide,f2⟩,⟨by decide,f3⟩,fun i h=>by cases h⟩
      by_cases hb:fS 6 4 σ [p,q] 2≤fS 6 4 σ [p,q] 3
      ·obtain⟨c,c1,c2⟩:=BA (ρ:=fS 6 4 σ [p,q]) hp hq rfl rfl ha hb
       obtain⟨z,z1,z2⟩:=BC (ρ:=fS 6 4 σ [p,q]) hp hq rfl rfl ha hb
       refine K _ (tk [0,1,2,3] [] (c.1++z.1,Bs++(c.2++z.2)) y4 n0 ⟨fun x hx=>?_,fun x hx=>?_⟩) (.inr (List.mem_flatMap.2 ⟨c,c1,List.mem_map.2 ⟨z,z1,rfl⟩⟩))
       ·exact (List.mem_append.1 hx).elim (c2.1 x) (z2.1 x)
       ·exact (List.mem_append.1 hx).elim (DH (ρ:=fS 6 4 σ [p,q]) hp hq rfl rfl ha hb x) fun hx=>(List.mem_append.1 hx).elim (c2.2 x) (z2.2 x)
      ·exact K _ (tk [0,1,2,3] [] _ y4 n0 (yA (a:=.v 3) (b:=.v 2) (l:=[(.v 0,.v 1)]) (cL.2 (Rat.not_le.1 hb)) (one_le (ρ:=fS 6 4 σ [p,q]) (a:=.v 0) (b:=.v 1) ha).2)) (.inl (by simp[nC]))
     ·exact K _ (tk [0,1,2] [3] _ (by simp only[List.forall_mem_cons];exact⟨⟨by decide,f0⟩,⟨by decide,f1⟩,⟨by decide,f2⟩,fun i h=>by cases h⟩) (y1 f3) (one_le (ρ:=fS 6 4 σ [p,q]) (a:=.v 0) (b:=.v 1) ha)) (.inl (by simp[nC]))
    ·exact K _ (tk [0,1] [2] _ y2 (y1 f2) (one_le (ρ:=fS 6 4 σ [p,q]) (a:=.v 0) (b:=.v 1) ha)) (.inl (by simp[nC]))
   ·exact K _ (tk [0,1] [] _ y2 n0 (yA (a:=.v 1) (b:=.v 0) (l:=[]) (cL.2 (Rat.not_le.1 ha)) (fun x h=>by cases h))) (.inl (by simp[nC]))
  ·exact K _ (tk [0] [1] _ (by simp only[List.forall_mem_cons];exact⟨⟨by decide,f0⟩,fun i h=>by cases h⟩) (y1 f1) (uQ _)) (.inl (by simp[nC]))
 ·exact K _ (tk [] [0] _ (fun i h=>by cases h) (y1 f0) (uQ _)) (.inl (by simp[nC]))
theorem sv (s0 s1 s2 s3:ByteArray) (h0:s0.size≤9223372036854775807) (h1:s1.size≤9223372036854775807) (h2:s2.size≤9223372036854775807) (h3:s3.size≤9223372036854775807) (p q:Nat) (hp:p≤255) (hq:q≤255) (w:World) (ht:Bc w) :
  Calls Tryz.prog 4 #[.agg #[.string s0,.string s1],.agg #[.string s2,.string s3],.agg #[.int .u8 (p:Nat),.int .u8 (q:Nat)]] w fun e w'=>e=.returned (.bool true)∧Below w.heap.size w w':=by
 have hs:∀ i,(sig [s0,s1,s2,s3] i).size≤9223372036854775807:=by
  intro i
  rcases i with _|_|_|_|i
  ·exact h0
  ·exact h1
  ·exact h2
  ·exact h3
  ·show (([s0,s1,s2,s3].getD (i+4) ⟨#[]⟩).size)≤_
   exact Nat.zero_le _
 obtain⟨U,T,hT,H⟩:=nO hs hp hq
 have hst:∀ i,@RV U (fun _=>none) w (.sym (.st i)) (.string (sig [s0,s1,s2,s3] i)):=fun i=>by
  rw[@RV.eq_def U];simp only;rw[@Sem.is U _ _ _ hT];rfl
 have hsp:∀ i,@RV U (fun _=>none) w (spT i) (.agg #[.string (sig [s0,s1,s2,s3] i),.string (sig [s0,s1,s2,s3] (i+1))]):=fun i=>by
  unfold spT
  rw[@RV.eq_def U]
  refine ⟨[_,_],rfl,?_⟩
  rw[@RVs.eq_def U];refine ⟨_,_,rfl,hst i,?_⟩
  rw[@RVs.eq_def U];exact⟨_,_,rfl,hst (i+1),by rw[@RVs.eq_def U]⟩
 have hpt:@RV U (fun _=>none) w (.agg [.sym (.si 0),.sym (.si 1)]) (.agg #[.int .u8 (p:Nat),.int .u8 (q:Nat)]):=by
  rw[@RV.eq_def U]
  refine ⟨[_,_],rfl,?_⟩
  rw[@RVs.eq_def U];refine ⟨_,_,rfl,?_,?_⟩
  ·rw[@RV.eq_def U];simp only;rw[@Sem.is U _ _ _ hT];exact⟨p,hp,rfl,rfl⟩
  rw[@RVs.eq_def U];refine ⟨_,_,rfl,?_,by rw[@RVs.eq_def U]⟩
  rw[@RV.eq_def U];simp only;rw[@Sem.is U _ _ _ hT];exact⟨q,hq,rfl,rfl⟩
 refine (H w [_,_,_] ht (by
  unfold oR
  rw[@RVs.eq_def U];refine ⟨_,_,rfl,hsp 0,?_⟩
  rw[@RVs.eq_def U];refine ⟨_,_,rfl,hsp 2,?_⟩
  rw[@RVs.eq_def U];exact⟨_,_,rfl,hpt,by rw[@RVs.eq_def U]⟩)).mono ?_
 rintro e w' ⟨v,rfl,g1,g2⟩
 rw[@RV.eq_def U] at g1
 simp only at g1
 subst g1
 exact⟨rfl,g2⟩
end Go.Sx.Seat
