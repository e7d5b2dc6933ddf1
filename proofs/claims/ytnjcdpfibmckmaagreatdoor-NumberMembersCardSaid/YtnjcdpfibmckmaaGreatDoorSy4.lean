import Derived.Test.YtnjcdpfibmckmaaGreatDoorSy3
set_option linter.unusedSectionVars false
set_option linter.unusedVariables false
set_option linter.unusedSimpArgs false
namespace Go.Sx.Seat
open Go Go.Sx Go.Proofs Go.RowKit LimbNum DigNum
def ivA (a b:SE):AV:=.agg [.sym (.nc a 0),.sym (.nc a 1),.sym (.nc a 2),.sym (.nc a 3),.sym (.nc b 0),.sym (.nc b 1),.sym (.nc b 2),.sym (.nc b 3)]
def I0 (f:FuncId):List AV:=[ivA (.v 0) (.v 1),ivA (.v 2) (.v 3),.fn f []]
def cLo (op:SE→SE→SE) (a b c d:SE):SE:=lo4 (op a c) (op a d) (op b c) (op b d)
def cHi (op:SE→SE→SE) (a b c d:SE):SE:=hi4 (op a c) (op a d) (op b c) (op b d)
def Bx (op:SE→SE→SE) (L:List PT):List PT:=L.flatMap fun T=>xT (op (.v 0) (.v 2)) (op (.v 0) (.v 3)) (op (.v 1) (.v 2)) (op (.v 1) (.v 3)) T
theorem j1 {ρ:Nat→Rat} {σ:Nat→ByteArray} {L:List PT} (h:bY ρ σ L) (op:SE→SE→SE):bY ρ σ (Bx op L):=by
 obtain⟨T,hm,hT⟩:=h
 obtain⟨T',h1,h2⟩:=bY.xT hT (op (.v 0) (.v 2)) (op (.v 0) (.v 3)) (op (.v 1) (.v 2)) (op (.v 1) (.v 3))
 exact⟨T',List.mem_flatMap.2 ⟨T,hm,h1⟩,h2⟩
def rC (f:FuncId) (op:SE→SE→SE) (n:List (SE × SE × Bool)):Rule:=⟨I0 f,ivA (cLo op (.v 0) (.v 1) (.v 2) (.v 3)) (cHi op (.v 0) (.v 1) (.v 2) (.v 3)),20000,n⟩
def EG:List (SE × SE × Bool):=[(.int 0,.v 2,true),(.v 2,.v 3,false)]
def EF:List (SE × SE × Bool):=[(.v 3,.int 0,true),(.v 2,.v 3,false)]
def tPos:List PT:=sp1 (.v 3) (.int 0) 1 (sp1 (.v 2) (.int 0) 1 [mN 0 20000])
def tNeg:List PT:=sp1 (.v 3) (.int 0) (-1) (sp1 (.v 2) (.int 0) (-1) [mN 0 20000])
theorem rn {a b c:Rat} (h:a<b) (g:b≤c):a<c:=Rat.not_le.1 fun hc=>Rat.not_le.2 h (Rat.le_trans g hc)
theorem rh {a b c:Rat} (h:a≤b) (g:b<c):a<c:=Rat.not_le.1 fun hc=>Rat.not_le.2 g (Rat.le_trans hc h)
theorem lG {x y:Rat} (h:y<x):sg x y=1:=by rw[gB,cL.2 h];rfl
theorem Im:cg Tryz.prog 144 (rC 145 .add []):=bQ jn (by kernel_rfl) rfl (fun ρ h _=>j1 (bY.one h) .add) (fun ρ=>by kernel_rfl)
theorem Ir:cg Tryz.prog 144 (rC 109 .sub []):=bQ jn (by kernel_rfl) rfl (fun ρ h _=>j1 (bY.one h) .sub) (fun ρ=>by kernel_rfl)
theorem Io:cg Tryz.prog 144 (rC 102 .mul []):=bQ jn (by kernel_rfl) rfl (fun ρ h _=>j1 (bY.one h) .mul) (fun ρ=>by kernel_rfl)
theorem Iq:cg Tryz.prog 144 (rC 151 .quo EG):=bQ jn (by kernel_rfl) rfl (fun ρ h hn=>j1 (by
 have h1:(0:Rat)<ρ 2:=hn (.int 0,.v 2,true) (by simp[rC,EG])
 have h2:ρ 2≤ρ 3:=hn (.v 2,.v 3,false) (by simp[rC,EG])
 exact ((bY.one h).sp1 (a:=.v 2) (b:=.int 0) (lG h1)).sp1 (a:=.v 3) (b:=.int 0) (lG (rn h1 h2))) .quo) (L:=Bx .quo tPos) (fun ρ=>by kernel_rfl)
theorem Ip:cg Tryz.prog 144 (rC 151 .quo EF):=bQ jn (by kernel_rfl) rfl (fun ρ h hn=>j1 (by
 have h1:ρ 3<(0:Rat):=hn (.v 3,.int 0,true) (by simp[rC,EF])
 have h2:ρ 2≤ρ 3:=hn (.v 2,.v 3,false) (by simp[rC,EF])
 exact ((bY.one h).sp1 (a:=.v 2) (b:=.int 0) (cL.2 (rh h2 h1))).sp1 (a:=.v 3) (b:=.int 0) (cL.2 h1)) .quo) (L:=Bx .quo tNeg) (fun ρ=>by kernel_rfl)
end Go.Sx.Seat
namespace Go.Sx.Seat
open Go Go.Sx Go.Proofs Go.RowKit LimbNum DigNum
def L1:PT→List (Nat × Prm):=gE 144 (rC 151 .quo EF) (gE 144 (rC 151 .quo EG) (gE 144 (rC 102 .mul []) (gE 144 (rC 109 .sub []) (gE 144 (rC 145 .add []) sy))))
theorem l1:vP L1:=((((jn.add Im).add Ir).add Io).add Iq).add Ip
def spS (a b:SE):AV:=.agg [.sym (.ss a),.sym (.ss b)]
def H9:List AV:=[spS (.v 0) (.v 1),spS (.v 2) (.v 3)]
abbrev Nd:=List (SE × SE × Bool)
def n2:Nd:=[(.v 0,.v 1,false),(.v 2,.v 3,false)]
def tS2:List PT:=sp2 (.v 2) (.v 3) (sp2 (.v 0) (.v 1) [mN 0 100])
section
variable {ρ : Nat → Rat} {σ : Nat → ByteArray}
theorem jo (h:TOK ρ σ (mN 0 100)) {l:Nd} (hn:∀ c∈n2++l,tE ρ c):bY ρ σ tS2:=
 ((bY.one h).sp2 (hn (.v 0,.v 1,false) (by simp[n2]))).sp2 (hn (.v 2,.v 3,false) (by simp[n2]))
theorem dD {l:Nd} {a b:SE} (hn:∀ c∈l,tE ρ c) (h:(a,b,true)∈l):a.val ρ<b.val ρ:=hn _ h
theorem cw {l:Nd} {a b:SE} (hn:∀ c∈l,tE ρ c) (h:(a,b,false)∈l):a.val ρ≤b.val ρ:=hn _ h
end
def okS (lo hi:SE):AV:=.tup [spS lo hi,.int .i64 0]
def badS (e:Int):AV:=.tup [.agg [.str [],.str []],.int .i64 e]
def rS (op:SE→SE→SE) (l:Nd):Rule:=⟨H9,okS (cLo op (.v 0) (.v 1) (.v 2) (.v 3)) (cHi op (.v 0) (.v 1) (.v 2) (.v 3)),100,n2++l⟩
def rSB (e:Int) (l:Nd):Rule:=⟨H9,badS e,100,n2++l⟩
def rSI (n e:Int) (l:Nd):Rule:=⟨H9,.tup [.int .i64 n,.int .i64 e],100,n2++l⟩
theorem GM:cg Tryz.prog 17 (rS .add []):=bQ l1 (by kernel_rfl) rfl (fun ρ h hn=>jo h hn) (fun ρ=>by kernel_rfl)
theorem EW:cg Tryz.prog 18 (rS .sub []):=bQ l1 (by kernel_rfl) rfl (fun ρ h hn=>jo h hn) (fun ρ=>by kernel_rfl)
theorem EZ:cg Tryz.prog 19 (rS .mul []):=bQ l1 (by kernel_rfl) rfl (fun ρ h hn=>jo h hn) (fun ρ=>by kernel_rfl)
def nP:Nd:=[(.int 0,.v 2,true)]
def nN:Nd:=[(.v 3,.int 0,true)]
def nZ:Nd:=[(.v 2,.int 0,false),(.int 0,.v 3,false)]
theorem Ix:cg Tryz.prog 27 (rS .quo nP):=bQ l1 (by kernel_rfl) rfl (L:=sp1 (.v 3) (.int 0) 1 (sp1 (.v 2) (.int 0) 1 tS2)) (fun ρ h hn=>by
 have h1:(0:Rat)<ρ 2:=dD (a:=.int 0) (b:=.v 2) hn (by simp[rS,nP])
 have h2:ρ 2≤ρ 3:=cw (a:=.v 2) (b:=.v 3) hn (by simp[rS,n2])
 exact ((jo h hn).sp1 (a:=.v 2) (b:=.int 0) (lG h1)).sp1 (a:=.v 3) (b:=.int 0) (lG (rn h1 h2))) (fun ρ=>by kernel_rfl)
theorem Iw:cg Tryz.prog 27 (rS .quo nN):=bQ l1 (by kernel_rfl) rfl (L:=sp1 (.v 3) (.int 0) (-1) (sp1 (.v 2) (.int 0) (-1) tS2)) (fun ρ h hn=>by
 have h1:ρ 3<(0:Rat):=dD (a:=.v 3) (b:=.int 0) hn (by simp[rS,nN])
 have h2:ρ 2≤ρ 3:=cw (a:=.v 2) (b:=.v 3) hn (by simp[rS,n2])
 exact ((jo h hn).sp1 (a:=.v 2) (b:=.int 0) (cL.2 (rh h2 h1))).sp1 (a:=.v 3) (b:=.int 0) (cL.2 h1)) (fun ρ=>by kernel_rfl)
theorem GN:cg Tryz.prog 27 (rSB 6 nZ):=bQ l1 (by kernel_rfl) rfl (L:=sp2 (.int 0) (.v 3) (sp2 (.v 2) (.int 0) tS2)) (fun ρ h hn=>
 ((jo h hn).sp2 (cw hn (by simp[rSB,nZ]))).sp2 (cw hn (by simp[rSB,nZ]))) (fun ρ=>by kernel_rfl)
end Go.Sx.Seat
namespace Go.Sx.Seat
open Go Go.Sx Go.Proofs Go.RowKit LimbNum DigNum
def nLt:Nd:=[(.v 1,.v 2,true)]
def nGt:Nd:=[(.v 3,.v 0,true)]
def nEq:Nd:=[(.v 1,.v 0,false),(.v 3,.v 2,false),(.v 0,.v 2,false),(.v 2,.v 0,false)]
def nOv:Nd:=[(.v 2,.v 1,false),(.v 0,.v 3,false)]
theorem rsLt:cg Tryz.prog 25 (rSI (-1) 0 nLt):=bQ l1 (by kernel_rfl) rfl (L:=sp1 (.v 1) (.v 2) (-1) tS2) (fun ρ h hn=>
 (jo h hn).sp1 (cL.2 (dD hn (by simp[rSI,nLt])))) (fun ρ=>by kernel_rfl)
theorem rsGt:cg Tryz.prog 25 (rSI 1 0 nGt):=bQ l1 (by kernel_rfl) rfl (L:=sp1 (.v 0) (.v 3) 1 (sp1 (.v 1) (.v 2) 1 tS2)) (fun ρ h hn=>by
 have h0:ρ 0≤ρ 1:=cw (a:=.v 0) (b:=.v 1) hn (by simp[rSI,n2])
 have h1:ρ 2≤ρ 3:=cw (a:=.v 2) (b:=.v 3) hn (by simp[rSI,n2])
 have h2:ρ 3<ρ 0:=dD (a:=.v 3) (b:=.v 0) hn (by simp[rSI,nGt])
 exact ((jo h hn).sp1 (a:=.v 1) (b:=.v 2) (lG (rh h1 (rn h2 h0)))).sp1 (a:=.v 0) (b:=.v 3) (lG h2)) (fun ρ=>by kernel_rfl)
theorem rsEq:cg Tryz.prog 25 (rSI 0 0 nEq):=bQ l1 (by kernel_rfl) rfl (L:=sp1 (.v 0) (.v 2) 0 (sp1 (.v 1) (.v 3) 0 (sp1 (.v 0) (.v 3) 0 (sp1 (.v 1) (.v 2) 0 (sp1 (.v 2) (.v 3) 0 (sp1 (.v 0) (.v 1) 0 [mN 0 100])))))) (fun ρ h hn=>by
 have a1:ρ 0≤ρ 1:=cw (a:=.v 0) (b:=.v 1) hn (by simp[rSI,n2])
 have a2:ρ 2≤ρ 3:=cw (a:=.v 2) (b:=.v 3) hn (by simp[rSI,n2])
 have a3:ρ 1≤ρ 0:=cw (a:=.v 1) (b:=.v 0) hn (by simp[rSI,nEq])
 have a4:ρ 3≤ρ 2:=cw (a:=.v 3) (b:=.v 2) hn (by simp[rSI,nEq])
 have a5:ρ 0≤ρ 2:=cw (a:=.v 0) (b:=.v 2) hn (by simp[rSI,nEq])
 have a6:ρ 2≤ρ 0:=cw (a:=.v 2) (b:=.v 0) hn (by simp[rSI,nEq])
 have e1:ρ 1=ρ 0:=Rat.le_antisymm a3 a1
 have e2:ρ 2=ρ 0:=Rat.le_antisymm a6 a5
 have e3:ρ 3=ρ 0:=(Rat.le_antisymm a4 a2).trans e2
 have k:∀ i j,ρ i=ρ 0→ρ j=ρ 0→sg ((SE.v i).val ρ) ((SE.v j).val ρ)=0:=fun i j hi hj=>dN.2 (hi.trans hj.symm)
 exact ((((((bY.one h).sp1 (k 0 1 rfl e1)).sp1 (k 2 3 e2 e3)).sp1 (k 1 2 e1 e2)).sp1 (k 0 3 rfl e3)).sp1 (k 1 3 e1 e3)).sp1 (k 0 2 rfl e2)) (fun ρ=>by kernel_rfl)
theorem EX:cg Tryz.prog 25 (rSI 0 24 ((.v 0,.v 1,true)::nOv)):=bQ l1 (by kernel_rfl) rfl (L:=sp3 (.v 0) (.v 2) (sp3 (.v 1) (.v 3) (sp2 (.v 0) (.v 3) (sp2 (.v 2) (.v 1) (sp1 (.v 0) (.v 1) (-1) (sp2 (.v 2) (.v 3) [mN 0 100])))))) (fun ρ h hn=>
 (((((((bY.one h).sp2 (cw hn (by simp[rSI,n2]))).sp1 (cL.2 (dD hn (by simp[rSI])))).sp2 (cw hn (by simp[rSI,nOv]))).sp2 (cw hn (by simp[rSI,nOv]))).sp3 (.v 1) (.v 3))).sp3 (.v 0) (.v 2)) (fun ρ=>by kernel_rfl)
def tOB (s s' t:Int):PT:=((((((mN 0 100).add (.v 0) (.v 1) 0).add (.v 2) (.v 3) (-1)).add (.v 2) (.v 1) s).add (.v 0) (.v 2) s').add (.v 0) (.v 3) t).add (.v 1) (.v 3) t
theorem EY:cg Tryz.prog 25 (rSI 0 24 ((.v 1,.v 0,false)::(.v 2,.v 3,true)::nOv)):=bQ l1 (by kernel_rfl) rfl (L:=[tOB (-1) 1 (-1),tOB (-1) 1 0,tOB 0 0 (-1)]) (fun ρ h hn=>by
 have a1:ρ 0≤ρ 1:=cw (a:=.v 0) (b:=.v 1) hn (by simp[rSI,n2])
 have a2:ρ 1≤ρ 0:=cw (a:=.v 1) (b:=.v 0) hn (by simp[rSI])
 have a3:ρ 2<ρ 3:=dD (a:=.v 2) (b:=.v 3) hn (by simp[rSI])
 have a4:ρ 2≤ρ 1:=cw (a:=.v 2) (b:=.v 1) hn (by simp[rSI,nOv])
 have a5:ρ 0≤ρ 3:=cw (a:=.v 0) (b:=.v 3) hn (by simp[rSI,nOv])
 have e:ρ 1=ρ 0:=Rat.le_antisymm a2 a1
 have key:∀ s t,sg (ρ 2) (ρ 1)=s→sg (ρ 0) (ρ 3)=t→TOK ρ _ (tOB s (-s) t):=fun s t hs ht=>
  (((((h.add (a:=.v 0) (b:=.v 1) (dN.2 e.symm)).add (a:=.v 2) (b:=.v 3) (cL.2 a3)).add (a:=.v 2) (b:=.v 1) hs).add (a:=.v 0) (b:=.v 2) (by rw[gB,show (SE.v 0).val ρ=ρ 1 from e.symm,show sg ((SE.v 2).val ρ) (ρ 1)=s from hs])).add (a:=.v 0) (b:=.v 3) ht).add (a:=.v 1) (b:=.v 3) (by show sg (ρ 1) (ρ 3)=t;rw[e];exact ht)
 have b1:=ic.1 a4
 have b2:=ic.1 a5
 rcases dI (ρ 2) (ρ 1) with hs|hs|hs
 ·rcases dI (ρ 0) (ρ 3) with ht|ht|ht
  ·exact⟨_,List.mem_cons_self,key _ _ hs ht⟩
  ·exact⟨_,List.mem_cons_of_mem _ List.mem_cons_self,key _ _ hs ht⟩
  ·omega
 ·rcases dI (ρ 0) (ρ 3) with ht|ht|ht
  ·exact⟨_,List.mem_cons_of_mem _ (List.mem_cons_of_mem _ List.mem_cons_self),key _ _ hs ht⟩
  ·have h1:=dN.1 hs
   have h2:=dN.1 ht
   rw[h1,e,h2] at a3
   exact absurd a3 (by rw[←Rat.not_le];exact fun hc=>hc Rat.le_refl)
  ·omega
 ·omega) (fun ρ=>by kernel_rfl)
def I6:List AV:=[spS (.v 0) (.v 1),.sym (.ss (.v 2))]
def rH (b:Bool) (l:Nd):Rule:=⟨I6,.bool b,20000,l⟩
theorem Iv:cg Tryz.prog 21 (rH true [(.v 0,.v 2,false),(.v 2,.v 1,false)]):=bQ jn (by kernel_rfl) rfl (L:=sp2 (.v 2) (.v 1) (sp2 (.v 0) (.v 2) [mN 0 20000])) (fun ρ h hn=>
 ((bY.one h).sp2 (cw hn (by simp[rH]))).sp2 (cw hn (by simp[rH]))) (fun ρ=>by kernel_rfl)
theorem Iu:cg Tryz.prog 21 (rH false [(.v 2,.v 0,true)]):=bQ jn (by kernel_rfl) rfl (L:=sp1 (.v 2) (.v 0) (-1) [mN 0 20000]) (fun ρ h hn=>
 (bY.one h).sp1 (cL.2 (dD hn (by simp[rH])))) (fun ρ=>by kernel_rfl)
theorem GL:cg Tryz.prog 21 (rH false [(.v 0,.v 2,false),(.v 1,.v 2,true)]):=bQ jn (by kernel_rfl) rfl (L:=sp1 (.v 1) (.v 2) (-1) (sp2 (.v 0) (.v 2) [mN 0 20000])) (fun ρ h hn=>
 ((bY.one h).sp2 (cw hn (by simp[rH]))).sp1 (cL.2 (dD hn (by simp[rH])))) (fun ρ=>by kernel_rfl)
theorem Is:cg Tryz.prog 20 ⟨[spS (.v 0) (.v 1)],.int .i64 0,600,[(.v 0,.v 1,false)]⟩:=bQ jn (by kernel_rfl) rfl (L:=sp2 (.v 0) (.v 1) [mN 0 600]) (fun ρ h hn=>
 (bY.one h).sp2 (cw hn (by simp))) (fun ρ=>by kernel_rfl)
end Go.Sx.Seat
namespace Go.Sx.Seat
open Go Go.Sx Go.Proofs Go.RowKit LimbNum DigNum
def rSq:Rule:=⟨[ivA (.v 0) (.v 1)],ivA (.bin 2 (.v 0) (.v 1)) (.bin 3 (.v 0) (.v 1)),20000,[(.v 0,.v 1,false)]⟩
theorem rsq:cg Tryz.prog 93 rSq:=bQ jn (by kernel_rfl) rfl (L:=sp3 (.mul (.v 0) (.v 0)) (.mul (.v 1) (.v 1)) (sp3 (.v 0) (.int 0) (sp3 (.v 1) (.int 0) [mN 0 20000]))) (fun ρ h _=>(((bY.one h).sp3 _ _).sp3 _ _).sp3 _ _) (fun ρ=>by kernel_rfl)
def L3:PT→List (Nat × Prm):=gE 93 rSq L1
theorem l3:vP L3:=l1.add rsq
def bxS (a b c d:SE):AV:=.agg [.sym (.ss a),.sym (.ss b),.sym (.ss c),.sym (.ss d)]
def n4:Nd:=[(.v 0,.v 1,false),(.v 2,.v 3,false)]
def n8:Nd:=n4++[(.v 4,.v 5,false),(.v 6,.v 7,false)]
def tB4:List PT:=sp2 (.v 2) (.v 3) (sp2 (.v 0) (.v 1) [mN 0 40])
def tB8:List PT:=sp2 (.v 6) (.v 7) (sp2 (.v 4) (.v 5) tB4)
section
variable {ρ : Nat → Rat} {σ : Nat → ByteArray}
theorem qaK (h:TOK ρ σ (mN 0 40)) {l:Nd} (hn:∀ c∈n4++l,tE ρ c):bY ρ σ tB4:=
 ((bY.one h).sp2 (hn (.v 0,.v 1,false) (by simp[n4]))).sp2 (hn (.v 2,.v 3,false) (by simp[n4]))
theorem qaL (h:TOK ρ σ (mN 0 40)) (hn:∀ c∈n8,tE ρ c):bY ρ σ tB8:=
 ((qaK h hn).sp2 (hn (.v 4,.v 5,false) (by simp[n8]))).sp2 (hn (.v 6,.v 7,false) (by simp[n8]))
end
def bx2:List AV:=[bxS (.v 0) (.v 1) (.v 2) (.v 3),bxS (.v 4) (.v 5) (.v 6) (.v 7)]
def okB (a b c d:SE):AV:=.tup [bxS a b c d,.int .i64 0]
def rAB:Rule:=⟨bx2,okB (cLo .add (.v 0) (.v 1) (.v 4) (.v 5)) (cHi .add (.v 0) (.v 1) (.v 4) (.v 5)) (cLo .add (.v 2) (.v 3) (.v 6) (.v 7)) (cHi .add (.v 2) (.v 3) (.v 6) (.v 7)),40,n8⟩
def mLo (a b c d:SE):SE:=cLo .mul a b c d
def mHi (a b c d:SE):SE:=cHi .mul a b c d
def rMB:Rule:=⟨bx2,okB
 (cLo .sub (mLo (.v 0) (.v 1) (.v 4) (.v 5)) (mHi (.v 0) (.v 1) (.v 4) (.v 5)) (mLo (.v 2) (.v 3) (.v 6) (.v 7)) (mHi (.v 2) (.v 3) (.v 6) (.v 7)))
 (cHi .sub (mLo (.v 0) (.v 1) (.v 4) (.v 5)) (mHi (.v 0) (.v 1) (.v 4) (.v 5)) (mLo (.v 2) (.v 3) (.v 6) (.v 7)) (mHi (.v 2) (.v 3) (.v 6) (.v 7)))
 (cLo .add (mLo (.v 0) (.v 1) (.v 6) (.v 7)) (mHi (.v 0) (.v 1) (.v 6) (.v 7)) (mLo (.v 2) (.v 3) (.v 4) (.v 5)) (mHi (.v 2) (.v 3) (.v 4) (.v 5)))
 (cHi .add (mLo (.v 0) (.v 1) (.v 6) (.v 7)) (mHi (.v 0) (.v 1) (.v 6) (.v 7)) (mLo (.v 2) (.v 3) (.v 4) (.v 5)) (mHi (.v 2) (.v 3) (.v 4) (.v 5))),40,n8⟩
def rCj:Rule:=⟨[bxS (.v 0) (.v 1) (.v 2) (.v 3)],okB (.v 0) (.v 1) (.neg (.v 3)) (.neg (.v 2)),40,n4++[]⟩
def rNm:Rule:=⟨[bxS (.v 0) (.v 1) (.v 2) (.v 3)],okS (cLo .add (.bin 2 (.v 0) (.v 1)) (.bin 3 (.v 0) (.v 1)) (.bin 2 (.v 2) (.v 3)) (.bin 3 (.v 2) (.v 3))) (cHi .add (.bin 2 (.v 0) (.v 1)) (.bin 3 (.v 0) (.v 1)) (.bin 2 (.v 2) (.v 3)) (.bin 3 (.v 2) (.v 3))),40,n4++[]⟩
theorem rsAB:cg Tryz.prog 30 rAB:=bQ l3 (by kernel_rfl) rfl (L:=tB8) (fun ρ h hn=>qaL h hn) (fun ρ=>by kernel_rfl)
theorem rsMB:cg Tryz.prog 31 rMB:=bQ l3 (by kernel_rfl) rfl (L:=tB8) (fun ρ h hn=>qaL h hn) (fun ρ=>by kernel_rfl)
theorem rsCj:cg Tryz.prog 32 rCj:=bQ l3 (by kernel_rfl) rfl (L:=tB4) (fun ρ h hn=>qaK h hn) (fun ρ=>by kernel_rfl)
theorem rsNm:cg Tryz.prog 33 rNm:=bQ l3 (by kernel_rfl) rfl (L:=tB4) (fun ρ h hn=>qaK h hn) (fun ρ=>by kernel_rfl)
end Go.Sx.Seat
