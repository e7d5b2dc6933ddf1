import Derived.Test.YtnjcdpfibmckmaaGreatDoorSy3
set_option linter.unusedSectionVars false
set_option linter.unusedVariables false
set_option linter.unusedSimpArgs false
namespace Go.Sx.Seat
open Go Go.Sx Go.Proofs Go.RowKit LimbNum DigNum
def ivA (a b:SE):AV:=.agg [.sym (.nc a 0),.sym (.nc a 1),.sym (.nc a 2),.sym (.nc a 3),.sym (.nc b 0),.sym (.nc b 1),.sym (.nc b 2),.sym (.nc b 3)]
def I0 (f:FuncId):List AV:=[ivA (.v 0) (.v 1),ivA (.v 2) (.v 3),.fn f []]
def cLo (op:SE→SE→SE) (a b c d:SE):SE:=lo4 (op a c) (op a d) (op b c) (op b d)
def cHi (op:SE→SE→SE) (a b c d:SE):SE:=hi4 (op a c) (op a d) (op b c) (op b d)
def Bx (op:SE→SE→SE) (L:List PT):List PT:=L.flatMap fun T=>xT (op (.v 0) (.v 2)) (op (.v 0) (.v 3)) (op (.v 1) (.v 2)) (op (.v 1) (.v 3)) T
theorem j1 {ρ:Nat→Rat} {σ:Nat→ByteArray} {L:List PT} (h:bY ρ σ L) (op:SE→SE→SE):bY ρ σ (Bx op L):=by
 obtain⟨T,hm,hT⟩:=h
 obtain⟨T',h1,h2⟩:=bY.xT hT (op (.v 0) (.v 2)) (op (.v 0) (.v 3)) (op (.v 1) (.v 2)) (op (.v 1) (.v 3))
 exact⟨T',List.mem_flatMap.2 ⟨T,hm,h1⟩,h2⟩
def rC (f:FuncId) (op:SE→SE→SE) (n:List (SE × SE × Bool)):Rule:=⟨I0 f,ivA (cLo op (.v 0) (.v 1) (.v 2) (.v 3)) (cHi op (.v 0) (.v 1) (.v 2) (.v 3)),20000,n⟩
def EG:List (SE × SE × Bool):=[(.int 0,.v 2,true),(.v 2,.v 3,false)]
def EF:List (SE × SE × Bool):=[(.v 3,.int 0,true),(.v 2,.v 3,false)]
def tPos:List PT:=sp1 (.v 3) (.int 0) 1 (sp1 (.v 2) (.int 0) 1 [mN 0 20000])
def tNeg:List PT:=sp1 (.v 3) (.int 0) (-1) (sp1 (.v 2) (.int 0) (-1) [mN 0 20000])
theorem rn {a b c:Rat} (h:a<b) (g:b≤c):a<c:=Rat.not_le.1 fun hc=>Rat.not_le.2 h (Rat.le_trans g hc)
theorem rh {a b c:Rat} (h:a≤b) (g:b<c):a<c:=Rat.not_le.1 fun hc=>Rat.not_le.2 g (Rat.le_trans hc h)
theorem lG {x y:Rat} (h:y<x):sg x y=1:=by rw[gB,cL.2 h];rfl
theorem Im:cg Tryz.prog 144 (rC 145 .add []):=bQ jn (by kernel_rfl) rfl (fun ρ h _=>j1 (bY.one h) .add) (fun ρ=>by kernel_rfl)
theorem Ir:cg Tryz.prog 144 (rC 109 .sub []):=bQ jn (by kernel_rfl) rfl (fun ρ h _=>j1 (bY.one h) .sub) (fun ρ=>by kernel_rfl)
theorem Io:cg Tryz.prog 144 (rC 102 .mul []):=bQ jn (by kernel_rfl) rfl (fun ρ h _=>j1 (bY.one h) .mul) (fun ρ=>by kernel_rfl)
theorem Iq:cg Tryz.prog 144 (rC 151 .quo EG):=bQ jn (by kernel_rfl) rfl (fun ρ h hn=>j1 (by
 have h1:(0:Rat)<ρ 2:=hn (.int 0,.v 2,true) (by simp[rC,EG])
 have h2:ρ 2≤ρ 3:=hn (.v 2,.v 3,false) (by simp[rC,EG])
 exact ((bY.one h).sp1 (a:=.v 2) (b:=.int 0) (lG h1)).sp1 (a:=.v 3) (b:=.int 0) (lG (rn h1 h2))) .quo) (L:=Bx .quo tPos) (fun ρ=>by kernel_rfl)
theorem Ip:cg Tryz.prog 144 (rC 151 .quo EF):=bQ jn (by kernel_rfl) rfl (fun ρ h hn=>j1 (by
 have h1:ρ 3<(0:Rat):=hn (.v 3,.int 0,true) (by simp[rC,EF])
 have h2:ρ 2≤ρ 3:=hn (.v 2,.v 3,false) (by simp[rC,EF])
 exact ((bY.one h).sp1 (a:=.v 2) (b:=.int 0) (cL.2 (rh h2 h1))).sp1 (a:=.v 3) (b:=.int 0) (cL.2 h1)) .quo) (L:=Bx .quo tNeg) (fun ρ=>by kernel_rfl)
end Go.Sx.Seat
namespace Go.Sx.Seat
open Go Go.Sx Go.Proofs Go.RowKit LimbNum DigNum
def L1:PT→List (Nat × Prm):=gE 144 (rC 151 .quo EF) (gE 144 (rC 151 .quo EG) (gE 144 (rC 102 .mul []) (gE 144 (rC 109 .sub []) (gE 144 (rC 145 .add []) sy))))
theorem l1:vP L1:=((((jn.add Im).add Ir).add Io).add Iq).add Ip
def spS (a b:SE):AV:=.agg [.sym (.ss a),.sym (.ss b)]
def H9:List AV:=[spS (.v 0) (.v 1),spS (.v 2) (.v 3)]
abbrev Nd:=List (SE × SE × Bool)
def n2:Nd:=[(.v 0,.v 1,false),(.v 2,.v 3,false)]
def tS2:List PT:=sp2 (.v 2) (.v 3) (sp2 (.v 0) (.v 1) [mN 0 100])
section
variable {ρ : Nat → Rat} {σ : Nat → ByteArray}
theorem jo (h:TOK ρ σ (mN 0 100)) {l:Nd} (hn:∀ c∈n2++l,tE ρ c):bY ρ σ tS2:=
 ((bY.one h).sp2 (hn (.v 0,.v 1,false) (by simp[n2]))).sp2 (hn (.v 2,.v 3,false) (by simp[n2]))
theorem dD {l:Nd} {a b:SE} (hn:∀ c∈l,tE ρ c) (h:(a,b,true)∈l):a.val ρ<b.val ρ:=hn _ h
theorem cw {l:Nd} {a b:SE} (hn:∀ c∈l,tE ρ c) (h:(a,b,false)∈l):a.val ρ≤b.val ρ:=hn _ h
end
def okS (lo hi:SE):AV:=.tup [spS lo hi,.int .i64 0]
def badS (e:Int):AV:=.tup [.agg [.str [],.str []],.int .i64 e]
def rS (op:SE→SE→SE) (l:Nd):Rule:=⟨H9,okS (cLo op (.v 0) (.v 1) (.v 2) (.v 3)) (cHi op (.v 0) (.v 1) (.v 2) (.v 3)),100,n2++l⟩
def rSB (e:Int) (l:Nd):Rule:=⟨H9,badS e,100,n2++l⟩
def rSI (n e:Int) (l:Nd):Rule:=⟨H9,.tup [.int .i64 n,.int .i64 e],100,n2++l⟩
theorem GM:cg Tryz.prog 17 (rS .add []):=bQ l1 (by kernel_rfl) rfl (fun ρ h hn=>jo h hn) (fun ρ=>by kernel_rfl)
theorem EW:cg Tryz.prog 18 (rS .sub []):=bQ l1 (by kernel_rfl) rfl (fun ρ h hn=>jo h hn) (fun ρ=>by kernel_rfl)
theorem EZ:cg Tryz.prog 19 (rS .mul []):=bQ l1 (by kernel_rfl) rfl (fun ρ h hn=>jo h hn) (fun ρ=>by kernel_rfl)
def nP:Nd:=[(.int 0,.v 2,true)]
def nN:Nd:=[(.v 3,.int 0,true)]
def nZ:Nd:=[(.v 2,.int 0,false),(.int 0,.v 3,false)]
theorem Ix:cg Tryz.prog 27 (rS .quo nP):=bQ l1 (by kernel_rfl) rfl (L:=sp1 (.v 3) (.int 0) 1 (sp1 (.v 2) (.int 0) 1 tS2)) (fun ρ h hn=>by
 have h1:(0:Rat)<ρ 2:=dD (a:=.int 0) (b:=.v 2) hn (by simp[rS,nP])
 have h2:ρ 2≤ρ 3:=cw (a:=.v 2) (b:=.v 3) hn (by simp[rS,n2])
 exact ((jo h hn).sp1 (a:=.v 2) (b:=.int 0) (lG h1)).sp1 (a:=.v 3) (b:=.int 0) (lG (rn h1 h2))) (fun ρ=>by kernel_rfl)
theorem Iw:cg Tryz.prog 27 (rS .quo nN):=bQ l1 (by kernel_rfl) rfl (L:=sp1 (.v 3) (.int 0) (-1) (sp1 (.v 2) (.int 0) (-1) tS2)) (fun ρ h hn=>by
 have h1:ρ 3<(0:Rat):=dD (a:=.v 3) (b:=.int 0) hn (by simp[rS,nN])
 have h2:ρ 2≤ρ 3:=cw (a:=.v 2) (b:=.v 3) hn (by simp[rS,n2])
 exact ((jo h hn).sp1 (a:=.v 2) (b:=.int 0) (cL.2 (rh h2 h1))).sp1 (a:=.v 3) (b:=.int 0) (cL.2 h1)) (fun ρ=>by kernel_rfl)
theorem GN:cg Tryz.prog 27 (rSB 6 nZ):=bQ l1 (by kernel_rfl) rfl (L:=sp2 (.int 0) (.v 3) (sp2 (.v 2) (.int 0) tS2)) (fun ρ h hn=>
 ((jo h hn).sp2 (cw hn (by simp[rSB,nZ]))).sp2 (cw hn (by simp[rSB,nZ]))) (fun ρ=>by kernel_rfl)
end Go.Sx.Seat
