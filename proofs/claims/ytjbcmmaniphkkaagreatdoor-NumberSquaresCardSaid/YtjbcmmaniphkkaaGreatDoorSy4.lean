import Derived.Test.YtjbcmmaniphkkaaGreatDoorAw
set_option linter.unusedSectionVars false
set_option linter.unusedVariables false
set_option linter.unusedSimpArgs false
namespace Go.Sx.Seat
open Go Go.Sx Go.Proofs Go.RowKit LimbNum DigNum
def spS (a b:SE):AV:=.agg [.sym (.ss a),.sym (.ss b)]
def Kk (a b:SE):AV:=.tup [spS a b,.int .i64 0]
def roA (k:Nat):List AV:=[.sym (.ss (.v 0)),.int .i64 (.ofNat k)]
def sqX:SE:=rSq (.v 0)
def rRn (k:Nat):Rule:=⟨roA k,.tup [.agg [.str [],.str []],.int .i64 3],60,[(.v 0,.int 0,true)]⟩
def rRx (k:Nat):Rule:=⟨roA k,Kk (rX (.v 0)) (rX (.v 0)),60,[(.int 0,.v 0,false),(sqX,.v 0,false),(.v 0,sqX,false)]⟩
def rRl (k:Nat):Rule:=⟨roA k,Kk (rLo k (.v 0)) (rHi k (.v 0)),60,[(.int 0,.v 0,false),(sqX,.v 0,true)]⟩
def rRg (k:Nat):Rule:=⟨roA k,Kk (rLo k (.v 0)) (rHi k (.v 0)),60,[(.int 0,.v 0,false),(.v 0,sqX,true)]⟩
def tRn:List PT:=[(wu 0 60).add (.v 0) (.int 0) (-1)]
def tRo (c:Int):List PT:=[((wu 0 60).add sqX (.v 0) c).add (.v 0) (.int 0) 0,((wu 0 60).add sqX (.v 0) c).add (.v 0) (.int 0) 1]
def mI:List Nat:=[1,2,3,4,5,6,7,8,9,10,11,12]
theorem JT (ρ:Nat→Rat):(mI.all fun k=>tRn.all fun T=>@ru (gZ ρ (fun _=>⟨#[]⟩) T) _ T (ES syW T) 1000 60 8 (rRn k).args (rRn k).out)=true:=by kernel_rfl
theorem JU (ρ:Nat→Rat):(mI.all fun k=>(tRo 0).all fun T=>@ru (gZ ρ (fun _=>⟨#[]⟩) T) _ T (ES syW T) 1000 60 8 (rRx k).args (rRx k).out)=true:=by kernel_rfl
theorem JS (ρ:Nat→Rat):(mI.all fun k=>(tRo (-1)).all fun T=>@ru (gZ ρ (fun _=>⟨#[]⟩) T) _ T (ES syW T) 1000 60 8 (rRl k).args (rRl k).out)=true:=by kernel_rfl
theorem JR (ρ:Nat→Rat):(mI.all fun k=>(tRo 1).all fun T=>@ru (gZ ρ (fun _=>⟨#[]⟩) T) _ T (ES syW T) 1000 60 8 (rRg k).args (rRg k).out)=true:=by kernel_rfl
theorem sgp {x y:Rat} (h:y<x):sg x y=1:=by rw[gD,iZ.2 h];rfl
theorem yf {ρ:Nat→Rat} {σ:Nat→ByteArray} (h:TOK ρ σ (wu 0 60)) (h0:0≤ρ 0) {c:Int} (hc:sg (sqX.val ρ) (ρ 0)=c):gO ρ σ (tRo c):=by
 have g:=ij.1 h0
 have e:sg (ρ 0) 0 = - sg 0 (ρ 0):=gD _ _
 have h1:=h.add (a:=sqX) (b:=.v 0) hc
 rcases eg (ρ 0) 0 with q|q|q
 ·omega
 ·exact⟨_,List.mem_cons_self,h1.add (a:=.v 0) (b:=.int 0) q⟩
 ·exact⟨_,List.mem_cons_of_mem _ List.mem_cons_self,h1.add (a:=.v 0) (b:=.int 0) q⟩
theorem KW {k:Nat} (hk:k∈mI):iA Tryz.prog 8 (rRn k):=jQ tU (by kernel_rfl) rfl (L:=tRn) (fun ρ h hn=>gO.one (h.add (a:=.v 0) (b:=.int 0) (iZ.2 (hn (.v 0,.int 0,true) List.mem_cons_self)))) (fun ρ=>List.all_eq_true.1 (JT ρ) k hk)
theorem KZ {k:Nat} (hk:k∈mI):iA Tryz.prog 8 (rRx k):=jQ tU (by kernel_rfl) rfl (L:=tRo 0) (fun ρ h hn=>yf h (hn (.int 0,.v 0,false) List.mem_cons_self) (cW.2 (Rat.le_antisymm (hn (sqX,.v 0,false) (by simp[rRx])) (hn (.v 0,sqX,false) (by simp[rRx]))))) (fun ρ=>List.all_eq_true.1 (JU ρ) k hk)
theorem KV {k:Nat} (hk:k∈mI):iA Tryz.prog 8 (rRl k):=jQ tU (by kernel_rfl) rfl (L:=tRo (-1)) (fun ρ h hn=>yf h (hn (.int 0,.v 0,false) List.mem_cons_self) (iZ.2 (hn (sqX,.v 0,true) (by simp[rRl])))) (fun ρ=>List.all_eq_true.1 (JS ρ) k hk)
theorem KU {k:Nat} (hk:k∈mI):iA Tryz.prog 8 (rRg k):=jQ tU (by kernel_rfl) rfl (L:=tRo 1) (fun ρ h hn=>yf h (hn (.int 0,.v 0,false) List.mem_cons_self) (sgp (hn (.v 0,sqX,true) (by simp[rRg])))) (fun ρ=>List.all_eq_true.1 (JR ρ) k hk)
def xJ:Prm:=fun _ a=>match a with
 | []=>some (.bool true)
 | _=>none
theorem Cr [Unk]:ay Tryz.prog 6 xJ:=by
 intro h args av hg m w vals hv hs
 unfold xJ at hg
 split at hg
 ·cases hg
  exact Cs m w _ vals hv hs
 ·cases hg
def rCk:Rule:=⟨[spS (.v 0) (.v 1)],.int .i64 0,600,[(.v 0,.v 1,false)]⟩
def rWi:Rule:=⟨[spS (.v 0) (.v 1),spS (.v 2) (.v 3)],.bool true,600,[(.v 2,.v 0,false),(.v 1,.v 3,false)]⟩
theorem rck:iA Tryz.prog 17 rCk:=jQ IT (by kernel_rfl) rfl (L:=sp2 (.v 0) (.v 1) [wu 0 600]) (fun ρ h hn=>
 (gO.one h).sp2 (hn (.v 0,.v 1,false) List.mem_cons_self)) (fun ρ=>by kernel_rfl)
theorem rwi:iA Tryz.prog 47 rWi:=jQ IT (by kernel_rfl) rfl (L:=sp2 (.v 1) (.v 3) (sp2 (.v 2) (.v 0) [wu 0 600])) (fun ρ h hn=>
 ((gO.one h).sp2 (hn (.v 2,.v 0,false) (by simp[rWi]))).sp2 (hn (.v 1,.v 3,false) (by simp[rWi]))) (fun ρ=>by kernel_rfl)
def RT:FuncId:=8
def lvR (k:Nat) (l:PT→List (Nat × Prm)):PT→List (Nat × Prm):=wI RT (rRn k) (wI RT (rRx k) (wI RT (rRl k) (wI RT (rRg k) l)))
theorem Du {k:Nat} (hk:k∈mI) {l:PT→List (Nat × Prm)} (h:og l):og (lvR k l):=(((h.add (KU hk)).add (KV hk)).add (KZ hk)).add (KW hk)
def lvA (l:PT→List (Nat × Prm)) (T:PT):List (Nat × Prm):=(6,xJ)::l T
theorem Dt {l:PT→List (Nat × Prm)} (h:og l):og (lvA l):=fun U ρ σ T hT x hx=>by
 rcases List.mem_cons.1 hx with rfl|hx
 ·exact @Cr U
 ·exact h U ρ σ T hT x hx
def lvQ (k:Nat):PT→List (Nat × Prm):=lvA (lvR k (lvR (k+2) (wI 17 rCk (wI 47 rWi syV))))
theorem Jw {k:Nat} (h1:k∈mI) (h2:k+2∈mI):og (lvQ k):=Dt (Du h1 (Du h2 ((EN.add rwi).add rck)))
abbrev Cm:=List (SE × SE × Int)
abbrev Le:=List (SE × SE)
def tQ (x:Cm × Le):PT:=⟨x.1,[(0,0),(1,0)],[],x.2,[(0,30,true),(1,30,true)],30⟩
def wB:SE:=.mul (.v 1) (.v 1)
def abT (s:Int) (e:SE):SE:=match s with
 | .negSucc _=>.neg e
 | .ofNat _=>e
def bC (s:Int):Cm:=[(.v 1,.int 0,s),(rX wB,abT s (.v 1),0)]
def bL:Le:=[(.int 0,wB),(rSq wB,wB),(wB,rSq wB)]
def lo (k:Nat):SE:=rLo k (.v 0)
def hi (k:Nat):SE:=rHi k (.v 0)
def IV:Cm × Le:=([(.v 0,.int 0,-1)],[])
def aEx (k:Nat) (s:Int):Cm × Le:=([(.v 0,.int 0,s),(sqX,.v 0,0),(rX (.v 0),.int 0,s),(.sub (rX (.v 0)) (rX (.v 0)),P10 k,-1)],[])
def aNo (k:Nat) (c t:Int):Cm × Le:=([(.v 0,.int 0,1),(sqX,.v 0,c),(lo k,.int 0,t),(.mul (lo k) (lo k),.v 0,-1),(.mul (hi k) (hi k),.v 0,1),(.sub (hi k) (lo k),P10 k,0)],[(lo k,hi k),(lo (k+2),hi (k+2)),(lo k,lo (k+2)),(hi (k+2),hi k)])
def zQ (k:Nat):List (Cm × Le):=[IV,aEx k 0,aEx k 1,aNo k (-1) 0,aNo k (-1) 1,aNo k 1 0,aNo k 1 1]
def three:List Int:=[-1,0,1]
def Li (k:Nat):List PT:=three.flatMap fun s=>(zQ k).map fun x=>tQ (bC s++x.1,bL++x.2)
def zh (k:AV):List AV:=[.sym (.st 0),.sym (.st 1),k]
def LQ:FuncId:=5
def ub (ks:List Nat):Prop:=∀ (ρ:Nat→Rat) (σ:Nat→ByteArray),(ks.all fun k=>(Li k).all fun T=>@ru (gZ ρ σ T) _ T (ES (lvQ k) T) 1000 60 LQ (zh (.int .i64 (.ofNat k))) (.bool true))=true
def kC (l:Cm) (fw:List (Nat × Nat × Bool)):PT:=⟨l,[],[],[],fw,30⟩
def outs:List PT:=[kC [] [(0,30,false)],kC [] [(0,30,true),(1,30,false)],kC [(.v 2000,.int 1,-1)] [(0,30,true),(1,30,true)],kC [(.v 2000,.int 1,1),(.v 2000,.int 10,1)] [(0,30,true),(1,30,true)]]
theorem GW (ρ:Nat→Rat) (σ:Nat→ByteArray):(outs.all fun T=>@ru (gZ ρ σ T) _ T (ES (lvA syV) T) 1000 60 LQ (zh (.sym (.si 1000))) (.bool true))=true:=by kernel_rfl
end Go.Sx.Seat
