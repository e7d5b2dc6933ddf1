import Derived.Test.YtnjcdpfibmckmaaGreatDoorSy4
import Derived.Test.YtnjcdpfibmckmaaGreatDoorAw
set_option linter.unusedSectionVars false
set_option linter.unusedVariables false
set_option linter.unusedSimpArgs false
namespace Go.Sx.Seat
open Go Go.Sx Go.Proofs Go.RowKit LimbNum DigNum
def xj:Prm:=fun _ a=>match a with
 | []=>some (.bool true)
 | _=>none
theorem Bq [Unk]:au Tryz.prog 6 xj:=by
 intro h args av hg m w vals hv hs
 unfold xj at hg
 split at hg
 ·cases hg
  exact Br m w _ vals hv hs
 ·cases hg
def L2 (T:PT):List (Nat × Prm):=(6,xj)::(gE 17 (rS .add []) (gE 18 (rS .sub []) (gE 19 (rS .mul []) (gE 27 (rS .quo nP) (gE 27 (rS .quo nN) (gE 27 (rSB 6 nZ)
 (gE 25 (rSI (-1) 0 nLt) (gE 25 (rSI 1 0 nGt) (gE 25 (rSI 0 0 nEq) (gE 25 (rSI 0 24 ((.v 0,.v 1,true)::nOv)) (gE 25 (rSI 0 24 ((.v 1,.v 0,false)::(.v 2,.v 3,true)::nOv))
 (gE 21 (rH true [(.v 0,.v 2,false),(.v 2,.v 1,false)]) (gE 21 (rH false [(.v 2,.v 0,true)]) (gE 21 (rH false [(.v 0,.v 2,false),(.v 1,.v 2,true)]) (gE 20 ⟨[spS (.v 0) (.v 1)],.int .i64 0,600,[(.v 0,.v 1,false)]⟩ sy))))))))))))))) T
theorem l2:vP L2:=fun U ρ σ T hT x hx=>by
 rcases List.mem_cons.1 hx with rfl|hx
 ·exact @Bq U
 ·exact (((((((((((((((jn.add Is).add GL).add Iu).add Iv).add EY).add EX).add rsEq).add rsGt).add rsLt).add GN).add Iw).add Ix).add EZ).add EW).add GM) U ρ σ T hT x hx
open Classical in
noncomputable def Ds (d:Nat) (s:ByteArray):Rat:=if h:Few s d then h.choose else 0
theorem FH {d:Nat} {s:ByteArray} (h:Few s d):aC s (Ds d s):=by
 unfold Ds;rw[dif_pos h];exact h.choose_spec.1
theorem FG {d:Nat} (s:ByteArray) (hd:1≤d):Bd (Ds d s) d:=by
 unfold Ds
 split
 ·rename_i h;exact h.choose_spec.2
 ·exact kP hd
noncomputable def fS (d n:Nat) (σ:Nat→ByteArray) (p:List Nat) (i:Nat):Rat:=if i<n then Ds d (σ i) else if i<1000 then 0 else (((p.getD (i-1000) 0:Nat):Int):Rat)
theorem EV {d n:Nat} (hd:3≤d) (σ:Nat→ByteArray) {p:List Nat} (hp:∀ x∈p,x≤255) (i:Nat):Bd (fS d n σ p i) d:=by
 unfold fS
 split
 ·exact FG _ (by omega)
 ·split
  ·exact kP (by omega)
  ·have h1:p.getD (i-1000) 0≤255:=by
    rw[List.getD_eq_getElem?_getD]
    cases h:p[i-1000]? with
    | none=>simp
    | some x=>exact hp x (List.mem_of_getElem? h)
   have h2:10^3≤10^d:=Nat.pow_le_pow_right (by decide) hd
   refine ⟨?_,?_⟩
   ·rw[Rat.num_intCast];show p.getD (i-1000) 0<10^d;omega
   ·rw[Rat.den_intCast];omega
abbrev qO:=List (SE × SE × Int) × List (SE × SE)
def fp (ρ:Nat→Rat) (c:qO):Prop:=(∀ x∈c.1,sg (x.1.val ρ) (x.2.1.val ρ)=x.2.2)∧∀ x∈c.2,x.1.val ρ≤x.2.val ρ
def tr (d:Nat) (yes:List Nat) (no:List Nat) (c:qO):PT:=⟨c.1,yes.map fun i=>(i,0),[],c.2,yes.map (fun i=>(i,d,true))++no.map fun i=>(i,d,false),d⟩
open Classical in
theorem tokL {d n:Nat} {σ:Nat→ByteArray} {p:List Nat} (hd:3≤d∧d≤600) (hs:∀ i,(σ i).size≤9223372036854775807) (hp:∀ x∈p,x≤255) {yes no:List Nat} (h1:∀ i∈yes,i<n∧Few (σ i) d) (h2:∀ i∈no,¬Few (σ i) d) {c:qO} (hc:fp (fS d n σ p) c) :
  TOK (fS d n σ p) σ (tr d yes no c) where
 cmp:=hc.1
 chk:=fun x hx=>by
  obtain⟨i,hi,rfl⟩:=List.mem_map.1 hx
  obtain⟨y,g1,g2⟩:=(h1 i hi).2
  show cN (chs (σ i))=0
  rw[show chs (σ i)=bW y from g1]
  exact j4 (g2.mono hd.2)
 says:=fun x hx _=>by
  obtain⟨i,hi,rfl⟩:=List.mem_map.1 hx
  show aC (σ i) (fS d n σ p i)
  unfold fS
  rw[if_pos (h1 i hi).1]
  exact FH (h1 i hi).2
 len:=hs
 clen:=fun x hx=>by
  obtain⟨i,hi,rfl⟩:=List.mem_map.1 hx
  obtain⟨y,g1,g2⟩:=(h1 i hi).2
  show (σ i).size≤1000000
  rw[g1.size]
  exact Nat.le_trans (fx (g2.mono hd.2)) (by decide)
 lrg:=fun x hx=>absurd hx List.not_mem_nil
 le:=hc.2
 few:=fun x hx=>by
  rcases List.mem_append.1 hx with hx|hx
  ·obtain⟨i,hi,rfl⟩:=List.mem_map.1 hx
   exact decide_eq_true (h1 i hi).2
  ·obtain⟨i,hi,rfl⟩:=List.mem_map.1 hx
   exact decide_eq_false (h2 i hi)
 bd:=EV hd.1 σ hp
def L4 (T:PT):List (Nat × Prm):=(6,xj)::(gE 30 rAB (gE 31 rMB (gE 32 rCj (gE 33 rNm
 (gE 21 (rH true [(.v 0,.v 2,false),(.v 2,.v 1,false)]) (gE 20 ⟨[spS (.v 0) (.v 1)],.int .i64 0,600,[(.v 0,.v 1,false)]⟩ sy)))))) T
theorem l4:vP L4:=fun U ρ σ T hT x hx=>by
 rcases List.mem_cons.1 hx with rfl|hx
 ·exact @Bq U
 ·exact ((((((jn.add Is).add Iv).add rsNm).add rsCj).add rsMB).add rsAB) U ρ σ T hT x hx
def qaO (a b i:Nat):SE:=.add (.v a) (.mul (.quo (.v (1000+i)) (.int 255)) (.sub (.v b) (.v a)))
def mU:SE:=qaO 0 1 0
def qat:SE:=qaO 2 3 2
def qau:SE:=qaO 4 5 1
def qav:SE:=qaO 6 7 3
def bxT (i:Nat):AV:=.agg [.sym (.st i),.sym (.st (i+1)),.sym (.st (i+2)),.sym (.st (i+3))]
def qaw:List AV:=[bxT 0,bxT 4,.agg [.sym (.si 0),.sym (.si 1),.sym (.si 2),.sym (.si 3)]]
def btw (l x h:SE):List (SE × SE):=[(l,x),(x,h),(l,h)]
def qas:SE:=cLo .sub (mLo (.v 0) (.v 1) (.v 4) (.v 5)) (mHi (.v 0) (.v 1) (.v 4) (.v 5)) (mLo (.v 2) (.v 3) (.v 6) (.v 7)) (mHi (.v 2) (.v 3) (.v 6) (.v 7))
def qar:SE:=cHi .sub (mLo (.v 0) (.v 1) (.v 4) (.v 5)) (mHi (.v 0) (.v 1) (.v 4) (.v 5)) (mLo (.v 2) (.v 3) (.v 6) (.v 7)) (mHi (.v 2) (.v 3) (.v 6) (.v 7))
def qaq:SE:=cLo .add (mLo (.v 0) (.v 1) (.v 6) (.v 7)) (mHi (.v 0) (.v 1) (.v 6) (.v 7)) (mLo (.v 2) (.v 3) (.v 4) (.v 5)) (mHi (.v 2) (.v 3) (.v 4) (.v 5))
def qap:SE:=cHi .add (mLo (.v 0) (.v 1) (.v 6) (.v 7)) (mHi (.v 0) (.v 1) (.v 6) (.v 7)) (mLo (.v 2) (.v 3) (.v 4) (.v 5)) (mHi (.v 2) (.v 3) (.v 4) (.v 5))
def nLo:SE:=cLo .add (.bin 2 (.v 0) (.v 1)) (.bin 3 (.v 0) (.v 1)) (.bin 2 (.v 2) (.v 3)) (.bin 3 (.v 2) (.v 3))
def nHi:SE:=cHi .add (.bin 2 (.v 0) (.v 1)) (.bin 3 (.v 0) (.v 1)) (.bin 2 (.v 2) (.v 3)) (.bin 3 (.v 2) (.v 3))
def qab:List (SE × SE):=[(.v 0,.v 1),(.v 2,.v 3),(.v 4,.v 5),(.v 6,.v 7)]
def leM:List (SE × SE):=qab++(btw (cLo .add (.v 0) (.v 1) (.v 4) (.v 5)) (.add mU qau) (cHi .add (.v 0) (.v 1) (.v 4) (.v 5))++(btw (cLo .add (.v 2) (.v 3) (.v 6) (.v 7)) (.add qat qav) (cHi .add (.v 2) (.v 3) (.v 6) (.v 7)) ++
 (btw qas (.sub (.mul mU qau) (.mul qat qav)) qar++(btw qaq (.add (.mul mU qav) (.mul qat qau)) qap++(btw (.v 0) mU (.v 1)++(btw (.neg (.v 3)) (.neg qat) (.neg (.v 2))++btw nLo (.add (.mul mU mU) (.mul qat qat)) nHi))))))
def qaM:List PT:=[tr 5 [] [0] ([],[]),tr 5 [0] [1] ([],[]),tr 5 [0,1] [] ([(.v 1,.v 0,-1)],[]),
 tr 5 [0,1] [2] ([],[(.v 0,.v 1)]),tr 5 [0,1,2] [3] ([],[(.v 0,.v 1)]),tr 5 [0,1,2,3] [] ([(.v 3,.v 2,-1)],[(.v 0,.v 1)]),
 tr 5 [0,1,2,3] [4] ([],[(.v 0,.v 1),(.v 2,.v 3)]),tr 5 [0,1,2,3,4] [5] ([],[(.v 0,.v 1),(.v 2,.v 3)]),tr 5 [0,1,2,3,4,5] [] ([(.v 5,.v 4,-1)],[(.v 0,.v 1),(.v 2,.v 3)]),
 tr 5 [0,1,2,3,4,5] [6] ([],[(.v 0,.v 1),(.v 2,.v 3),(.v 4,.v 5)]),tr 5 [0,1,2,3,4,5,6] [7] ([],[(.v 0,.v 1),(.v 2,.v 3),(.v 4,.v 5)]),tr 5 [0,1,2,3,4,5,6,7] [] ([(.v 7,.v 6,-1)],[(.v 0,.v 1),(.v 2,.v 3),(.v 4,.v 5)]),
 tr 5 [0,1,2,3,4,5,6,7] [] ([(nLo,.int 0,0)],leM),tr 5 [0,1,2,3,4,5,6,7] [] ([(nLo,.int 0,1)],leM)]
theorem runX (ρ:Nat→Rat) (σ:Nat→ByteArray):(qaM.all fun T=>@Ai (lv ρ σ T) _ T (ES L4 T) 1000 60 5 qaw (.bool true))=true:=by kernel_rfl
end Go.Sx.Seat
namespace Go.Sx.Seat
open Go Go.Sx Go.Proofs Go.RowKit LimbNum DigNum
section
variable {ρ : Nat → Rat}
variable {n0 n1 : Nat} (hn0 : n0 ≤ 255) (hn1 : n1 ≤ 255) (e0 : ρ 1000 = ((n0 : Int) : Rat)) (e1 : ρ 1001 = ((n1 : Int) : Rat)) (ha : ρ 0 ≤ ρ 1) (hb : ρ 2 ≤ ρ 3)
include hn0 e0 ha in
end
theorem yA {ρ:Nat→Rat} {a b:SE} {s:Int} {l:List (SE × SE)} (h:sg (a.val ρ) (b.val ρ)=s) (hl:∀ x∈l,x.1.val ρ≤x.2.val ρ):fp ρ ([(a,b,s)],l):=by
 refine ⟨fun x hx=>?_,hl⟩
 rcases List.mem_cons.1 hx with rfl|hx
 ·exact h
 ·cases hx
end Go.Sx.Seat
namespace Go.Sx.Seat
open Go Go.Sx Go.Proofs Go.RowKit LimbNum DigNum
theorem qaH {a x:Rat} (h0:0≤a) (h:a≤x):a*a≤x*x:=
 Rat.le_trans (Rat.mul_le_mul_of_nonneg_left h h0) (Rat.mul_le_mul_of_nonneg_right h (Rat.le_trans h0 h))
theorem qaI {a x:Rat} (h0:a≤0) (h:x≤a):a*a≤x*x:=by
 have:=qaH (a:=-a) (x:=-x) (by grind) (by grind)
 grind
theorem qaJ (x:Rat):0≤x*x:=by
 rcases Rat.le_total (a:=0) (b:=x) with h|h
 ·exact Rat.mul_nonneg h h
 ·have:=Rat.mul_nonneg (a:=-x) (b:=-x) (by grind) (by grind)
  grind
theorem qaG {a b x:Rat} (h1:a≤x) (h2:x≤b):bP 2 a b≤x*x∧x*x≤bP 3 a b:=by
 constructor
 ·show (if a≤0∧0≤b then 0 else if a*a≤b*b then a*a else b*b)≤x*x
  split
  ·exact qaJ x
  ·rename_i hc
   by_cases ha:a≤0
   ·have hb:b≤0:=by grind
    have:=qaI hb h2
    split<;>grind
   ·have:=qaH (a:=a) (x:=x) (by grind) h1
    split<;>grind
 ·show x*x≤(if a*a≤b*b then b*b else a*a)
  rcases Rat.le_total (a:=0) (b:=x) with h|h
  ·have:=qaH h h2
   split<;>grind
  ·have:=qaI h h1
   split<;>grind
section
variable {ρ : Nat → Rat}
def In (ρ:Nat→Rat) (a x b:SE):Prop:=a.val ρ≤x.val ρ∧x.val ρ≤b.val ρ
theorem qae {a x b:SE} (h:In ρ a x b):∀ e∈btw a x b,e.1.val ρ≤e.2.val ρ:=by
 intro e he
 simp only[btw,List.mem_cons,List.not_mem_nil,or_false] at he
 rcases he with rfl|rfl|rfl
 ·exact h.1
 ·exact h.2
 ·exact Rat.le_trans h.1 h.2
theorem qag {a b c d p q:SE} (h1:In ρ a p b) (h2:In ρ c q d):In ρ (cLo .add a b c d) (.add p q) (cHi .add a b c d):=by
 have l:=ph ρ (.add a c) (.add a d) (.add b c) (.add b d)
 have m:=pf ρ (.add a c) (.add a d) (.add b c) (.add b d)
 have l1:(cLo .add a b c d).val ρ≤a.val ρ+c.val ρ:=l.1
 have m1:b.val ρ+d.val ρ≤(cHi .add a b c d).val ρ:=m.2.2.2
 have h1':=h1.1
 have h1'':=h1.2
 have h2':=h2.1
 have h2'':=h2.2
 clear l m h1 h2
 constructor
 ·show _≤p.val ρ+q.val ρ
  grind
 ·show p.val ρ+q.val ρ≤_
  grind
theorem qal {a b c d p q:SE} (h1:In ρ a p b) (h2:In ρ c q d):In ρ (cLo .sub a b c d) (.sub p q) (cHi .sub a b c d):=by
 have l:=ph ρ (.sub a c) (.sub a d) (.sub b c) (.sub b d)
 have m:=pf ρ (.sub a c) (.sub a d) (.sub b c) (.sub b d)
 have l1:(cLo .sub a b c d).val ρ≤a.val ρ-d.val ρ:=l.2.1
 have m1:b.val ρ-c.val ρ≤(cHi .sub a b c d).val ρ:=m.2.2.1
 have h1':=h1.1
 have h1'':=h1.2
 have h2':=h2.1
 have h2'':=h2.2
 clear l m h1 h2
 constructor
 ·show _≤p.val ρ-q.val ρ
  grind
 ·show p.val ρ-q.val ρ≤_
  grind
theorem qah {a b c d p q:SE} (h1:In ρ a p b) (h2:In ρ c q d):In ρ (cLo .mul a b c d) (.mul p q) (cHi .mul a b c d):=by
 have l:=ph ρ (.mul a c) (.mul a d) (.mul b c) (.mul b d)
 have m:=pf ρ (.mul a c) (.mul a d) (.mul b c) (.mul b d)
 exact C1 h1.1 h1.2 h2.1 h2.2 l.1 l.2.1 l.2.2.1 l.2.2.2 m.1 m.2.1 m.2.2.1 m.2.2.2
theorem qai {a b p:SE} (h:In ρ a p b):In ρ (.neg b) (.neg p) (.neg a):=by
 obtain⟨h1,h2⟩:=h
 constructor
 ·show -(b.val ρ)≤-(p.val ρ)
  grind
 ·show -(p.val ρ)≤-(a.val ρ)
  grind
theorem qak {a b p:SE} (h:In ρ a p b):In ρ (.bin 2 a b) (.mul p p) (.bin 3 a b):=qaG h.1 h.2
theorem qaj {a b i n:Nat} (hn:n≤255) (e:ρ (1000+i)=((n:Int):Rat)) (h:ρ a≤ρ b):In ρ (.v a) (qaO a b i) (.v b):=by
 have:=yF hn h
 rw[←e] at this
 exact this
theorem qac (a b:Rat):0≤bP 2 a b:=by
 show 0≤(if a≤0∧0≤b then 0 else if a*a≤b*b then a*a else b*b)
 have:=qaJ a
 have:=qaJ b
 split
 ·exact Rat.le_refl
 ·split<;>assumption
theorem qad (a b:Rat):0≤bP 3 a b:=by
 show 0≤(if a*a≤b*b then b*b else a*a)
 have:=qaJ a
 have:=qaJ b
 split<;>assumption
theorem qao {p q r s:SE} (h1:0≤p.val ρ) (h2:0≤q.val ρ) (h3:0≤r.val ρ) (h4:0≤s.val ρ):0≤(lo4 p q r s).val ρ:=by
 have key:∀ x y:Rat,0≤x→0≤y→0≤bP 0 x y:=fun x y hx hy=>by
  show 0≤(if x≤y then x else y)
  split<;>assumption
 exact key _ _ (key _ _ (key _ _ h1 h2) h3) h4
theorem qaz:0≤nLo.val ρ:=by
 have a1:=qac (ρ 0) (ρ 1)
 have a2:=qad (ρ 0) (ρ 1)
 have a3:=qac (ρ 2) (ρ 3)
 have a4:=qad (ρ 2) (ρ 3)
 refine qao ?_ ?_ ?_ ?_
 ·show 0≤bP 2 (ρ 0) (ρ 1)+bP 2 (ρ 2) (ρ 3)
  grind
 ·show 0≤bP 2 (ρ 0) (ρ 1)+bP 3 (ρ 2) (ρ 3)
  grind
 ·show 0≤bP 3 (ρ 0) (ρ 1)+bP 2 (ρ 2) (ρ 3)
  grind
 ·show 0≤bP 3 (ρ 0) (ρ 1)+bP 3 (ρ 2) (ρ 3)
  grind
theorem qaa {l m:List (SE × SE)} (h1:∀ e∈l,e.1.val ρ≤e.2.val ρ) (h2:∀ e∈m,e.1.val ρ≤e.2.val ρ):∀ e∈l++m,e.1.val ρ≤e.2.val ρ:=fun e he=>(List.mem_append.1 he).elim (h1 e) (h2 e)
theorem qam {n:Nat→Nat} (hn:∀ i,n i≤255) (e:∀ i,i<4→ρ (1000+i)=((n i:Int):Rat)) (h0:ρ 0≤ρ 1) (h1:ρ 2≤ρ 3) (h2:ρ 4≤ρ 5) (h3:ρ 6≤ρ 7):∀ e∈leM,e.1.val ρ≤e.2.val ρ:=by
 have u:In ρ (.v 0) mU (.v 1):=qaj (hn 0) (e 0 (by decide)) h0
 have v:In ρ (.v 2) qat (.v 3):=qaj (hn 2) (e 2 (by decide)) h1
 have x:In ρ (.v 4) qau (.v 5):=qaj (hn 1) (e 1 (by decide)) h2
 have y:In ρ (.v 6) qav (.v 7):=qaj (hn 3) (e 3 (by decide)) h3
 refine qaa ?_ (qaa (qae (qag u x)) (qaa (qae (qag v y)) (qaa (qae (qal (qah u x) (qah v y))) (qaa (qae (qag (qah u y) (qah v x))) (qaa (qae u) (qaa (qae (qai v)) (qae (qag (qak u) (qak v)))))))))
 intro e he
 simp only[qab,List.mem_cons,List.not_mem_nil,or_false] at he
 rcases he with rfl|rfl|rfl|rfl
 ·exact h0
 ·exact h1
 ·exact h2
 ·exact h3
end
end Go.Sx.Seat
namespace Go.Sx.Seat
open Go Go.Sx Go.Proofs Go.RowKit LimbNum DigNum
theorem qay {σ:Nat→ByteArray} (hs:∀ i,(σ i).size≤9223372036854775807) {p:List Nat} (hp:∀ x∈p,x≤255):Yields Tryz.prog (fS 5 8 σ p) σ 5 qaw (.bool true):=by
 have hrun:=runX (fS 5 8 σ p) σ
 have K:∀ T,TOK (fS 5 8 σ p) σ T→T∈qaM→Yields Tryz.prog (fS 5 8 σ p) σ 5 qaw (.bool true):=by
  intro T hT hm
  refine leaf (E:=ES L4) (bY.one hT) mixed (fun _=>dJ) (fun _=>dC) (fun U T hT=>@vK U _ _ _ _ (@bN U) (l4 U _ _ T hT)) (fun fn h=>qR (by kernel_rfl) h) (fuel:=1000) (d:=60) ?_
  rw[List.all_cons,List.all_nil,Bool.and_true]
  exact List.all_eq_true.1 hrun T hm
 clear hrun
 have hn:∀ i,p.getD i 0≤255:=fun i=>by
  rw[List.getD_eq_getElem?_getD]
  cases h:p[i]? with
  | none=>simp
  | some x=>exact hp x (List.mem_of_getElem? h)
 have he:∀ i,i<4→fS 5 8 σ p (1000+i)=(((p.getD i 0:Nat):Int):Rat):=fun i _=>by
  unfold fS
  rw[if_neg (by omega),if_neg (by omega),Nat.add_sub_cancel_left]
 have key:∀ (y m:Nat) (c:qO),y≤8→(∀ i,i<y→Few (σ i) 5)→(∀ i,i<m→¬Few (σ (y+i)) 5)→fp (fS 5 8 σ p) c→TOK (fS 5 8 σ p) σ (tr 5 (List.range y) ((List.range m).map (y + ·)) c):=fun y m c hy h1 h2 h3=>
  tokL (by decide) hs hp (fun i hi=>⟨by have:=List.mem_range.1 hi;omega,h1 i (List.mem_range.1 hi)⟩) (fun i hi=>by
   obtain⟨j,hj,rfl⟩:=List.mem_map.1 hi
   exact h2 j (List.mem_range.1 hj)) h3
 have le_of:∀ l:List (SE × SE),(∀ x∈l,x.1.val (fS 5 8 σ p)≤x.2.val (fS 5 8 σ p))→fp (fS 5 8 σ p) ([],l):=fun l hl=>⟨fun x h=>(by cases h),hl⟩
 have bad:∀ (y:Nat) (l:List (SE × SE)),y<8→(∀ i,i<y→Few (σ i) 5)→¬Few (σ y) 5→(∀ x∈l,x.1.val (fS 5 8 σ p)≤x.2.val (fS 5 8 σ p))→tr 5 (List.range y) [y] ([],l)∈qaM→Yields Tryz.prog (fS 5 8 σ p) σ 5 qaw (.bool true):=fun y l hy h1 h2 hl hm=>
  K _ (key y 1 _ (by omega) h1 (fun i hi=>by rw[show i=0 by omega];exact h2) (le_of l hl)) (by simpa using hm)
 have ord:∀ (y a b:Nat) (l:List (SE × SE)),y≤8→(∀ i,i<y→Few (σ i) 5)→¬fS 5 8 σ p a≤fS 5 8 σ p b→(∀ x∈l,x.1.val (fS 5 8 σ p)≤x.2.val (fS 5 8 σ p))→tr 5 (List.range y) [] ([(.v b,.v a,-1)],l)∈qaM→Yields Tryz.prog (fS 5 8 σ p) σ 5 qaw (.bool true):=fun y a b l hy h1 h2 hl hm=>
  K _ (key y 0 _ hy h1 (fun i hi=>absurd hi (Nat.not_lt_zero i)) (yA (a:=.v b) (b:=.v a) (cL.2 (Rat.not_le.1 h2)) hl)) hm
 have c0:∀ x∈([]:List (SE × SE)),x.1.val (fS 5 8 σ p)≤x.2.val (fS 5 8 σ p):=fun x h=>by cases h
 have cons:∀ (a b:SE) (l:List (SE × SE)),a.val (fS 5 8 σ p)≤b.val (fS 5 8 σ p)→(∀ x∈l,x.1.val (fS 5 8 σ p)≤x.2.val (fS 5 8 σ p))→∀ x∈(a,b)::l,x.1.val (fS 5 8 σ p)≤x.2.val (fS 5 8 σ p):=fun a b l h hl x hx=>by
  rcases List.mem_cons.1 hx with rfl|hx
  ·exact h
  ·exact hl x hx
 have up:∀ y,(∀ i,i<y→Few (σ i) 5)→Few (σ y) 5→∀ i,i<y+1→Few (σ i) 5:=fun y h1 h2 i hi=>by
  rcases Nat.lt_or_ge i y with h|h
  ·exact h1 i h
  ·rw[show i=y by omega];exact h2
 have f0:∀ i,i<0→Few (σ i) 5:=fun i h=>absurd h (Nat.not_lt_zero i)
 by_cases h0:Few (σ 0) 5
 case neg=>exact bad 0 [] (by decide) f0 h0 c0 (by simp[qaM])
 have f1:=up 0 f0 h0
 by_cases h1:Few (σ 1) 5
 case neg=>exact bad 1 [] (by decide) f1 h1 c0 (by simp[qaM,List.range_succ])
 have f2:=up 1 f1 h1
 by_cases a0:fS 5 8 σ p 0≤fS 5 8 σ p 1
 case neg=>exact ord 2 0 1 [] (by decide) f2 a0 c0 (by simp[qaM,List.range_succ])
 have l1:=cons (.v 0) (.v 1) [] a0 c0
 by_cases h2:Few (σ 2) 5
 case neg=>exact bad 2 _ (by decide) f2 h2 l1 (by simp[qaM,List.range_succ])
 have f3:=up 2 f2 h2
 by_cases h3:Few (σ 3) 5
 case neg=>exact bad 3 _ (by decide) f3 h3 l1 (by simp[qaM,List.range_succ])
 have f4:=up 3 f3 h3
 by_cases a1:fS 5 8 σ p 2≤fS 5 8 σ p 3
 case neg=>exact ord 4 2 3 _ (by decide) f4 a1 l1 (by simp[qaM,List.range_succ])
 have l2:=cons (.v 0) (.v 1) _ a0 (cons (.v 2) (.v 3) [] a1 c0)
 by_cases h4:Few (σ 4) 5
 case neg=>exact bad 4 _ (by decide) f4 h4 l2 (by simp[qaM,List.range_succ])
 have f5:=up 4 f4 h4
 by_cases h5:Few (σ 5) 5
 case neg=>exact bad 5 _ (by decide) f5 h5 l2 (by simp[qaM,List.range_succ])
 have f6:=up 5 f5 h5
 by_cases a2:fS 5 8 σ p 4≤fS 5 8 σ p 5
 case neg=>exact ord 6 4 5 _ (by decide) f6 a2 l2 (by simp[qaM,List.range_succ])
 have l3:=cons (.v 0) (.v 1) _ a0 (cons (.v 2) (.v 3) _ a1 (cons (.v 4) (.v 5) [] a2 c0))
 by_cases h6:Few (σ 6) 5
 case neg=>exact bad 6 _ (by decide) f6 h6 l3 (by simp[qaM,List.range_succ])
 have f7:=up 6 f6 h6
 by_cases h7:Few (σ 7) 5
 case neg=>exact bad 7 _ (by decide) f7 h7 l3 (by simp[qaM,List.range_succ])
 have f8:=up 7 f7 h7
 by_cases a3:fS 5 8 σ p 6≤fS 5 8 σ p 7
 case neg=>exact ord 8 6 7 _ (by decide) f8 a3 l3 (by simp[qaM,List.range_succ])
 have hl:=qam (ρ:=fS 5 8 σ p) (n:=fun i=>p.getD i 0) hn he a0 a1 a2 a3
 have hnn:=qaz (ρ:=fS 5 8 σ p)
 rcases dI (nLo.val (fS 5 8 σ p)) ((SE.int 0).val (fS 5 8 σ p)) with g|g|g
 ·exact absurd (cL.1 g) (by rw[←Rat.not_le];exact fun h=>h hnn)
 ·exact K _ (key 8 0 _ (by decide) f8 (fun i hi=>absurd hi (Nat.not_lt_zero i)) (yA g hl)) (by simp[qaM,List.range_succ])
 ·exact K _ (key 8 0 _ (by decide) f8 (fun i hi=>absurd hi (Nat.not_lt_zero i)) (yA g hl)) (by simp[qaM,List.range_succ])
end Go.Sx.Seat
namespace Go.Sx.Seat
open Go Go.Sx Go.Proofs Go.RowKit LimbNum DigNum
theorem qax (s:List ByteArray) (hs:∀ x∈s,x.size≤9223372036854775807) (p:List Nat) (hp:∀ x∈p,x≤255) (w:World) (ht:Bc w) :
  Calls Tryz.prog 5 #[.agg #[.string (sig s 0),.string (sig s 1),.string (sig s 2),.string (sig s 3)],.agg #[.string (sig s 4),.string (sig s 5),.string (sig s 6),.string (sig s 7)],
   .agg #[.int .u8 (p.getD 0 0:Nat),.int .u8 (p.getD 1 0:Nat),.int .u8 (p.getD 2 0:Nat),.int .u8 (p.getD 3 0:Nat)]] w fun e w'=>e=.returned (.bool true)∧Below w.heap.size w w':=by
 have hz:∀ i,(sig s i).size≤9223372036854775807:=fun i=>by
  unfold sig
  rw[List.getD_eq_getElem?_getD]
  cases h:s[i]? with
  | none=>exact Nat.zero_le _
  | some x=>exact hs x (List.mem_of_getElem? h)
 have hn:∀ i,p.getD i 0≤255:=fun i=>by
  rw[List.getD_eq_getElem?_getD]
  cases h:p[i]? with
  | none=>simp
  | some x=>exact hp x (List.mem_of_getElem? h)
 obtain⟨U,T,hT,H⟩:=qay hz hp
 have hst:∀ i,@RV U (fun _=>none) w (.sym (.st i)) (.string (sig s i)):=fun i=>by
  rw[@RV.eq_def U];simp only;rw[@Sem.is U _ _ _ hT];rfl
 have hsi:∀ i,i<4→@RV U (fun _=>none) w (.sym (.si i)) (.int .u8 (p.getD i 0:Nat)):=fun i hi=>by
  rw[@RV.eq_def U];simp only;rw[@Sem.is U _ _ _ hT]
  unfold nB
  simp only
  rw[show Nat.blt i 500=true from Nat.ble_eq_true_of_le (by omega)]
  refine ⟨_,hn i,rfl,?_⟩
  unfold fS
  rw[if_neg (by omega),if_neg (by omega),Nat.add_sub_cancel_left]
 have four:∀ (a b c d:AV) (x y z t:Value),@RV U (fun _=>none) w a x→@RV U (fun _=>none) w b y→@RV U (fun _=>none) w c z→@RV U (fun _=>none) w d t→@RV U (fun _=>none) w (.agg [a,b,c,d]) (.agg #[x,y,z,t]):=fun a b c d x y z t h1 h2 h3 h4=>by
  rw[@RV.eq_def U]
  refine ⟨[_,_,_,_],rfl,?_⟩
  rw[@RVs.eq_def U];refine ⟨_,_,rfl,h1,?_⟩
  rw[@RVs.eq_def U];refine ⟨_,_,rfl,h2,?_⟩
  rw[@RVs.eq_def U];refine ⟨_,_,rfl,h3,?_⟩
  rw[@RVs.eq_def U];exact⟨_,_,rfl,h4,by rw[@RVs.eq_def U]⟩
 refine (H w [_,_,_] ht (by
  unfold qaw
  rw[@RVs.eq_def U];refine ⟨_,_,rfl,four _ _ _ _ _ _ _ _ (hst 0) (hst 1) (hst 2) (hst 3),?_⟩
  rw[@RVs.eq_def U];refine ⟨_,_,rfl,four _ _ _ _ _ _ _ _ (hst 4) (hst 5) (hst 6) (hst 7),?_⟩
  rw[@RVs.eq_def U];exact⟨_,_,rfl,four _ _ _ _ _ _ _ _ (hsi 0 (by decide)) (hsi 1 (by decide)) (hsi 2 (by decide)) (hsi 3 (by decide)),by rw[@RVs.eq_def U]⟩)).mono ?_
 rintro e w' ⟨v,rfl,g1,g2⟩
 rw[@RV.eq_def U] at g1
 simp only at g1
 subst g1
 exact⟨rfl,g2⟩
end Go.Sx.Seat
