import Derived.StillTailTactics
import Derived.Deep.QuietTactic
import Derived.BigQuiet
import Derived.Test.YtjbcmmaniphkkaaGreatDoorDig
import Derived.Test.YtjbcmmaniphkkaaGreatDoorL8
set_option linter.unusedSectionVars false
set_option linter.unusedVariables false
set_option linter.unusedSimpArgs false
set_option maxRecDepth 100000
set_option maxHeartbeats 1000000
namespace Go.Proofs.YtjbcmmaniphkkaaGreatDoor.D
open Go.RowKit DigNum
theorem ar {w w':World} (h:Kept w w') (q:Nat):Kept w (w'.drewN q):=h.trans ⟨rfl,rfl,rfl,K6 _,fun _ _=>rfl⟩
theorem Tryz.fM:(Tryz.prog.info? 3).map (fun i=>(i.zero,i.size,i.bytes))=some (some (.int .i64 0),1,8):=by kernel_rfl
def cQ (w:World) (a:Option Addr) (xs:List Nat):Prop:=
 (a=none∧xs=[])∨∃ b off,a=some ⟨b,off,none⟩∧b<w.heap.size∧∀ i,i<xs.length→w.cell? ⟨b,off+i,none⟩=some (.int .i64 ((xs.getD i 0:Nat):Int))
theorem cQ.kept {w w':World} {a:Option Addr} {xs:List Nat} (h:cQ w a xs) (k:Kept w w'):cQ w' a xs:=by
 rcases h with h|⟨b,off,rfl,hb,hc⟩
 ·exact .inl h
 ·exact .inr ⟨b,off,rfl,Nat.lt_of_lt_of_le hb k.size,fun i hi=>(k.cell (p:=⟨b,off+i,none⟩) hb).trans (hc i hi)⟩
theorem cQ.below {w w':World} {a:Option Addr} {xs:List Nat} {N:Nat} (h:cQ w a xs) (hn:w.heap.size≤N) (k:Below N w w'):cQ w' a xs:=h.kept (k.mono hn)
def Lim (w:World) (v:Value) (n:Nat):Prop:=
 ∃ a c,v=.slice a (size n) c∧size n≤c∧cQ w a (ai n)
theorem Lim.kept {w w':World} {v:Value} {n:Nat} (h:Lim w v n) (k:Kept w w'):Lim w' v n:=by
 obtain⟨a,c,rfl,hc,hr⟩:=h
 exact⟨a,c,rfl,hc,hr.kept k⟩
theorem Lim.fe (w:World):Lim w (.slice none 0 0) 0:=⟨none,0,rfl,K6 _,.inl ⟨rfl,bc⟩⟩
def cellsOf (xs:List Nat):List Value:=xs.map fun (x:Nat)=>Value.int .i64 (x:Int)
theorem eV {xs:List Nat} {i:Nat} (h:i<xs.length):(cellsOf xs)[i]?=some (.int .i64 ((xs.getD i 0:Nat):Int)):=by
 simp[cellsOf,h]
theorem jk (xs:List Nat) (i v:Nat):(cellsOf xs).set i (.int .i64 (v:Int))=cellsOf (xs.set i v):=by
 simp[cellsOf,List.map_set]
theorem aQ (n:Nat):(madeCells (Value.int .i64 0).cells (n*1)).toList=cellsOf (List.replicate n 0):=by
 rw[Nat.mul_one]
 have:=toList_madeCells_one (.int .i64 0) n
 rw[show (Value.int .i64 0).cells = #[Value.int .i64 0] from rfl,this]
 simp[cellsOf]
def Own (w:World) (B:Nat) (g n:Nat) (xs:List Nat):Prop:=
 xs.length=n∧w.ownsRow B 3 1 (.slice (some ⟨g,0,none⟩) n n) n (cellsOf xs)
theorem Own.cell {w:World} {B g n:Nat} {xs:List Nat} (h:Own w B g n xs) {i:Nat} (hi:i<n):w.cell? ⟨g,i,none⟩=some (.int .i64 ((xs.getD i 0:Nat):Int)):=by
 rw[h.2.cellAt i (by omega),eV (by rw[h.1];exact hi)]
theorem Own.free {w:World} {B g n:Nat} {xs:List Nat} (h:Own w B g n xs) (i:Nat):w.frozen? ⟨g,i,none⟩=false:=h.2.frozenAt i
theorem Own.set {w:World} {B g n:Nat} {xs:List Nat} (h:Own w B g n xs) (i v:Nat):Own (w.setCell ⟨g,i,none⟩ (.int .i64 (v:Int))) B g n (xs.set i v):=by
 refine ⟨by simp[h.1],?_⟩
 have:=(h.2.stored i (.int .i64 (v:Int))).1
 rwa [jk] at this
theorem Own.lt {w:World} {B g n:Nat} {xs:List Nat} (h:Own w B g n xs):g<w.heap.size∧B≤g:=by
 rcases h.2.2 with ⟨h',_⟩|⟨g',cap',cur,h',hb,hg,_⟩
 ·simp at h'
 ·simp only[Value.slice.injEq,K5,Addr.mk.injEq,and_true,true_and] at h'
  obtain⟨rfl,rfl⟩:=h'
  exact⟨by rcases Nat.lt_or_ge g w.heap.size with h|h;exact h;simp[h] at hg,hb⟩
theorem Own.row {w:World} {B g n:Nat} {xs:List Nat} (h:Own w B g n xs):cQ w (some ⟨g,0,none⟩) xs:=
 .inr ⟨g,0,rfl,h.lt.1,fun i hi=>by rw[Nat.zero_add];exact h.cell (by rw[←h.1];exact hi)⟩
theorem Own.drewN {w:World} {B g n:Nat} {xs:List Nat} (h:Own w B g n xs) (q:Nat):Own (w.drewN q) B g n xs:=h
theorem kE (va vb:Option Addr) (la lb ca cb:Nat) (w:World) (hne:la≠lb) :
  Calls Tryz.prog 220 #[.slice va la ca,.slice vb lb cb] w fun e w'=>e=.returned (.int .i64 (ord la lb))∧w=w':=by
 by_cases hlt:la<lb
 ·have hs:ord la lb = -1:=by simp[ord,hlt]
  rw[hs]
  clear hs
  go_enter Tryz.func220,Tryz.ntmps220
  go_wp2
  go_ret
  exact⟨rfl,rfl⟩
 ·have hs:ord la lb=1:=by simp[ord,hlt];omega
  rw[hs]
  clear hs
  have hgt:lb<la:=by omega
  go_enter Tryz.func220,Tryz.ntmps220
  go_wp2
  go_ret
  exact⟨rfl,rfl⟩
theorem qi {xs ys:List Nat} (hx:Fit xs) (hy:Fit ys) (hl:xs.length=ys.length) {k:Nat} (hk:k<xs.length) (he:∀ t,k<t→t<xs.length→xs.getD t 0=ys.getD t 0) :
  (xs.getD k 0<ys.getD k 0→ord (val xs) (val ys) = -1)∧(ys.getD k 0<xs.getD k 0→ord (val xs) (val ys)=1):=by
 constructor
 ·intro h
  have:=jn hx hl hk he h
  simp[ord,this]
 ·intro h
  have:=jn hy hl.symm (by omega) (fun t h1 h2=>(he t h1 (by omega)).symm) h
  simp[ord,this];omega
theorem kF (b1 o1 b2 o2 n ca cb:Nat) (xs ys:List Nat) (w:World) (hlx:xs.length=n) (hly:ys.length=n) (hm:n≤1073741824) (hfx:Fit xs) (hfy:Fit ys)
  (hca:∀ i,i<n→w.cell? ⟨b1,o1+i,none⟩=some (.int .i64 ((xs.getD i 0:Nat):Int)))
  (hcb:∀ i,i<n→w.cell? ⟨b2,o2+i,none⟩=some (.int .i64 ((ys.getD i 0:Nat):Int))) :
  Calls Tryz.prog 220 #[.slice (some ⟨b1,o1,none⟩) n ca,.slice (some ⟨b2,o2,none⟩) n cb] w fun e w'=>e=.returned (.int .i64 (ord (val xs) (val ys)))∧∃ q,w'=w.drewN q:=by
 go_enter Tryz.func220,Tryz.ntmps220
 go_wp2
 go_loopw [5] (fun i wr=>∃ k:Nat,k≤n∧i=.int .i64 ((k:Int)-1)∧(∀ t,k≤t→t<n→xs.getD t 0=ys.getD t 0)∧∃ q,wr=w.drewN q) (fun i _=>(intOf i+1).toNat)
 case atStart=>exact⟨n,K6 _,rfl,fun t h1 h2=>by omega,0,rfl⟩
 case round=>
  obtain⟨k,hk,rfl,hsame,q,rfl⟩:=hrel
  by_cases hk0:k=0
  ·subst hk0
   have Hs:=K7 hsame
   clear hsame hca hcb
   rw[show ((0:Nat):Int)-1 = -1 from rfl]
   go_wp2
   go_ret
   refine ⟨?_,q,rfl⟩
   have e:xs=ys:=by
    apply List.ext_getElem
    ·rw[hlx,hly]
    ·intro t h1 h2
     have:=Hs.out t (Nat.zero_le _) (by omega)
     rwa [bf h1,bf h2] at this
   rw[e,show ord (val ys) (val ys)=0 by simp[ord]]
   rfl
  ·obtain⟨j,rfl⟩:∃ j,k=j+1:=⟨k-1,by omega⟩
   rw[show ((j+1:Nat):Int)-1=(j:Int) by omega]
   have ca:=hca j (by omega)
   have cb':=hcb j (by omega)
   have ho:=qi hfx hfy (by omega) (k:=j) (by omega) (fun t h1 h2=>hsame t (by omega) (by omega))
   have hs2:xs.getD j 0=ys.getD j 0→∀ t,j≤t→t<n→xs.getD t 0=ys.getD t 0:=by
    intro h t h1 h2
    by_cases e:t=j
    ·subst e;exact h
    ·exact hsame t (by omega) h2
   clear hsame hca hcb hlx hly
   generalize xs.getD j 0=x at *
   generalize ys.getD j 0=y at *
   rcases Nat.lt_trichotomy x y with hxy|hxy|hxy
   ·have Ho:=K7 (ho.1 hxy)
    clear ho hs2
    go_wp2
    go_quiet (fail)
    go_wp2
    go_ret
    rw[Ho.out]
    simp only[World.drewN_drewN]
    exact⟨rfl,_,rfl⟩
   ·have Hs:=K7 (hs2 hxy)
    clear ho hs2
    subst hxy
    have hirr:¬x<x:=Nat.lt_irrefl x
    go_wp2
    go_quiet (fail)
    go_wp2
    go_quiet (fail)
    go_wp2
    go_roundw
    case rel=>exact⟨j,by omega,by go_num,Hs.out,by first|exact⟨_,rfl⟩|(simp only[World.drewN_drewN];exact⟨_,rfl⟩)⟩
    case measure=>simp[intOf]
   ·have Ho:=K7 (ho.2 hxy)
    clear ho hs2
    have hnlt:¬x<y:=by omega
    go_wp2
    go_quiet (fail)
    go_wp2
    go_quiet (fail)
    go_wp2
    go_ret
    rw[Ho.out]
    simp only[World.drewN_drewN]
    exact⟨rfl,_,rfl⟩
theorem qj {x y:Nat} (h:size x≠size y):ord (size x) (size y)=ord x y:=by
 unfold ord
 rcases Nat.lt_or_ge (size x) (size y) with h1|h1
 ·rw[if_pos h1,if_pos (lF h1)]
 ·have h2:size y<size x:=by omega
  have h3:=lF h2
  rw[if_neg (by omega),if_pos h2,if_neg (by omega),if_pos h3]
theorem fJ (va vb:Option Addr) (ca cb:Nat) (w:World) :
  Calls Tryz.prog 220 #[.slice va 0 ca,.slice vb 0 cb] w fun e w'=>e=.returned (.int .i64 0)∧w=w':=by
 go_enter Tryz.func220,Tryz.ntmps220
 go_wp2
 go_loop [5] (fun i=>i=.int .i64 (-1)) (fun _=>0)
 case atStart=>exact rfl
 case round=>
  obtain rfl:=hrel
  go_wp2
  go_ret
  exact⟨rfl,rfl⟩
theorem lG (va vb:Value) (x y:Nat) (w:World) (ha:Lim w va x) (hb:Lim w vb y) (hx:size x≤1073741824) :
  Calls Tryz.prog 220 #[va,vb] w fun e w'=>e=.returned (.int .i64 (ord x y))∧∃ q,w'=w.drewN q:=by
 obtain⟨a1,c1,rfl,_,hr1⟩:=ha
 obtain⟨a2,c2,rfl,_,hr2⟩:=hb
 by_cases hs:size x=size y
 ·rcases hr1 with ⟨rfl,h1⟩|⟨b1,o1,rfl,hb1,hc1⟩
  ·obtain rfl:x=0:=aF.1 h1
   obtain rfl:y=0:=by
    have:=bW
    by_cases h0:y=0
    ·exact h0
    ·have:=DigNum.size_pos.2 h0;omega
   refine (fJ none a2 c1 c2 w).mono ?_
   rintro e w' ⟨rfl,rfl⟩
   exact⟨rfl,0,rfl⟩
  ·rcases hr2 with ⟨rfl,h2⟩|⟨b2,o2,rfl,hb2,hc2⟩
   ·obtain rfl:y=0:=aF.1 h2
    obtain rfl:x=0:=by
     have:=bW
     by_cases h0:x=0
     ·exact h0
     ·have:=DigNum.size_pos.2 h0;omega
    refine (fJ _ none c1 c2 w).mono ?_
    rintro e w' ⟨rfl,rfl⟩
    exact⟨rfl,0,rfl⟩
   ·have:=kF b1 o1 b2 o2 (size x) c1 c2 (ai x) (ai y) w rfl hs.symm hx (ao _) (ao _) hc1 (fun i hi=>hc2 i (by rw[show (ai y).length=(ai x).length from hs.symm];exact hi))
    rw[au,au] at this
    rw[←hs]
    exact this
 ·refine (kE a1 a2 (size x) (size y) c1 c2 w hs).mono ?_
  rintro e w' ⟨rfl,rfl⟩
  exact⟨by rw[qj hs],0,rfl⟩
def Row (w:World) (v:Value) (xs:List Nat):Prop:=∃ a c,v=.slice a xs.length c∧xs.length≤c∧cQ w a xs
theorem Row.kept {w w':World} {v:Value} {xs:List Nat} (h:Row w v xs) (k:Kept w w'):Row w' v xs:=by
 obtain⟨a,c,rfl,hc,hr⟩:=h
 exact⟨a,c,rfl,hc,hr.kept k⟩
theorem Lim.row {w:World} {v:Value} {n:Nat} (h:Lim w v n):Row w v (ai n):=h
theorem Row.lim {w:World} {v:Value} {n:Nat} (h:Row w v (ai n)):Lim w v n:=h
theorem cQ.cases {w:World} {a:Option Addr} {xs:List Nat} (h:cQ w a xs):(a=none∧xs=[])∨∃ b off,a=some ⟨b,off,none⟩∧b<w.heap.size∧∀ i,i<xs.length→w.cell? ⟨b,off+i,none⟩=some (.int .i64 ((xs.getD i 0:Nat):Int)):=h
theorem Row.opened {w:World} {v:Value} {xs:List Nat} (h:Row w v xs):∃ a c,v=.slice a xs.length c∧xs.length≤c∧(0<xs.length→∃ b off,a=some ⟨b,off,none⟩∧b<w.heap.size∧∀ i,i<xs.length→w.cell? ⟨b,off+i,none⟩=some (.int .i64 ((xs.getD i 0:Nat):Int))):=by
 obtain⟨a,c,rfl,hc,r⟩:=h
 rcases r with ⟨rfl,rfl⟩|⟨b,off,rfl,h1,h2⟩
 ·exact⟨none,c,rfl,hc,fun h=>absurd h (by simp)⟩
 ·exact⟨_,c,rfl,hc,fun _=>⟨b,off,rfl,h1,h2⟩⟩
theorem Row.pre {w:World} {b off c k:Nat} {xs:List Nat} (hb:b<w.heap.size) (hk:k≤xs.length) (hc:xs.length≤c)
  (h:∀ (i:Nat),i<xs.length→w.cell? ⟨b,off+i,none⟩=some (.int .i64 ((xs.getD i 0:Nat):Int))):Row w (.slice (some ⟨b,off,none⟩) k c) (xs.take k):=by
 have hl:(xs.take k).length=k:=by rw[List.length_take];omega
 refine ⟨_,c,by rw[hl],by rw[hl];omega,.inr ⟨b,off,rfl,hb,fun i hi=>?_⟩⟩
 rw[hl] at hi
 rw[h i (by omega),List.getD_eq_getElem?_getD,List.getD_eq_getElem?_getD,List.getElem?_take,if_pos hi]
theorem EZ (v:Value) (xs:List Nat) (w:World) (ha:Row w v xs) (hx:xs.length≤1099511627776) :
  Calls Tryz.prog 222 #[v] w fun e w'=>∃ v',e=.returned v'∧Row w' v' (xs.take (bn xs))∧Kept w w':=by
 obtain⟨a1,c1,rfl,hlc,r1⟩:=id ha
 rcases r1 with ⟨rfl,rfl⟩|⟨b1,off,rfl,hb1,hc1⟩
 ·have hr:=K7 fun w' (hk:Kept w w')=>ha.kept hk
  clear ha
  go_enter Tryz.func222,Tryz.ntmps222
  go_wp2
  refine wp_loop_rounds 1 ?_
  rw[rounds_succ]
  go_wp2
  go_ret
  exact⟨_,rfl,hr.out _ (Below.refl _ _),Below.refl _ _⟩
 ·have ht:=eh xs
  have T1:=K7 fun n h=>@ld xs n h
  have T2:=K7 fun n h=>@lh xs n h
  have Tk:=K7 fun w' (hk:Kept w w')=>@Row.pre w' b1 off c1 (bn xs) xs (Nat.lt_of_lt_of_le hb1 hk.size) ht hlc (fun i hi=>(hk.cell (p:=⟨b1,off+i,none⟩) hb1).trans (hc1 i hi))
  generalize xs.take (bn xs)=res at *
  generalize hn:xs.length=n at *
  clear ha hn
  go_enter Tryz.func222,Tryz.ntmps222
  go_wp2
  go_loopw [0] (fun s wr=>∃ k:Nat,k≤n∧bn xs≤k∧s=.slice (some ⟨b1,off,none⟩) k c1∧Kept w wr) (fun s _=>match s with | .slice _ k _=>k|_=>0)
  case atStart=>exact⟨n,K6 _,ht,rfl,Below.refl _ _⟩
  case round=>
   obtain⟨k,hk,htk,rfl,hbel⟩:=hrel
   by_cases hk0:k=0
   ·have e0:bn xs=k:=by omega
    rw[e0] at Tk
    go_wp2
    go_ret
    exact⟨_,rfl,Tk.out _ hbel,hbel⟩
   ·have hx1:=(hbel.cell (p:=⟨b1,off+(k-1),none⟩) hb1).trans (hc1 (k-1) (by omega))
    have hw:IntKind.i64.wrap ((k:Int)-1)=((k-1:Nat):Int):=by rw[IntWalk.i64_in _ (by omega)];omega
    by_cases hz:xs.getD (k-1) 0=0
    ·have hs:=T1.out k (by omega) hk hz htk
     rw[hz] at hx1
     have Hs:=K7 hs
     clear hc1 hz hs
     go_wp2
     go_roundw
     case rel=>exact⟨k-1,by omega,Hs.out,rfl,hbel⟩
     case measure=>simp;omega
    ·have hs:=T2.out k (by omega) hk hz htk
     have hb:((((xs.getD (k-1) 0:Nat):Int))==0)=false:=by rw[beq_eq_false_iff_ne];omega
     rw[hs] at Tk
     generalize xs.getD (k-1) 0=z at *
     clear hc1 hz hs htk ht
     go_wp2
     go_ret
     exact⟨_,rfl,Tk.out _ hbel,hbel⟩
theorem fV (v:Value) (xs:List Nat) (w:World) (ha:Row w v xs) (hf:Fit xs) (hx:xs.length≤1099511627776) :
  Calls Tryz.prog 222 #[v] w fun e w'=>∃ v',e=.returned v'∧Lim w' v' (val xs)∧Kept w w':=by
 have:=EZ v xs w ha hx
 rwa [mw hf] at this
theorem mK (v:Value) (xs:List Nat) (i:Nat) (w:World) (ha:Row w v xs) (hx:xs.length≤1099511627776) :
  Calls Tryz.prog 251 #[v,.int .i64 i] w fun e w'=>e=.returned (.int .i64 ((xs.getD i 0:Nat):Int))∧w'=w:=by
 obtain⟨a1,c1,rfl,hlc,r1⟩:=ha
 by_cases hi:i<xs.length
 ·rcases r1 with ⟨rfl,rfl⟩|⟨b1,off,rfl,hb1,hc1⟩
  ·simp at hi
  have hx1:=hc1 i hi
  generalize xs.getD i 0=z at *
  generalize xs.length=n at *
  clear hc1
  go_enter Tryz.func251,Tryz.ntmps251
  go_wp2
  go_ret
  exact⟨rfl,rfl⟩
 ·rw[bD (by omega)]
  generalize xs.length=n at *
  clear r1
  go_enter Tryz.func251,Tryz.ntmps251
  go_wp2
  go_ret
  exact⟨rfl,rfl⟩
def Big (w:World) (v:Value) (n:Int):Prop:=∃ l,v=.agg #[.bool (decide (n<0)),l]∧Lim w l n.natAbs
theorem Big.kept {w w':World} {v:Value} {n:Int} (h:Big w v n) (k:Kept w w'):Big w' v n:=by
 obtain⟨l,rfl,h⟩:=h
 exact⟨l,rfl,h.kept k⟩
theorem wR {w:World} {l:Value} {m:Nat} (s:Bool) (h:Lim w l m):Big w (.agg #[.bool (s&&decide (0<m)),l]) (az s m):=
 ⟨l,by rw[iP],by rw[cT];exact h⟩
theorem im {m:Nat}:0<size m↔0<m:=by rw[DigNum.size_pos];omega
theorem Lim.beside {w w':World} {l:Value} {m b:Nat} {t:TypeId} (h:Lim w l m) (hB:Blk w b t [.bool false,.slice none 0 0]) (hs:w.heap.size≤w'.heap.size)
  (ho:∀ k,k≠b→w'.heap[k]?=w.heap[k]?):Lim w' l m:=by
 obtain⟨a,c,rfl,hc,hr⟩:=h
 refine ⟨a,c,rfl,hc,?_⟩
 rcases hr with hr|⟨b',off,rfl,hb,hcell⟩
 ·exact .inl hr
 ·refine .inr ⟨b',off,rfl,Nat.lt_of_lt_of_le hb hs,fun i hi=>?_⟩
  by_cases hbb:b'=b
  ·exfalso
   subst hbb
   have h1:=hcell i hi
   unfold World.cell? at h1
   rw[hB] at h1
   simp only[Option.isSome_none,Bool.false_eq_true,if_false,List.getElem?_toArray] at h1
   generalize off+i=q at h1
   rcases q with _|_|k<;>simp at h1
  ·rw[World.cell?_of_block (w:=w) (ho b' hbb)]
   exact hcell i hi
theorem aP {w w3:World} {b:Nat} {s:Bool} {l:Value} {n:Int} (hB:Blk w3 b 117 [.bool false,.slice none 0 0]) (hb:w.heap.size≤b) (hk:Kept w w3) (hv:Big w3 (.agg #[.bool s,l]) n) :
  ((w3.setCell ⟨b,0,none⟩ (.bool s)).setCell ⟨b,1,none⟩ l).cell? ⟨b,0,none⟩=some (.bool s) ∧
  ((w3.setCell ⟨b,0,none⟩ (.bool s)).setCell ⟨b,1,none⟩ l).cell? ⟨b,1,none⟩=some l ∧
  Big ((w3.setCell ⟨b,0,none⟩ (.bool s)).setCell ⟨b,1,none⟩ l) (.agg #[.bool s,l]) n∧Kept w ((w3.setCell ⟨b,0,none⟩ (.bool s)).setCell ⟨b,1,none⟩ l):=by
 have hB4:=hB.nA (.bool s) l
 refine ⟨hB4.cell 0 rfl,hB4.cell 1 rfl,?_,(Below.setCell hk hb _).setCell hb _⟩
 obtain⟨l',he,hl⟩:=hv
 refine ⟨l',he,hl.beside hB (by simp[World.setCell]) fun k hk=>?_⟩
 rw[heap_setCell_other _ ⟨b,1,none⟩ k l (by simpa using hk),heap_setCell_other _ ⟨b,0,none⟩ k (.bool s) (by simpa using hk)]
theorem Big.int {w:World} {s:Bool} {l:Value} {n:Int} (h:Big w (.agg #[.bool s,l]) n):s=decide (n<0)∧Lim w l n.natAbs:=by
 obtain⟨l',he,hl⟩:=h
 simp only[Value.agg.injEq,Array.mk.injEq,List.cons.injEq,Value.bool.injEq,and_true] at he
 exact⟨he.1,he.2 ▸ hl⟩
theorem kY (s:Bool) (v:Value) (xs:List Nat) (w:World) (h:Row w v xs) (hf:Fit xs) (hm:xs.length≤1099511627776) :
  Calls Tryz.prog 185 #[.bool s,v] w fun e w'=>∃ v,e=.returned v∧Big w' v (az s (val xs))∧Kept w w':=by
 have hT:=K7 fun w' (hk:Kept w w')=>fV v xs w' (h.kept hk) hf hm
 obtain⟨a,c,rfl,hc,hr⟩:=id h
 have hle:size (val xs)≤xs.length:=size_le (dn hf)
 have hp:=@im (val xs)
 have hL:=K7 fun w' l (hk:Lim w' l (val xs))=>wR s hk
 generalize val xs=m at *
 generalize xs.length=n at *
 clear h hr
 have hk0:=ak w (Obj.cells #[Value.bool false,Value.slice none 0 0] 117)
 have hB:=aJ w 117 [Value.bool false,Value.slice none 0 0]
 go_enter Tryz.func185,Tryz.ntmps185
 go_wp2_with (go_at_call 222;fail)
 refine (hT.out _ hk0).mono ?_
 rintro e w3 ⟨v,rfl,hv,hk3⟩
 have hv':=hL.out _ _ hv
 obtain⟨a',c',rfl,hc',_⟩:=id hv
 have hB3:=hB.kept hk3
 have c0:=hB3.cell 0 rfl
 have c1:=hB3.cell 1 rfl
 have f0:=hB3.free 0
 have f1:=hB3.free 1
 clear hT hL
 by_cases h0:0<size m
 ·have hm0:=hp.1 h0
  simp only[hm0,decide_true,Bool.and_true] at hv'
  generalize size m=q at *
  have h1:decide ((q:Int)>0)=true:=by simp;omega
  cases s
  ·go_wp2
   obtain⟨p0,p1,p2,p3⟩:=aP hB3 (K6 _) (Kept.comp _ _ _ hk0 hk3) hv'
   exact bodyPost_ret (v:=.agg #[.bool false,.slice a' q c']) (by simp[results,Tryz.results185,go_sem,p0,p1]) rfl ⟨_,rfl,p2,p3⟩
  ·go_wp2
   obtain⟨p0,p1,p2,p3⟩:=aP hB3 (K6 _) (Kept.comp _ _ _ hk0 hk3) hv'
   exact bodyPost_ret (v:=.agg #[.bool true,.slice a' q c']) (by simp[results,Tryz.results185,go_sem,p0,p1]) rfl ⟨_,rfl,p2,p3⟩
 ·have hm0:¬0<m:=fun h=>h0 (hp.2 h)
  simp only[hm0,decide_false,Bool.and_false] at hv'
  obtain hq:size m=0:=by omega
  rw[hq] at hv' ⊢
  clear hp h0
  cases s
  ·go_wp2
   obtain⟨p0,p1,p2,p3⟩:=aP hB3 (K6 _) (Kept.comp _ _ _ hk0 hk3) hv'
   exact bodyPost_ret (v:=.agg #[.bool false,.slice a' 0 c']) (by simp[results,Tryz.results185,go_sem,p0,p1]) rfl ⟨_,rfl,p2,p3⟩
  ·go_wp2
   obtain⟨p0,p1,p2,p3⟩:=aP hB3 (K6 _) (Kept.comp _ _ _ hk0 hk3) hv'
   exact bodyPost_ret (v:=.agg #[.bool false,.slice a' 0 c']) (by simp[results,Tryz.results185,go_sem,p0,p1]) rfl ⟨_,rfl,p2,p3⟩
def Num (w:World) (v:Value) (n:Nat):Prop:=∃ zs,Row w v zs∧Fit zs∧val zs=n∧zs.length≤1099511627776
theorem Num.kept {w w':World} {v:Value} {n:Nat} (h:Num w v n) (k:Kept w w'):Num w' v n:=by
 obtain⟨zs,h1,h2⟩:=h
 exact⟨zs,h1.kept k,h2⟩
theorem Lim.num {w:World} {v:Value} {n:Nat} (h:Lim w v n) (hn:size n≤1099511627776):Num w v n:=⟨ai n,h.row,ao n,au n,hn⟩
theorem bm (s:Bool) (l:Value) (m:Nat) (w:World) (h:Num w l m) (_:size m≤1099511627776) :
  Calls Tryz.prog 185 #[.bool s,l] w fun e w'=>∃ v,e=.returned v∧Big w' v (az s m)∧Kept w w':=by
 obtain⟨zs,h1,h2,rfl,h3⟩:=h
 exact kY s l zs w h1 h2 h3
inductive Spec where
 | is (v:Value)
 | lim (n:Nat)
 | int (n:Int)
 | new (base:Nat) (t:TypeId) (cs:List Value)
 | says (p:World→Value→Prop)
 | any
def af (s:Option Spec) (v:Value) (w:World):Prop:=
 match s with
 | some (.is u)=>v=u
 | some (.lim n)=>Num w v n
 | some (.int n)=>Big w v n
 | some (.new base t cs)=>∃ b,v=.pointer (some ⟨b,0,none⟩)∧base≤b∧Blk w b t cs
 | some (.says p)=>∀ w',Kept w w'→p w' v
 | _=>True
theorem af.kept (s:Option Spec) (v:Value) (w w':World) (h:af s v w) (k:Kept w w'):af s v w':=by
 unfold af at *
 split
 ·exact h
 ·exact Num.kept h k
 ·exact Big.kept h k
 ·obtain⟨b,e,hb,hB⟩:=h
  exact⟨b,e,hb,hB.kept k⟩
 ·exact fun w2 k2=>h w2 (Kept.comp _ _ _ k k2)
 ·trivial
theorem aa {u v:Value} {w:World} (h:v=u):af (some (.is u)) v w∧Kept w w:=⟨h,Kept.rfl' w⟩
def Plain (ops:Array Oper) (m:Nat):Bool:=(List.range m).all fun i=>match ops[i]? with|some o=>o.guard.isNone|none=>true
theorem cJ {P:Program} {ops:Array Oper} {Q:Exit→Act→World→Prop} {id:Nat} {a0:Act} {w0:World} (m:Nat) (specs:List Spec) (rs:List Nat) {A:(Nat→Value)→Act} (hm:P.follows .mixedOrders=true)
  (hmn:Nat.ble m ops.size=true) (hrs:List.range m=rs) (hp:iR ops m a0.tmps.size=true) (hw:gd .any ops m=true) (ht:oh .any ops m=true) (hA:∀ f,laid ops f a0 rs=A f)
  (step:∀ (i:Nat) (o:Oper),i<m→ops[i]?=some o→∀ (f:Nat→Value) (w:World),Kept w0 w→(∀ e∈o.after,Region.binds .any e=true→af specs[e.on]? (f e.on) w) →
   mB P ops (A f) o w fun v w'=>af specs[i]? v w'∧Kept w w')
  (fin:∀ (f:Nat→Value) (w:World),Kept w0 w→(∀ i,i<m→af specs[i]? (f i) w)→wpList P ops Q (ops.toList.drop m) (A f) w) :
  (Code.region id ops true).wp P Q a0 w0:=
 ku hm Kept Kept.rfl' Kept.comp (fun i v w=>af specs[i]? v w) (fun _=>af.kept _) m (Nat.le_of_ble_eq_true hmn) hp hw ht
  (fun i o him ho f w hk=>by rw[hrs,hA];exact step i o him ho f w (Kept.lj hk)) (fun f w hk=>by rw[hrs,hA];exact fin f w (Kept.lj hk))
theorem aj {P:Program} {ops:Array Oper} {Q:Exit→Act→World→Prop} {id:Nat} {a0:Act} {w0:World} (m:Nat) (specs:List Spec) (rs:List Nat) {A:(Nat→Value)→Act} (hm:P.follows .mixedOrders=true)
  (hmn:Nat.ble m ops.size=true) (hrs:List.range m=rs) (hp:(iR ops m a0.tmps.size&&Plain ops m)=true) (hw:gd .any ops m=true) (ht:oh .any ops m=true) (hA:∀ f,laid ops f a0 rs=A f)
  (step:∀ (i:Nat) (o:Oper),i<m→ops[i]?=some o→∀ (f:Nat→Value) (w:World),Kept w0 w→(∀ e∈o.after,Region.binds .any e=true→af specs[e.on]? (f e.on) w) →
   ae P (A f).eval o w fun v w'=>af specs[i]? v w'∧Kept w w')
  (fin:∀ (f:Nat→Value) (w:World),Kept w0 w→(∀ i,i<m→af specs[i]? (f i) w)→wpList P ops Q (ops.toList.drop m) (A f) w) :
  (Code.region id ops true).wp P Q a0 w0:=by
 rw[Bool.and_eq_true] at hp
 refine cJ m specs rs hm hmn hrs hp.1 hw ht hA (fun i o him ho f w hk hd=>Or.inl ⟨?_,step i o him ho f w hk hd⟩) fin
 have h1:=List.all_eq_true.1 hp.2 i (List.mem_range.2 him)
 simp only[ho,Option.isNone_iff_eq_none] at h1
 simp only[Region.wanted,h1]
theorem fQ {p:World→Value→Prop} {v:Value} {w0 w:World} (h:∀ w',Kept w w'→p w' v) (k:Kept w0 w):af (some (.says p)) v w∧Kept w0 w:=⟨h,k⟩
theorem dW {w:World} {B n:Nat} {v:Value} {xs:List Nat} (h:w.ownsRow B 3 1 v n (cellsOf xs)):Row w v xs:=by
 have hl:xs.length=n:=by have:=h.1;simpa [cellsOf] using this
 rcases h.2 with ⟨rfl,h0⟩|⟨g,c,cur,rfl,hg,hc,h1,h2,h3,h4⟩
 ·have:xs=[]:=List.eq_nil_of_length_eq_zero (by omega)
  subst this
  exact⟨none,0,rfl,K6 _,.inl ⟨rfl,rfl⟩⟩
 ·refine ⟨some ⟨g,0,none⟩,c,by rw[hl],by omega,.inr ⟨g,0,rfl,(Array.getElem?_eq_some_iff.1 hc).1,fun i hi=>?_⟩⟩
  rw[Nat.zero_add,h.cellAt i (by omega),eV hi]
theorem eK {w w':World} {B s n:Nat} {e:TypeId} {v:Value} {xs:List Value} (h:w.ownsRow B e s v n xs) (k:Kept w w'):w'.ownsRow B e s v n xs:=by
 refine ⟨h.1,h.2.imp id ?_⟩
 rintro ⟨g,cap,cur,q1,q2,q3,q4⟩
 exact⟨g,cap,cur,q1,q2,(k.block g (Array.getElem?_eq_some_iff.1 q3).1).trans q3,q4⟩
theorem cG (w:World) (x:Value) (t:TypeId):∀ j u,[x][j]?=some u→(w.alloc (.cells #[x] t)).cell? ((⟨w.heap.size,0,none⟩:Addr).add j)=some u:=by
 intro j u hj
 match j,hj with
 | 0,hj=>
  simp at hj
  subst hj
  simp[Addr.add]
def sm (xs ys:List Nat) (i:Nat):Nat:=xs.getD i 0+ys.getD i 0+bq xs ys i
def oE (xs ys:List Nat) (k:Nat):List Nat:=(List.range k).map fun i=>sm xs ys i%DigNum.B
theorem sF (xs ys:List Nat) (k:Nat):oE xs ys (k+1)=oE xs ys k++[sm xs ys k%DigNum.B]:=by simp[oE,List.range_succ]
theorem nZ (xs ys:List Nat) (k:Nat):(oE xs ys k).length=k:=by simp[oE]
theorem EL (xs ys:List Nat) (k:Nat):Fit (oE xs ys k):=by
 intro x hx
 obtain⟨i,_,rfl⟩:=List.mem_map.1 hx
 exact Nat.mod_lt _ aA
theorem mF (xs ys:List Nat) (k:Nat):bq xs ys (k+1)=sm xs ys k/DigNum.B:=rfl
theorem wj (xs ys:List Nat):∀ k,val (oE xs ys k)+DigNum.B^k*bq xs ys k=val (xs.take k)+val (ys.take k)
 | 0=>by simp[oE,val,bq]
 | k+1=>by
  have ih:=wj xs ys k
  rw[sF,ir,nZ,aB,aB,mF,Nat.pow_succ]
  have h:=Nat.mod_add_div (sm xs ys k) DigNum.B
  have h2:DigNum.B^k*(sm xs ys k%DigNum.B)+DigNum.B^k*DigNum.B*(sm xs ys k/DigNum.B)=DigNum.B^k*sm xs ys k:=by rw[Nat.mul_assoc,←Nat.mul_add,h]
  have h3:DigNum.B^k*sm xs ys k=DigNum.B^k*xs.getD k 0+DigNum.B^k*ys.getD k 0+DigNum.B^k*bq xs ys k:=by rw[sm,Nat.mul_add,Nat.mul_add]
  omega
theorem Cg {xs ys:List Nat} (hx:Fit xs) (hy:Fit ys) {k:Nat} (h1:xs.length≤k) (h2:ys.length≤k):bq xs ys (k+1)=0:=by
 have:=eO hx hy k
 rw[mF,sm,bD h1,bD h2]
 exact Nat.div_eq_of_lt (by unfold DigNum.B;omega)
theorem EK {xs ys:List Nat} {k:Nat} (h1:xs.length≤k) (h2:ys.length≤k) (hc:bq xs ys k=0):val (oE xs ys k)=val xs+val ys:=by
 have:=wj xs ys k
 rw[hc,aR h1,aR h2] at this
 simpa using this
theorem rh (va vb:Value) (xs ys:List Nat) (w:World) (ha:Row w va xs) (hb:Row w vb ys) (hfx:Fit xs) (hfy:Fit ys) (hx:xs.length≤1073741824) (hy:ys.length≤1073741824) :
  Calls Tryz.prog 225 #[va,vb] w fun e w'=>∃ v zs,e=.returned v∧Row w' v zs∧Fit zs∧val zs=val xs+val ys∧zs.length≤xs.length+ys.length+1∧Kept w w':=by
 obtain⟨i0,hi,hz0,hz1,hz2⟩:=info_parts Tryz.fM
 have D1:=K7 fun w' (hk:Kept w w') (i:Nat)=>mK va xs i w' (ha.kept hk) (by omega)
 have D2:=K7 fun w' (hk:Kept w w') (i:Nat)=>mK vb ys i w' (hb.kept hk) (by omega)
 obtain⟨a1,c1,rfl,_,_⟩:=id ha
 obtain⟨a2,c2,rfl,_,_⟩:=id hb
 have he:=fun k=>Cg hfx hfy (k:=k)
 have hs:=fun k=>EK (xs:=xs) (ys:=ys) (k:=k)
 have hle:=eO hfx hfy
 have gx:=hfx.get
 have gy:=hfy.get
 have Hs:=K7 hs
 have He:=K7 he
 have Hle:=K7 hle
 have Gx:=K7 gx
 have Gy:=K7 gy
 generalize hn1:xs.length=n1 at *
 generalize hn2:ys.length=n2 at *
 have gl:=fun i=>(bD (xs:=xs) (i:=i))
 clear hn1 hn2 ha hb he hs hle gx gy gl
 generalize hg:w.heap.size=G
 have hG:=K7 hg
 clear hg
 go_enter Tryz.func225,Tryz.ntmps225
 go_wp2
 go_loopw [5,6,7] (fun v c i wr=>∃ k:Nat,k≤n1+n2+1∧i=.int .i64 k∧c=.int .i64 ((bq xs ys k:Nat):Int)∧wr.ownsRow G 3 1 v k (cellsOf (oE xs ys k))∧Below G w wr) (fun _ _ i _=>n1+n2+1-(intOf i).toNat)
 case atStart=>exact⟨0,Nat.zero_le _,rfl,rfl,⟨rfl,.inl ⟨rfl,rfl⟩⟩,Below.refl _ _⟩
 case round=>
  obtain⟨k,hk,rfl,rfl,hown,hbel⟩:=hrel
  have hc:=Hle.out k
  by_cases hend:n1≤k∧n2≤k∧bq xs ys k=0
  ·obtain⟨g1,g2,g3⟩:=hend
   have Hr:=K7 (Hs.out k g1 g2 g3)
   rw[g3]
   clear Hs He Hle
   go_wp2
   go_ret
   exact⟨_,_,rfl,dW hown,EL _ _ _,Hr.out,by rw[nZ];exact hk,by unfold Kept;rw[hG.out];exact hbel⟩
  ·have hcond:k<n1∨k<n2∨0<bq xs ys k:=by omega
   have hkn:k<n1+n2+1:=by
    rcases hcond with h|h|h
    ·omega
    ·omega
    ·rcases Nat.lt_or_ge k (n1+n2+1) with h'|h'
     ·exact h'
     ·have:=He.out (n1+n2) (by omega) (by omega)
      rw[show k=n1+n2+1 by omega] at h
      omega
   have h1:=Gx.out k
   have h2:=Gy.out k
   have hsm:sm xs ys k=xs.getD k 0+ys.getD k 0+bq xs ys k:=rfl
   have Hsm:=K7 hsm
   have hB:DigNum.B=1000000000:=rfl
   rw[hB] at h1 h2
   have hnx:=mF xs ys k
   have hsu:=sF xs ys k
   rw[hB] at hnx hsu
   have Hnx:=K7 hnx
   have Hsu:=K7 hsu
   clear hsm hnx hsu hB hend
   generalize hcn0:bq xs ys (k+1)=cn at *
   generalize hln0:oE xs ys (k+1)=ln at *
   have Hcn0:=K7 hcn0
   have Hln0:=K7 hln0
   clear hcn0 hln0
   generalize oE xs ys k=lk at *
   generalize sm xs ys k=s at *
   have e1:xs.getD k 0+ys.getD k 0+bq xs ys k=s:=Hsm.out.symm
   generalize bq xs ys k=c at *
   have d1:=K7 fun w' hk=>D1.out w' hk k
   have d2:=K7 fun w' hk=>D2.out w' hk k
   generalize xs.getD k 0=x at *
   generalize ys.getD k 0=y at *
   have hkw:Kept w wr:=by unfold Kept;rw[hG.out];exact hbel
   have hsize:=hbel.size
   rw[hG.out] at hsize
   go_wp2_with fail
   all_goals
    refine (d1.out _ hkw).mono ?_
    rintro e w' ⟨rfl,rfl⟩
    go_wp2_with fail
    refine (d2.out _ hkw).mono ?_
    rintro e w'' ⟨rfl,rfl⟩
    go_wp2_with (at_builtin;refine wpList_append_own _ rfl _ _ 87 rfl G 3 i0 (.int .i64 0) 1 8 Tryz.underlying87 hi hz0 hz1 hz2 rfl (by decide) _ _ _ rfl (hown.alloc _) ⟨_,0,none⟩ 1 1 [.int .i64 (((x:Int)+y+c)%1000000000)] rfl rfl (cG _ _ _) (fun x hx=>by simp at hx;subst hx;rfl) (by unfold maxLen;omega) (by omega) (by simp;omega) ?_;intro v' w3 hown' hgrow3 hnil3)
    have hcell:[Value.int .i64 (((x:Int)+y+c)%1000000000)]=cellsOf [s%1000000000]:=by
     rw[←e1];simp[cellsOf]
    have R:w3.ownsRow G 3 1 v' (k+1) (cellsOf ln)∧Below G w w3:=
     ⟨by rw[Hsu.out,show cellsOf (lk++[s%1000000000])=cellsOf lk++cellsOf [s%1000000000] by simp[cellsOf],←hcell];exact hown',(hbel.alloc hsize _).grown hgrow3 (by simp;omega) (fun q hq=>(hown.lt q hq).1)⟩
    have hcn:((cn:Nat):Int)=((x:Int)+y+c)/1000000000:=by rw[Hnx.out,←e1];simp
    clear hown' hgrow3 hown hbel hi hcell
    go_wp2
    go_roundw
    case rel=>exact⟨k+1,by omega,by go_num,by rw[Hcn0.out,hcn],by rw[Hln0.out];exact R.1,R.2⟩
    case measure=>simp[intOf];omega
end Go.Proofs.YtjbcmmaniphkkaaGreatDoor.D
