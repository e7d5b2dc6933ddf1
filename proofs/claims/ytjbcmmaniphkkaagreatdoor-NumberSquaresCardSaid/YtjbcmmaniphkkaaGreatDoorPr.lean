import Derived.Lib.Bytealg
import Derived.Laws.Externs
import GoSem.ClaimJoined
import Derived.OpenShut
import Derived.FnData
import Derived.LaidMore
import Derived.Test.YtjbcmmaniphkkaaGreatDoorSx5
set_option linter.unusedSectionVars false
set_option linter.unusedVariables false
set_option linter.unusedSimpArgs false
namespace Go.Sx
def fair (n:Nat):Bool:=Nat.ble n.log2 1000000
def BF:AV→Option Int
 | .agg [.bool s,l]=>match lC l with
  | some n=>match fair n with
   | true=>match s with
    | true=>match n with
     | 0=>none
     | m+1=>some (.negSucc m)
    | false=>some (.ofNat n)
   | false=>none
  | none=>none
 | _=>none
def ofW (n:Int):AV:=.agg [.bool (decide (n<0)),.big n.natAbs]
abbrev Prm:=AH→List AV→Option AV
def w1 (f:Int→AV):Prm:=fun _ a=>match a with
 | [x]=>match BF x with
  | some x=>some (f x)
  | none=>none
 | _=>none
def w2 (f:Int→Int→AV):Prm:=fun _ a=>match a with
 | [x,y]=>match BF x,BF y with
  | some x,some y=>some (f x y)
  | _,_=>none
 | _=>none
def bitLen (n:Nat):Nat:=if n=0 then 0 else n.log2+1
def pOf:Prm:=fun _ a=>match a with|[.int .i64 n]=>if -9223372036854775808≤n∧n≤9223372036854775807 then some (ofW n) else none|_=>none
def vF:Prm:=w2 fun x y=>ofW (Nat.gcd x.natAbs y.natAbs)
def KP:Prm:=w1 fun x=>ofW (-x)
def KM:Prm:=w1 fun x=>ofW x.natAbs
def IM:Prm:=w1 fun x=>.int .i64 x.sign
def yY:Prm:=w1 fun x=>.int .i64 (bitLen x.natAbs)
def DZ:Prm:=w1 fun x=>.bool (decide (x=1))
def DY:Prm:=w1 fun x=>.bool (decide (x%2=1))
def DX:Prm:=w1 fun n=>if n.natAbs<9223372036854775808 then .tup [.int .i64 n,.bool true] else .tup [.int .i64 0,.bool false]
def vE:Prm:=w2 fun x y=>.int .i64 (if x<y then -1 else if y<x then 1 else 0)
def KN:Prm:=w2 fun x y=>ofW (x+y)
def KR:Prm:=w2 fun x y=>ofW (x-y)
def KO:Prm:=w2 fun x y=>ofW (x*y)
def KQ:Prm:=w2 fun x y=>ofW (x.tdiv y)
def DW:Prm:=w2 fun x y=>ofW (x.fdiv y)
def zb:Prm:=w2 fun x y=>.tup [ofW (x.tdiv y),ofW (x.tmod y)]
def lX:Prm:=fun _ a=>match a with
 | [x,.int .i64 k]=>if k≤100000 then match BF x with
  | some x=>some (ofW (x*2^k.toNat))
  | none=>none
  else none
 | _=>none
def fq:Prm:=fun _ a=>match a with
 | [x,.int .u64 (.ofNat f),.int .u64 (.ofNat s)]=>match lC x with
  | some n=>if fair n∧f<18446744073709551616∧s<18446744073709551616 then some (.big (n*f+s)) else none
  | none=>none
 | _=>none
def fp:Prm:=fun _ a=>match a with
 | [x,.int .u64 (.ofNat d)]=>match lC x with
  | some n=>if fair n∧0<d∧d<18446744073709551616 then some (.tup [.big (n/d),.int .u64 ((n%d:Nat):Int)]) else none
  | none=>none
 | _=>none
def oO:Prm:=fun _ a=>match a with
 | [.bool s,x]=>match lC x with
  | some n=>if fair n then some (ofW (if s then -(n:Int) else n)) else none
  | none=>none
 | _=>none
abbrev zI:=List AV→Option AV
def oY:zI:=fun a=>match a with|[.float .f32 n]=>some (.int .u32 n)|_=>none
def zD:zI:=fun a=>match a with|[.float .f64 n]=>some (.int .u64 n)|_=>none
def zE:zI:=fun a=>match a with|[.int .u64 n]=>if 0≤n then some (.float .f64 n.toNat) else none|_=>none
def pL (s:List UInt8):List AV→Option (List UInt8)
 | []=>some []
 | .str x::l=>match l with
  | []=>some x
  | _=>match pL s l with
   | some r=>some (x++s++r)
   | none=>none
 | _=>none
def yZ:Prm:=fun h a=>match a with
 | [.sl b o n e,.str s]=>match fl h b with
  | some cs=>if e=1∧o+n≤cs.length∧n≤1000000 then match pL s ((cs.drop o).take n) with
    | some r=>if r.length≤1000000 then some (.str r) else none
    | none=>none
   else none
  | none=>none
 | _=>none
def indexB (c:Nat):List UInt8→Nat→Int
 | [],_=>-1
 | a::l,i=>if Nat.beq a.toNat c then i else indexB c l (i+1)
def iQ:List AV→Option AV:=fun a=>match a with|[.str s,.int .u8 c]=>if 0≤c∧c≤255 then some (.int .i64 (indexB c.toNat s 0)) else none|_=>none
end Go.Sx
namespace Go.Sx
open LimbNum Go.RowKit
variable [Unk] [Glob]
def ay (P:Program) (f:FuncId) (g:Prm):Prop:=∀ h args av,g h args=some av→∀ (m:Nm) (w:World) (vals:List Value),RVs m w args vals→RS m w h.get →
 Calls P f vals.toArray w fun e w'=>∃ v,e=.returned v∧RV m w' av v∧Below w.heap.size w w'
def je (P:Program) (f:FuncId) (g:zI):Prop:=(∃ fn,P.funcs[f]?=some fn∧fn.body=none) ∧
 ∀ args av,g args=some av→∀ (m:Nm) (w:World) (vals:List Value),RVs m w args vals→∃ v,(callFunc f vals.toArray).run P w=.ok (.value v) w∧RV m w av v
def Who (w:World) (v:Value) (n:Int):Prop:=∃ l,v=.agg #[.bool (decide (n<0)),l]∧Lim w l n.natAbs
theorem il {n:Nat} (h:fair n=true):size n≤20000:=by
 have:n.log2≤1000000:=by unfold fair at h;simpa using h
 rw[←EW]
 unfold szL
 split<;>omega
theorem kO {m:Nm} {w:World} {a:AV} {v:Value} {n:Nat} (h:lC a=some n) (hv:RV m w a v):Lim w v n:=by
 cases a<;>simp only[lC,K5,reduceCtorEq] at h
 ·subst h
  rw[RV] at hv
  subst hv
  exact⟨none,0,rfl,K6 _,.inl ⟨rfl,bc⟩⟩
 ·subst h
  rwa [RV] at hv
theorem tV {m:Nm} {w:World} {a:AV} {v:Value} {n:Int} (h:BF a=some n) (hv:RV m w a v):Who w v n∧size n.natAbs≤20000:=by
 unfold BF at h
 split at h
 ·rename_i s l
  rw[RV] at hv
  obtain⟨ls,rfl,hl⟩:=hv
  rw[RVs] at hl
  obtain⟨v1,l1,rfl,h1,h2⟩:=hl
  rw[RVs] at h2
  obtain⟨v2,l2,rfl,h3,h4⟩:=h2
  rw[RVs] at h4
  subst h4
  rw[RV] at h1
  subst h1
  split at h
  ·rename_i k hk
   have hlim:=kO hk h3
   split at h
   ·rename_i hf
    split at h
    ·split at h
     ·cases h
     ·simp only[K5] at h
      subst h
      exact⟨⟨v2,by rw[decide_eq_true (Int.negSucc_lt_zero _)],hlim⟩,il hf⟩
    ·simp only[K5] at h
     subst h
     exact⟨⟨v2,by rw[decide_eq_false (by simp)],hlim⟩,il hf⟩
   ·cases h
  ·cases h
 ·cases h
theorem eM {m:Nm} {w:World} {v:Value} {n:Int} (h:Who w v n):RV m w (ofW n) v:=by
 obtain⟨l,rfl,hl⟩:=h
 unfold ofW
 rw[RV]
 refine ⟨[.bool (decide (n<0)),l],rfl,?_⟩
 rw[RVs]
 refine ⟨_,_,rfl,by rw[RV],?_⟩
 rw[RVs]
 exact⟨_,_,rfl,by rw[RV];exact hl,by rw[RVs]⟩
section
variable {P : Program} {f : FuncId}
theorem qR {g:Int→AV} (H:∀ v n w,Who w v n→size n.natAbs≤20000→Calls P f #[v] w fun e w'=>∃ v',e=.returned v'∧(∀ m,RV m w' (g n) v')∧Below w.heap.size w w'):ay P f (w1 g):=by
 intro h args av hg m w vals hv _
 unfold w1 at hg
 split at hg
 ·rename_i x
  split at hg
  ·rename_i n hn
   simp only[K5] at hg
   subst hg
   rw[RVs] at hv
   obtain⟨v,l,rfl,h1,h2⟩:=hv
   rw[RVs] at h2
   subst h2
   obtain⟨q1,q2⟩:=tV hn h1
   refine (H v n w q1 q2).mono ?_
   rintro e w' ⟨v',h3,h4,h5⟩
   exact⟨v',h3,h4 m,h5⟩
  ·cases hg
 ·cases hg
theorem oa {g:Int→Int→AV} (H:∀ u v n k w,Who w u n→Who w v k→size n.natAbs≤20000→size k.natAbs≤20000→Calls P f #[u,v] w fun e w'=>∃ v',e=.returned v'∧(∀ m,RV m w' (g n k) v')∧Below w.heap.size w w'):ay P f (w2 g):=by
 intro h args av hg m w vals hv _
 unfold w2 at hg
 split at hg
 ·rename_i x y
  split at hg
  ·rename_i n k hn hk
   simp only[K5] at hg
   subst hg
   rw[RVs] at hv
   obtain⟨u,l,rfl,h1,h2⟩:=hv
   rw[RVs] at h2
   obtain⟨v,l,rfl,h2,h3⟩:=h2
   rw[RVs] at h3
   subst h3
   obtain⟨q1,q2⟩:=tV hn h1
   obtain⟨q3,q4⟩:=tV hk h2
   refine (H u v n k w q1 q3 q2 q4).mono ?_
   rintro e w' ⟨v',h3,h4,h5⟩
   exact⟨v',h3,h4 m,h5⟩
  ·cases hg
 ·cases hg
theorem KK (H:∀ n w,-9223372036854775808≤n→n≤9223372036854775807→Calls P f #[.int .i64 n] w fun e w'=>∃ v',e=.returned v'∧Who w' v' n∧Below w.heap.size w w'):ay P f pOf:=by
 intro h args av hg m w vals hv _
 unfold pOf at hg
 split at hg
 ·rename_i n
  split at hg
  ·rename_i hn
   simp only[K5] at hg
   subst hg
   rw[RVs] at hv
   obtain⟨v,l,rfl,h1,h2⟩:=hv
   rw[RVs] at h2
   subst h2
   rw[RV] at h1
   subst h1
   refine (H n w hn.1 hn.2).mono ?_
   rintro e w' ⟨v',h3,h4,h5⟩
   exact⟨v',h3,eM h4,h5⟩
  ·cases hg
 ·cases hg
theorem xX (H:∀ v n k w,Who w v n→size n.natAbs≤20000→k≤100000→Calls P f #[v,.int .i64 k] w fun e w'=>∃ v',e=.returned v'∧Who w' v' (n*2^k.toNat)∧Below w.heap.size w w'):ay P f lX:=by
 intro h args av hg m w vals hv _
 unfold lX at hg
 split at hg
 ·rename_i x k
  split at hg
  ·rename_i hk
   split at hg
   ·rename_i n hn
    simp only[K5] at hg
    subst hg
    rw[RVs] at hv
    obtain⟨u,l,rfl,h1,h2⟩:=hv
    rw[RVs] at h2
    obtain⟨v,l,rfl,h2,h3⟩:=h2
    rw[RVs] at h3
    subst h3
    rw[RV] at h2
    subst h2
    obtain⟨q1,q2⟩:=tV hn h1
    refine (H u n k w q1 q2 hk).mono ?_
    rintro e w' ⟨v',h3,h4,h5⟩
    exact⟨v',h3,eM h4,h5⟩
   ·cases hg
  ·cases hg
 ·cases hg
theorem pT (H:∀ v n k s w,Lim w v n→size n≤20000→k<B→s<B→Calls P f #[v,.int .u64 (k:Nat),.int .u64 (s:Nat)] w fun e w'=>∃ v',e=.returned v'∧Lim w' v' (n*k+s)∧Below w.heap.size w w'):ay P f fq:=by
 intro h args av hg m w vals hv _
 unfold fq at hg
 split at hg
 ·rename_i x k s
  split at hg
  ·rename_i n hn
   split at hg
   ·rename_i hc
    simp only[K5] at hg
    subst hg
    rw[RVs] at hv
    obtain⟨u,l,rfl,h1,h2⟩:=hv
    rw[RVs] at h2
    obtain⟨v,l,rfl,h2,h3⟩:=h2
    rw[RVs] at h3
    obtain⟨v2,l,rfl,h3,h4⟩:=h3
    rw[RVs] at h4
    subst h4
    rw[RV] at h2
    rw[RV] at h3
    subst h2 h3
    refine (H u n k s w (kO hn h1) (il hc.1) hc.2.1 hc.2.2).mono ?_
    rintro e w' ⟨v',h3,h4,h5⟩
    exact⟨v',h3,by rw[RV];exact h4,h5⟩
   ·cases hg
  ·cases hg
 ·cases hg
theorem pt (H:∀ v n d w,Lim w v n→size n≤20000→0<d→d<B→Calls P f #[v,.int .u64 (d:Nat)] w fun e w'=>∃ v',e=.returned (.tuple #[v',.int .u64 ((n%d:Nat):Int)])∧Lim w' v' (n/d)∧Below w.heap.size w w'):ay P f fp:=by
 intro h args av hg m w vals hv _
 unfold fp at hg
 split at hg
 ·rename_i x d
  split at hg
  ·rename_i n hn
   split at hg
   ·rename_i hc
    simp only[K5] at hg
    subst hg
    rw[RVs] at hv
    obtain⟨u,l,rfl,h1,h2⟩:=hv
    rw[RVs] at h2
    obtain⟨v,l,rfl,h2,h3⟩:=h2
    rw[RVs] at h3
    subst h3
    rw[RV] at h2
    subst h2
    refine (H u n d w (kO hn h1) (il hc.1) hc.2.1 hc.2.2).mono ?_
    rintro e w' ⟨v',h3,h4,h5⟩
    refine ⟨_,h3,?_,h5⟩
    rw[RV]
    refine ⟨_,rfl,?_⟩
    rw[RVs]
    refine ⟨_,_,rfl,by rw[RV];exact h4,?_⟩
    rw[RVs]
    exact⟨_,_,rfl,by rw[RV],by rw[RVs]⟩
   ·cases hg
  ·cases hg
 ·cases hg
theorem Br (H:∀ s v n w,Lim w v n→size n≤20000→Calls P f #[.bool s,v] w fun e w'=>∃ v',e=.returned v'∧Who w' v' (if s then -(n:Int) else n)∧Below w.heap.size w w'):ay P f oO:=by
 intro h args av hg m w vals hv _
 unfold oO at hg
 split at hg
 ·rename_i s x
  split at hg
  ·rename_i n hn
   split at hg
   ·rename_i hc
    simp only[K5] at hg
    subst hg
    rw[RVs] at hv
    obtain⟨u,l,rfl,h1,h2⟩:=hv
    rw[RVs] at h2
    obtain⟨v,l,rfl,h2,h3⟩:=h2
    rw[RVs] at h3
    subst h3
    rw[RV] at h1
    subst h1
    refine (H s v n w (kO hn h2) (il hc)).mono ?_
    rintro e w' ⟨v',h3,h4,h5⟩
    exact⟨v',h3,eM h4,h5⟩
   ·cases hg
  ·cases hg
 ·cases hg
theorem Gp (H:∀ (bk o c:Nat) (xs:List (List UInt8)) (sep:List UInt8) (r:List UInt8) (w:World),(∀ (j:Nat) x,xs[j]?=some x→w.cell? ⟨bk,o+j,none⟩=some (.string ⟨x.toArray⟩))→bk<w.heap.size→xs.length≤1000000→xs.length≤c →
   r=sep.intercalate xs→r.length≤1000000→Calls P f #[.slice (some ⟨bk,o,none⟩) xs.length c,.string ⟨sep.toArray⟩] w fun e w'=>e=.returned (.string ⟨r.toArray⟩)∧Below w.heap.size w w'):ay P f yZ:=by
 intro h args av hg m w vals hv hs
 unfold yZ at hg
 split at hg
 ·rename_i b o n e s
  split at hg
  ·rename_i cs hcs
   split at hg
   ·rename_i hc
    split at hg
    ·rename_i r hr
     split at hg
     ·rename_i hr2
      simp only[K5] at hg
      subst hg
      rw[RVs] at hv
      obtain⟨u,l,rfl,h1,h2⟩:=hv
      rw[RVs] at h2
      obtain⟨v,l,rfl,h2,h3⟩:=h2
      rw[RVs] at h3
      subst h3
      rw[RV] at h1
      rw[RV] at h2
      subst h2
      obtain⟨rb,cap,hm,rfl,hcap,hroom⟩:=h1
      obtain⟨hget,hM⟩:=bT hcs
      obtain⟨ca,e2,g1,g2,g3,g4⟩:=hs.blk b cs rb hget hM hm
      have key:∀ (l:List AV) (r:List UInt8),pL s l=some r→∃ xs:List (List UInt8),l=xs.map (fun x=>AV.str x)∧r=s.intercalate xs:=by
       intro l
       induction l with
       | nil=>intro r h;rw[pL] at h;simp only[K5] at h;subst h;exact⟨[],rfl,rfl⟩
       | cons a l ih=>
        intro r h
        cases a with
        | str x=>
         cases l with
         | nil=>rw[pL] at h;simp only[K5] at h;subst h;exact⟨[x],rfl,by simp[List.intercalate]⟩
         | cons y l=>
          rw[pL] at h
          ·split at h
           ·rename_i r' hr'
            simp only[K5] at h
            subst h
            obtain⟨xs,h1,h2⟩:=ih _ hr'
            cases xs with
            | nil=>cases h1
            | cons z zs=>
             refine ⟨x::z::zs,by rw[h1];rfl,?_⟩
             rw[h2]
             simp[List.intercalate,List.intersperse]
           ·cases h
          ·intro h;cases h
        | _=>simp[pL] at h
      obtain⟨xs,h1,h2⟩:=key _ _ hr
      have hlen:xs.length=n:=by
       have:=congrArg List.length h1
       rw[List.length_take,List.length_drop,List.length_map] at this
       omega
      subst hlen
      refine (H rb o cap xs s r w (fun j x hx=>?_) (eR g1) hc.2.2 hcap h2 hr2).mono ?_
      ·have hj:j<xs.length:=(List.getElem?_eq_some_iff.1 hx).1
       have h5:cs[o+j]?=some (.str x):=by
        have:((cs.drop o).take xs.length)[j]?=some (.str x):=by rw[h1,List.getElem?_map,hx];rfl
        rwa [List.getElem?_take,if_pos hj,List.getElem?_drop] at this
       obtain⟨v,q1,q2⟩:=g3 _ _ h5
       rw[RV] at q2
       subst q2
       unfold World.cell?
       rw[g1]
       simpa using q1
      ·rintro e w' ⟨rfl,h6⟩
       exact⟨_,rfl,by rw[RV],h6⟩
     ·cases hg
    ·cases hg
   ·cases hg
  ·cases hg
 ·cases hg
end
end Go.Sx
namespace Go.Sx
open LimbNum Go.RowKit
variable [Unk] [Glob]
theorem je.of {P : Program} {f : FuncId} {fn : Func} {g : zI} {e : Array Value → Sem Value} (hf : P.funcs[f]? = some fn) (hname : (fn.name == "runtime.NumGoroutine") = false) (hb : fn.body.isNone = true)
  (hn:Extern.findNext fn=none) (he:Extern.find fn=some e)
  (H:∀ args av,g args=some av→∀ (m:Nm) (w:World) (vals:List Value),RVs m w args vals→∃ v,(e vals.toArray).run P w=.ok v w∧RV m w av v):je P f g:=by
 refine ⟨⟨fn,hf,by simpa using hb⟩,fun args av hg m w vals hv=>?_⟩
 obtain⟨v,h1,h2⟩:=H args av hg m w vals hv
 refine ⟨v,?_,h2⟩
 rw[run_callFunc_extern hf hname hb hn he,h1]
 rfl
section
variable {P : Program}
theorem FE:∀ args av,zD args=some av→∀ (m:Nm) (w:World) (vals:List Value),RVs m w args vals→∃ v,(Extern.MathFloatBits.float64bits vals.toArray).run P w=.ok v w∧RV m w av v:=by
 intro args av h m w vals hv
 unfold zD at h
 split at h
 ·simp only[K5] at h
  subst h
  rw[RVs] at hv
  obtain⟨v,l,rfl,h1,h2⟩:=hv
  rw[RVs] at h2
  subst h2
  rw[RV] at h1
  subst h1
  exact⟨_,rfl,by rw[RV]⟩
 ·cases h
theorem zZ:∀ args av,oY args=some av→∀ (m:Nm) (w:World) (vals:List Value),RVs m w args vals→∃ v,(Extern.MathFloatBits.float32bits vals.toArray).run P w=.ok v w∧RV m w av v:=by
 intro args av h m w vals hv
 unfold oY at h
 split at h
 ·simp only[K5] at h
  subst h
  rw[RVs] at hv
  obtain⟨v,l,rfl,h1,h2⟩:=hv
  rw[RVs] at h2
  subst h2
  rw[RV] at h1
  subst h1
  exact⟨_,rfl,by rw[RV]⟩
 ·cases h
theorem Gh:∀ args av,zE args=some av→∀ (m:Nm) (w:World) (vals:List Value),RVs m w args vals→∃ v,(Extern.MathFloatBits.float64frombits vals.toArray).run P w=.ok v w∧RV m w av v:=by
 intro args av h m w vals hv
 unfold zE at h
 split at h
 ·split at h
  ·simp only[K5] at h
   subst h
   rw[RVs] at hv
   obtain⟨v,l,rfl,h1,h2⟩:=hv
   rw[RVs] at h2
   subst h2
   rw[RV] at h1
   subst h1
   exact⟨_,rfl,by rw[RV]⟩
  ·cases h
 ·cases h
theorem rV (c:UInt8):∀ (l:List UInt8) (i:Nat),indexB c.toNat l i=if Lib.indexByte l c = -1 then -1 else Lib.indexByte l c+i
 | [],i=>by simp[indexB,Lib.indexByte]
 | a::l,i=>by
  rw[indexB,Lib.indexByte]
  have hg:=Lib.indexByte_ge l c
  by_cases h:a=c
  ·subst h
   rw[if_pos (by simp)]
   simp
  ·have h':¬Nat.beq a.toNat c.toNat=true:=fun e=>h (UInt8.toNat_inj.1 (Nat.eq_of_beq_eq_true e))
   rw[if_neg h',rV c l (i+1)]
   have h2:(a==c)=false:=by simpa using h
   rw[h2]
   simp only[Bool.false_eq_true,if_false,beq_iff_eq]
   by_cases h3:Lib.indexByte l c = -1
   ·simp[h3]
   ·simp only[if_neg h3]
    rw[if_neg (by omega)]
    omega
theorem Dc:∀ args av,iQ args=some av→∀ (m:Nm) (w:World) (vals:List Value),RVs m w args vals→∃ v,(Extern.BytealgIndexByte.indexByte vals.toArray).run P w=.ok v w∧RV m w av v:=by
 intro args av h m w vals hv
 unfold iQ at h
 split at h
 ·rename_i s c
  split at h
  ·rename_i hc
   simp only[K5] at h
   subst h
   rw[RVs] at hv
   obtain⟨v,l,rfl,h1,h2⟩:=hv
   rw[RVs] at h2
   obtain⟨v2,l,rfl,h2,h3⟩:=h2
   rw[RVs] at h3
   subst h3
   rw[RV] at h1
   rw[RV] at h2
   subst h1 h2
   refine ⟨_,Lib.run_indexByteString _ _ _,?_⟩
   rw[RV]
   have e:c.toNat=(c.toNat.toUInt8).toNat:=by simp;omega
   have hi:=rV c.toNat.toUInt8 s 0
   rw[←e] at hi
   rw[hi]
   have hd:(⟨s.toArray⟩:ByteArray).data.toList=s:=by simp
   have hg:=Lib.indexByte_ge s c.toNat.toUInt8
   rw[hd]
   generalize Lib.indexByte s c.toNat.toUInt8=z at hg
   congr 1
   split<;>omega
  ·cases h
 ·cases h
end
end Go.Sx
namespace Go.Sx
open Go
theorem nO {P:Program} {w:World}:∀ {l:List (String × DataW Unit)} {ps:List MemPlace},DataW.LaidVars P w l ps→∀ {n:String} {d:DataW Unit},(n,d)∈l →
  ∃ g t cs fuel p,P.globalNamed n=some g∧(P.globals[g]?).map (·.type)=some t∧w.var? P n=some cs∧DataW.trod (fun _=>()) P w 0 (fun _=>true) false fuel t cs.toList=some (d,p)∧∀ x∈MemPlace.row ⟨g,0,none⟩ cs.size,x∈ps
 | [],_,_,_,_,h=>by cases h
 |(n1,d1)::l,ps,h,n,d,hm=>by
  obtain⟨g,t,cs,fuel,p,q,h1,h2,h3,h4,h5,rfl⟩:=h
  rcases List.mem_cons.1 hm with e|hm
  ·cases e
   exact⟨g,t,cs,fuel,p,h1,h2,h3,h4,fun x hx=>by simp[hx]⟩
  ·obtain⟨g',t',cs',fuel',p',a1,a2,a3,a4,a5⟩:=nO h5 hm
   exact⟨g',t',cs',fuel',p',a1,a2,a3,a4,fun x hx=>by simp[a5 x hx]⟩
theorem nE {P:Program} {w:World} {laid:List (String × DataW Unit)} (hl:laidMet P laid w) {n:String} {d:DataW Unit} (hm:(n,d)∈laid) {g t e k:Nat} {ik:IntKind} {ns:List Int}
  (hg:P.globalNamed n=some g) (ht:(P.globals[g]?).map (·.type)=some t) (hu:P.underlying t=some (.array k e)) (he:P.underlying e=some (.int ik)) (hc:P.cellsOf e=1) (hk:P.cellsOf t=k) (h0:0<k)
  (hd:d=.agg (ns.map fun n=>.lit (.int ik n))):∃ (c:Array Value) (e':TypeId),w.heap[g]?=some (.cells c e' (0,0))∧c.toList=ns.map (Value.int ik):=by
 obtain⟨ps,hv,_,hp⟩:=hl
 obtain⟨g',t',cs,fuel,p,a1,a2,a3,a4,a5⟩:=nO hv hm
 obtain rfl:=Option.some.inj (hg.symm.trans a1)
 obtain rfl:=Option.some.inj (ht.symm.trans a2)
 obtain⟨xs,m,rfl,hx,hlen,hn,hel⟩:=DataW.trod_array hu a4
 simp only[Prod.mk.injEq] at hx
 obtain⟨hx1,_⟩:=hx
 rw[hd] at hx1
 have hxl:xs.length=ns.length:=by have h:=DataW.agg.inj hx1;have:=congrArg List.length h;simpa using this.symm
 have hcs:cs.size=k:=by rw[←hk,←hlen];simp
 obtain⟨c,t2,hh⟩:=(hp g 0 (a5 _ (by
  rw[hcs]
  obtain⟨k,rfl⟩:∃ j,k=j+1:=⟨k-1,by omega⟩
  simp[MemPlace.row]))).1
 refine ⟨c,t2,hh,?_⟩
 have hcc:c=cs:=by
  simp only[World.var?,a1,Option.bind_some,hh,K5] at a3
  exact a3
 subst hcc
 refine List.ext_getElem? fun i=>?_
 rcases Nat.lt_or_ge i k with hi|hi
 ·have h1:=hel i hi
  rw[hc,Nat.mul_one] at h1
  have hxi:i<xs.length:=by omega
  rw[List.getElem?_eq_getElem hxi] at h1
  obtain⟨z,e1,e2,_⟩:=DataW.trod_int he h1
  have hn1:(ns.map fun n=>(DataW.lit (.int ik n):DataW Unit))[i]?=(xs.map (·.1))[i]?:=by rw[DataW.agg.inj hx1]
  rw[List.getElem?_map,List.getElem?_map,List.getElem?_eq_getElem hxi,List.getElem?_eq_getElem (by omega:i<ns.length),e2] at hn1
  simp only[Option.map_some,K5,DataW.lit.injEq,Lit.int.injEq,true_and] at hn1
  have hi2:i<c.toList.length:=by simp;omega
  have h2:(c.toList.drop i).take 1=[c.toList[i]]:=by rw[List.drop_eq_getElem_cons hi2];rfl
  rw[h2] at e1
  simp only[List.cons.injEq,and_true] at e1
  rw[List.getElem?_eq_getElem hi2,List.getElem?_map,List.getElem?_eq_getElem (by omega:i<ns.length),e1]
  simp[hn1]
 ·rw[List.getElem?_eq_none (by simp;omega),List.getElem?_eq_none (by simp;omega)]
theorem xp {ik:IntKind} (ns:List Int):KVs (ns.map (AV.int ik)) (ns.map (Value.int ik)):=by
 unfold KVs
 rw[List.map_map,List.map_map]
 rfl
end Go.Sx
