import GoSem.Claim
import Derived.Laws.World
import Derived.Laws.Rows
import Derived.Below
import Derived.Tactics
import Derived.WalkKit
import Derived.OrdersIn
import Derived.TacticsIn
import Derived.LoopNIn
import Derived.RangeFuncRecord
import Derived.Test.YtjbcmmaniphkkaaGreatDoorNum
set_option linter.unusedSectionVars false
set_option linter.unusedVariables false
set_option linter.unusedSimpArgs false
namespace Go.Sx
def kd:Op→Nat
 | .call { callee:=.builtin b,.. }=>match b with | .len | .cap | .max | .min=>0|_=>3
 | .call _=>2
 | .alloc _ | .box .. | .buildSlice .. | .makeSlice .. | .makeMap ..=>1
 | .move _ | .assign _ | .pick .. | .load .. | .fieldAddr .. | .field .. | .indexAddr .. | .index .. | .extract .. | .build .. | .binOp .. | .unOp .. | .convert .. | .makeFunc .. | .nilCheck .. | .slice .. | .lookup ..=>0
 | _=>3
def FB (acc:List Nat) (o:Oper):Nat:=
 o.after.toList.foldl (fun s e=>if Region.binds .any e then s ||| 2^e.on ||| acc.getD e.on 0 else s) 0
def Cv:List Oper→List Nat→List Nat
 | [],acc=>acc
 | o::l,acc=>Cv l (acc++[FB acc o])
def bef (ops:Array Oper):List Nat:=Cv ops.toList []
def rch (ops:Array Oper) (i j:Nat):Bool:=((bef ops).getD i 0).testBit j
def nW (ops:Array Oper) (o:Oper):List Nat:=
 (o.op.operands.toList.filterMap fun | .tmp t=>some t|_=>none)++(match o.guard with|some (g,_)=>((ops[g]?).bind (·.dst)).toList|none=>[])
def lE (ops:Array Oper) (oi oj:Oper):Bool:=
 (match oi.dst with|some d=>oj.dst==some d || (nW ops oj).contains d|none=>false) || (match oj.dst with|some d=>(nW ops oi).contains d|none=>false)
def fX:List Oper→Nat
 | []=>0
 | o::l=>if kd o.op=3 then 0 else fX l+1
def ff (ops:Array Oper):Bool:=
 let p:=fX ops.toList
 (List.range ops.size).all fun i=>match ops[i]? with
  | none=>true
  | some oi=>(oi.after.all fun e=>!Region.binds .any e || Nat.blt e.on i) &&
   (List.range i).all fun j=>match ops[j]? with
    | none=>true
    | some oj=>rch ops i j || (!lE ops oi oj&&(Nat.blt i p || (Nat.blt j p&&Nat.beq (kd oj.op) 0)))
def cL (chk:Array Oper→Bool):Code→Bool
 | .region _ ops draw=>!draw || chk ops
 | .seq a b=>cL chk a&&cL chk b
 | .cond _ a b=>cL chk a&&cL chk b
 | .block _ b=>cL chk b
 | .loop b=>cL chk b
 | .scope b=>cL chk b
 | .rangeFunc _ _ a b=>cL chk a&&cL chk b
 | _=>true
end Go.Sx
namespace Go.Sx
inductive Tr (α : Type) where
 | lf
 | nd (l:Tr α) (v:Option α) (r:Tr α)
namespace Tr
variable {α : Type}
def get:Tr α→Nat→Option α
 | .lf,_=>none
 | .nd l v r,k=>match k with
  | 0=>v
  | j+1=>match j%2 with
   | 0=>l.get (j/2)
   | _+1=>r.get (j/2)
def jB {β:Type}:Nat→Tr α→Nat→Option α→(Tr α→Option β)→Option β
 | 0,_,_,_,_=>none
 | n+1,t,k,x,c=>match k with
  | 0=>match t with
   | .lf=>c (.nd .lf x .lf)
   | .nd l _ r=>c (.nd l x r)
  | j+1=>match t with
   | .lf=>match j%2 with
    | 0=>jB n .lf (j/2) x fun t'=>c (.nd t' none .lf)
    | _+1=>jB n .lf (j/2) x fun t'=>c (.nd .lf none t')
   | .nd l v r=>match j%2 with
    | 0=>jB n l (j/2) x fun t'=>c (.nd t' v r)
    | _+1=>jB n r (j/2) x fun t'=>c (.nd l v t')
def depth:Nat:=48
theorem ju (k:Nat):(lf:Tr α).get k=none:=rfl
theorem uL (l r:Tr α) (v:Option α):(nd l v r).get 0=v:=rfl
theorem bu (l r:Tr α) (v:Option α) (j:Nat):(nd l v r).get (j+1)=if j%2=0 then l.get (j/2) else r.get (j/2):=by
 rw[get]
 split<;>rename_i h
 ·rw[if_pos h]
 ·rw[if_neg (by omega)]
theorem dy {β:Type}:∀ (n:Nat) (t:Tr α) (k:Nat) (x:Option α) (c:Tr α→Option β) (r:β),jB n t k x c=some r →
  ∃ t',c t'=some r∧t'.get k=x∧∀ i,i≠k→t'.get i=t.get i:=by
 intro n
 induction n with
 | zero=>intro t k x c r h;simp[jB] at h
 | succ n ih=>
  intro t k x c r h
  cases k with
  | zero=>
   cases t with
   | lf=>
    exact⟨_,h,rfl,fun i hi=>by cases i with
     | zero=>exact absurd rfl hi
     | succ i=>rw[bu];simp[ju]⟩
   | nd l v r'=>
    exact⟨_,h,rfl,fun i hi=>by cases i with
     | zero=>exact absurd rfl hi
     | succ i=>rw[bu,bu]⟩
  | succ j=>
   cases t with
   | lf=>
    rw[jB] at h
    split at h<;>rename_i hj
    ·obtain⟨t',hc,hk,ho⟩:=ih _ _ _ _ _ h
     refine ⟨_,hc,?_,fun i hi=>?_⟩
     ·rw[bu,if_pos hj,hk]
     ·cases i with
      | zero=>rfl
      | succ i=>
       rw[bu,ju]
       split
       ·rw[ho _ (by omega),ju];rfl
       ·rfl
    ·obtain⟨t',hc,hk,ho⟩:=ih _ _ _ _ _ h
     refine ⟨_,hc,?_,fun i hi=>?_⟩
     ·rw[bu,if_neg (by omega),hk]
     ·cases i with
      | zero=>rfl
      | succ i=>
       rw[bu,ju]
       split
       ·rfl
       ·rw[ho _ (by omega),ju];rfl
   | nd l v r'=>
    rw[jB] at h
    split at h<;>rename_i hj
    ·obtain⟨t',hc,hk,ho⟩:=ih _ _ _ _ _ h
     refine ⟨_,hc,?_,fun i hi=>?_⟩
     ·rw[bu,if_pos hj,hk]
     ·cases i with
      | zero=>rfl
      | succ i=>
       rw[bu,bu]
       split
       ·rw[ho _ (by omega)]
       ·rfl
    ·obtain⟨t',hc,hk,ho⟩:=ih _ _ _ _ _ h
     refine ⟨_,hc,?_,fun i hi=>?_⟩
     ·rw[bu,if_neg (by omega),hk]
     ·cases i with
      | zero=>rfl
      | succ i=>
       rw[bu,bu]
       split
       ·rfl
       ·rw[ho _ (by omega)]
end Tr
inductive SE where
 | v (i:Nat)
 | int (n:Int)
 | add (a b:SE)
 | sub (a b:SE)
 | mul (a b:SE)
 | quo (a b:SE)
 | neg (a:SE)
 | bin (k:Nat) (a b:SE)
def SE.eq:SE→SE→Bool
 | .v i,.v j=>Nat.beq i j
 | .int (.ofNat i),.int (.ofNat j)=>Nat.beq i j
 | .int (.negSucc i),.int (.negSucc j)=>Nat.beq i j
 | .add a b,.add c d=>SE.eq a c&&SE.eq b d
 | .sub a b,.sub c d=>SE.eq a c&&SE.eq b d
 | .mul a b,.mul c d=>SE.eq a c&&SE.eq b d
 | .quo a b,.quo c d=>SE.eq a c&&SE.eq b d
 | .neg a,.neg c=>SE.eq a c
 | .bin i a b,.bin j c d=>Nat.beq i j&&(SE.eq a c&&SE.eq b d)
 | _,_=>false
theorem SE.eq_eq:∀ (a b:SE),SE.eq a b=true→a=b:=by
 intro a
 induction a with
 | v i=>intro b h;cases b<;>simp_all [SE.eq]
 | int n=>intro b h;cases b with
  | int m=>cases n<;>cases m<;>simp_all [SE.eq]
  | _=>simp_all [SE.eq]
 | neg a ih=>intro b h;cases b with
  | neg b=>rw[ih b (by simpa [SE.eq] using h)]
  | _=>simp[SE.eq] at h
 | add a b iha ihb=>intro c h;cases c with
  | add c d=>simp only[SE.eq,Bool.and_eq_true] at h;rw[iha c h.1,ihb d h.2]
  | _=>simp[SE.eq] at h
 | sub a b iha ihb=>intro c h;cases c with
  | sub c d=>simp only[SE.eq,Bool.and_eq_true] at h;rw[iha c h.1,ihb d h.2]
  | _=>simp[SE.eq] at h
 | mul a b iha ihb=>intro c h;cases c with
  | mul c d=>simp only[SE.eq,Bool.and_eq_true] at h;rw[iha c h.1,ihb d h.2]
  | _=>simp[SE.eq] at h
 | quo a b iha ihb=>intro c h;cases c with
  | quo c d=>simp only[SE.eq,Bool.and_eq_true] at h;rw[iha c h.1,ihb d h.2]
  | _=>simp[SE.eq] at h
 | bin k a b iha ihb=>intro c h;cases c with
  | bin l c d=>simp only[SE.eq,Bool.and_eq_true] at h;rw[Nat.eq_of_beq_eq_true h.1,iha c h.2.1,ihb d h.2.2]
  | _=>simp[SE.eq] at h
inductive Sy where
 | nc (e:SE) (i:Nat)
 | ss (e:SE)
 | st (i:Nat)
 | junk
 | si (i:Nat)
inductive AV where
 | bool (b:Bool)
 | int (k:IntKind) (n:Int)
 | float (k:FloatKind) (bits:Nat)
 | str (s:List UInt8)
 | nilp
 | ptr (b off:Nat)
 | nils
 | sl (b off len esz:Nat)
 | big (n:Nat)
 | mp (b:Nat)
 | gp (g off:Nat)
 | nilm
 | fn (f:FuncId) (caps:List AV)
 | nilf
 | agg (cs:List AV)
 | tup (vs:List AV)
 | dead
 | sym (s:Sy)
 | yl (b:Nat)
 | lp (s:LoopState) (ps:Array Tmp) (asg bod:Code) (jp:Option Code)
 deriving Inhabited
variable {β : Type}
def aW (n:Nat) (k:Nat→β):β:=match n with
 | 0=>k 0
 | m+1=>k (m+1)
def cK (n:Int) (k:Int→β):β:=match n with
 | .ofNat m=>aW m fun m=>k (.ofNat m)
 | .negSucc m=>aW m fun m=>k (.negSucc m)
def cC (b:Bool) (k:Bool→β):β:=match b with
 | true=>k true
 | false=>k false
def cV {α:Type}:List α→(List α→β)→β
 | [],k=>k []
 | x::l,k=>cV l fun l=>k (x::l)
@[simp] theorem aT (n : Nat) (k : Nat → β) : aW n k = k n := by cases n <;> rfl
@[simp] theorem dw (n : Int) (k : Int → β) : cK n k = k n := by cases n <;> simp [cK]
@[simp] theorem ez (b : Bool) (k : Bool → β) : cC b k = k b := by cases b <;> rfl
@[simp] theorem bS {α : Type} (l : List α) : ∀ (k : List α → β), cV l k = k l := by
 induction l with
 | nil=>intro k;rfl
 | cons x l ih=>intro k;simp[cV,ih]
mutual
def gm (v:AV) (k:AV→β):β:=match v with
 | .bool b=>cC b fun b=>k (.bool b)
 | .int i n=>cK n fun n=>k (.int i n)
 | .float i n=>aW n fun n=>k (.float i n)
 | .str s=>cV s fun s=>k (.str s)
 | .nilp=>k .nilp
 | .ptr b o=>aW b fun b=>aW o fun o=>k (.ptr b o)
 | .nils=>k .nils
 | .sl b o n e=>aW b fun b=>aW o fun o=>aW n fun n=>aW e fun e=>k (.sl b o n e)
 | .big n=>aW n fun n=>k (.big n)
 | .mp b=>aW b fun b=>k (.mp b)
 | .nilm=>k .nilm
 | .gp g o=>aW g fun g=>aW o fun o=>k (.gp g o)
 | .fn f cs=>fK cs fun cs=>k (.fn f cs)
 | .nilf=>k .nilf
 | .agg cs=>fK cs fun cs=>k (.agg cs)
 | .tup cs=>fK cs fun cs=>k (.tup cs)
 | .dead=>k .dead
 | .sym s=>k (.sym s)
 | .yl b=>aW b fun b=>k (.yl b)
 | .lp s p a b j=>k (.lp s p a b j)
def fK (l:List AV) (k:List AV→β):β:=match l with
 | []=>k []
 | x::l=>gm x fun x=>fK l fun l=>k (x::l)
end
mutual
theorem kJ (v:AV) (k:AV→β):gm v k=k v:=by
 cases v with
 | fn f cs=>rw[gm];exact gn cs _
 | agg cs=>rw[gm];exact gn cs _
 | tup cs=>rw[gm];exact gn cs _
 | _=>simp[gm]
theorem gn (l:List AV) (k:List AV→β):fK l k=k l:=by
 cases l with
 | nil=>rw[fK]
 | cons x l=>rw[fK,kJ x,gn l]
end
def pz (v:AV) (k:AV→β):β:=match v with
 | .bool b=>k (.bool b)
 | .int i n=>k (.int i n)
 | .float i n=>k (.float i n)
 | .str s=>k (.str s)
 | .nilp=>k .nilp
 | .ptr b o=>k (.ptr b o)
 | .nils=>k .nils
 | .sl b o n e=>k (.sl b o n e)
 | .big n=>k (.big n)
 | .mp b=>k (.mp b)
 | .nilm=>k .nilm
 | .gp g o=>k (.gp g o)
 | .fn f cs=>k (.fn f cs)
 | .nilf=>k .nilf
 | .agg cs=>k (.agg cs)
 | .tup cs=>k (.tup cs)
 | .dead=>k .dead
 | .sym s=>k (.sym s)
 | .yl b=>k (.yl b)
 | .lp s p a b j=>k (.lp s p a b j)
@[simp] theorem gV (v : AV) (k : AV → β) : pz v k = k v := by cases v <;> rfl
end Go.Sx
namespace Go.Sx
open LimbNum
def cQ (w:World) (a:Option Addr) (xs:List Nat):Prop:=
 (a=none∧xs=[])∨∃ b off,a=some ⟨b,off,none⟩∧b<w.heap.size∧∀ i,i<xs.length→w.cell? ⟨b,off+i,none⟩=some (.int .u64 ((xs.getD i 0:Nat):Int))
def Lim (w:World) (v:Value) (n:Nat):Prop:=
 ∃ a c,v=.slice a (size n) c∧size n≤c∧cQ w a (ai n)
def U64 (w w':World):Prop:=∀ a n,w.cell? a=some (.int .u64 n)→w'.cell? a=some (.int .u64 n)
def Grow (w w':World):Prop:=w.heap.size≤w'.heap.size∧∀ (b:Nat) (c:Array Value) (e:TypeId) (f:Nat × Nat),w.heap[b]?=some (.cells c e f) →
 ∃ (c':Array Value) (f':Nat × Nat),w'.heap[b]?=some (.cells c' e f')∧c'.size=c.size
theorem U64.rfl' (w:World):U64 w w:=fun _ _ h=>h
theorem U64.comp {u v w:World} (h:U64 u v) (h':U64 v w):U64 u w:=fun a n hn=>h' a n (h a n hn)
theorem Grow.rfl' (w:World):Grow w w:=⟨K6 _,fun _ c _ f h=>⟨c,f,h,rfl⟩⟩
theorem Grow.comp {u v w:World} (h:Grow u v) (h':Grow v w):Grow u w:=
 ⟨Nat.le_trans h.1 h'.1,fun b c e f hb=>by
  obtain⟨c1,f1,h1,s1⟩:=h.2 b c e f hb
  obtain⟨c2,f2,h2,s2⟩:=h'.2 b c1 e f1 h1
  exact⟨c2,f2,h2,s2.trans s1⟩⟩
theorem Lim.keep {w w':World} {v:Value} {n:Nat} (h:Lim w v n) (hg:w.heap.size≤w'.heap.size) (hu:U64 w w'):Lim w' v n:=by
 obtain⟨a,c,rfl,hc,hr⟩:=h
 refine ⟨a,c,rfl,hc,?_⟩
 rcases hr with hr|⟨b,off,rfl,hb,hcell⟩
 ·exact .inl hr
 ·exact .inr ⟨b,off,rfl,Nat.lt_of_lt_of_le hb hg,fun i hi=>hu _ _ (hcell i hi)⟩
def Gl (op:BinOp) (a b:Int):Option Bool:=match op with
 | .eql=>some (a==b)
 | .neq=>some (a != b)
 | .lss=>some (decide (a<b))
 | .leq=>some (decide (a≤b))
 | .gtr=>some (decide (a>b))
 | .geq=>some (decide (a ≥ b))
 | _=>none
class Unk where
 is:Sy→World→Value→Prop
 keep:∀ s w w' v,Grow w w'→U64 w w'→is s w v→is s w' v
 cell:∀ s w v,is s w v→(∀ n,v≠.int .u64 n)∧(∀ c,v≠.agg c)∧∀ c,v≠.tuple c
 eqS:Sy→Sy→Option Bool
 eqL:Sy→List UInt8→Option Bool
 okS:∀ a b r,eqS a b=some r→∀ w v u,is a w v→is b w u→∃ x y,v=.string x∧u=.string y∧(x==y)=r
 okL:∀ a l r,eqL a l=some r→∀ w v,is a w v→∃ x,v=.string x∧(x==⟨l.toArray⟩)=r
 toK:Sy→IntKind→Option Sy
 okK:∀ a k b,toK a k=some b→∀ w v,is a w v→∃ i n,v=.int i n∧is b w (.int k (k.wrap n))
 cmpB:Sy→BinOp→IntKind→Int→Option Bool
 okB:∀ a op k n r,cmpB a op k n=some r→∀ w v,is a w v→∃ m,v=.int k m∧Gl op m n=some r
@[instance_reducible] def vA : Unk := ⟨fun _ _ _ => False, fun _ _ _ _ _ _ h => h, fun _ _ _ h => h.elim, fun _ _ => none, fun _ _ => none, fun _ _ _ h => (by cases h), fun _ _ _ h => (by cases h), fun _ _ => none, fun _ _ _ h => (by cases h), fun _ _ _ _ => none, fun _ _ _ _ _ h => (by cases h)⟩
variable [Unk]
abbrev Nm:=Nat→Option Nat
abbrev AH:=Tr (List AV)
abbrev Hf:=Nat→Option (List AV)
def room (w:World) (b n:Nat):Prop:=∃ (c:Array Value) (e:TypeId) (f:Nat × Nat),w.heap[b]?=some (.cells c e f)∧n≤c.size
theorem room.keep {w w':World} {b n:Nat} (h:room w b n) (hg:Grow w w'):room w' b n:=by
 obtain⟨c,e,f,hb,hn⟩:=h
 obtain⟨c',f',hb',hs⟩:=hg.2 b c e f hb
 exact⟨c',e,f',hb',by omega⟩
mutual
def RV (m:Nm) (w:World) (a:AV) (v:Value):Prop:=match a with
 | .bool b=>v=.bool b
 | .int k n=>v=.int k n
 | .float k n=>v=.float k n
 | .str s=>v=.string ⟨s.toArray⟩
 | .nilp=>v=.pointer none
 | .ptr b o=>∃ rb,m b=some rb∧v=.pointer (some ⟨rb,o,none⟩)
 | .nils=>v=.slice none 0 0
 | .sl b o n e=>∃ rb cap,m b=some rb∧v=.slice (some ⟨rb,o,none⟩) n cap∧n≤cap∧room w rb (o+cap*e)
 | .big n=>Lim w v n
 | .mp b=>∃ rb,m b=some rb∧v=.map (some rb)
 | .nilm=>v=.map none
 | .gp g o=>v=.pointer (some ⟨g,o,none⟩)
 | .fn f cs=>∃ l,v=.func (.func f) #[] l.toArray∧RVs m w cs l
 | .nilf=>v=.nilFunc
 | .agg cs=>∃ l,v=.agg l.toArray∧RVs m w cs l
 | .tup cs=>∃ l,v=.tuple l.toArray∧RVs m w cs l
 | .dead=>True
 | .sym s=>Unk.is s w v
 | .yl b=>∃ rb,m b=some rb∧v=.func (.yield rb) #[] #[]
 | .lp ..=>False
def RVs (m:Nm) (w:World) (as:List AV) (vs:List Value):Prop:=match as with
 | []=>vs=[]
 | a::as=>∃ v l,vs=v::l∧RV m w a v∧RVs m w as l
end
def Ext (m m':Nm):Prop:=∀ b x,m b=some x→m' b=some x
theorem Ext.rfl' (m:Nm):Ext m m:=fun _ _ h=>h
theorem Ext.comp {a b c:Nm} (h:Ext a b) (h':Ext b c):Ext a c:=fun x y hx=>h' x y (h x y hx)
mutual
theorem RV.keep {m m':Nm} {w w':World} (he:Ext m m') (hg:Grow w w') (hu:U64 w w') (a:AV) (v:Value) (h:RV m w a v):RV m' w' a v:=by
 cases a with
 | ptr b o=>rw[RV] at h ⊢;obtain⟨rb,h1,h2⟩:=h;exact⟨rb,he _ _ h1,h2⟩
 | sl b o n e=>rw[RV] at h ⊢;obtain⟨rb,cap,h1,h2,h3,h4⟩:=h;exact⟨rb,cap,he _ _ h1,h2,h3,h4.keep hg⟩
 | big n=>rw[RV] at h ⊢;exact Lim.keep h hg.1 hu
 | mp b=>rw[RV] at h ⊢;obtain⟨rb,h1,h2⟩:=h;exact⟨rb,he _ _ h1,h2⟩
 | yl b=>rw[RV] at h ⊢;obtain⟨rb,h1,h2⟩:=h;exact⟨rb,he _ _ h1,h2⟩
 | sym s=>rw[RV] at h ⊢;exact Unk.keep s w w' v hg hu h
 | fn f cs=>rw[RV] at h ⊢;obtain⟨l,h1,h2⟩:=h;exact⟨l,h1,RVs.keep he hg hu cs l h2⟩
 | agg cs=>rw[RV] at h ⊢;obtain⟨l,h1,h2⟩:=h;exact⟨l,h1,RVs.keep he hg hu cs l h2⟩
 | tup cs=>rw[RV] at h ⊢;obtain⟨l,h1,h2⟩:=h;exact⟨l,h1,RVs.keep he hg hu cs l h2⟩
 | _=>rw[RV] at h ⊢;exact h
theorem RVs.keep {m m':Nm} {w w':World} (he:Ext m m') (hg:Grow w w') (hu:U64 w w') (as:List AV) (vs:List Value) (h:RVs m w as vs):RVs m' w' as vs:=by
 cases as with
 | nil=>rw[RVs] at h ⊢;exact h
 | cons a as=>
  rw[RVs] at h ⊢
  obtain⟨v,l,h1,h2,h3⟩:=h
  exact⟨v,l,h1,RV.keep he hg hu a v h2,RVs.keep he hg hu as l h3⟩
end
theorem RVs.length {m:Nm} {w:World}:∀ {as:List AV} {vs:List Value},RVs m w as vs→as.length=vs.length
 | [],vs,h=>by rw[RVs] at h;rw[h];rfl
 | a::as,vs,h=>by
  rw[RVs] at h
  obtain⟨v,l,rfl,_,h3⟩:=h
  simp[RVs.length h3]
theorem RVs.get {m:Nm} {w:World}:∀ {as:List AV} {vs:List Value},RVs m w as vs→∀ {i:Nat} {a:AV},as[i]?=some a→∃ v,vs[i]?=some v∧RV m w a v
 | [],vs,h,i,a,ha=>by simp at ha
 | x::as,vs,h,i,a,ha=>by
  rw[RVs] at h
  obtain⟨v,l,rfl,h2,h3⟩:=h
  cases i with
  | zero=>simp only[K9,K5] at ha;subst ha;exact⟨v,rfl,h2⟩
  | succ i=>simp only[K8] at ha ⊢;exact RVs.get h3 ha
theorem RVs.eH {m:Nm} {w:World}:∀ {as:List AV} {vs:List Value},as.length=vs.length→(∀ (i:Nat) a,as[i]?=some a→∃ v,vs[i]?=some v∧RV m w a v)→RVs m w as vs
 | [],vs,hl,h=>by rw[RVs];exact List.eq_nil_of_length_eq_zero hl.symm
 | a::as,[],hl,h=>by simp at hl
 | a::as,v::vs,hl,h=>by
  rw[RVs]
  obtain⟨v',h1,h2⟩:=h 0 a rfl
  simp only[K9,K5] at h1
  subst h1
  exact⟨v,vs,rfl,h2,RVs.eH (by simpa using hl) fun i b hb=>by simpa using h (i+1) b (by simpa using hb)⟩
theorem RVs.append {m:Nm} {w:World} {as bs:List AV} {vs us:List Value} (h:RVs m w as vs) (h':RVs m w bs us):RVs m w (as++bs) (vs++us):=by
 induction as generalizing vs with
 | nil=>rw[RVs] at h;subst h;exact h'
 | cons a as ih=>
  rw[RVs] at h
  obtain⟨v,l,rfl,h2,h3⟩:=h
  exact⟨v,l++us,rfl,h2,ih h3⟩
theorem RVs.take {m:Nm} {w:World} {as:List AV} {vs:List Value} (h:RVs m w as vs) (n:Nat):RVs m w (as.take n) (vs.take n):=by
 refine RVs.eH (by simp[h.length]) fun i a ha=>?_
 rw[List.getElem?_take] at ha ⊢
 split at ha
 ·rw[if_pos ‹_›];exact h.get ha
 ·cases ha
theorem RVs.drop {m:Nm} {w:World} {as:List AV} {vs:List Value} (h:RVs m w as vs) (n:Nat):RVs m w (as.drop n) (vs.drop n):=by
 refine RVs.eH (by simp[h.length]) fun i a ha=>?_
 rw[List.getElem?_drop] at ha ⊢
 exact h.get ha
theorem RVs.set {m:Nm} {w:World} {as:List AV} {vs:List Value} (h:RVs m w as vs) (i:Nat) {a:AV} {v:Value} (hv:RV m w a v):RVs m w (as.set i a) (vs.set i v):=by
 refine RVs.eH (by simp[h.length]) fun j b hb=>?_
 by_cases hij:i=j
 ·subst hij
  have hi:i<as.length:=by
   rcases Nat.lt_or_ge i as.length with h'|h'
   ·exact h'
   ·rw[List.getElem?_eq_none (by simpa using h')] at hb;cases hb
  rw[List.getElem?_set_self hi] at hb
  cases hb
  exact⟨v,by rw[List.getElem?_set_self (by rw[←h.length];exact hi)],hv⟩
 ·rw[List.getElem?_set_ne hij] at hb ⊢
  exact h.get hb
def NoU (c:Array Value):Prop:=∀ (i:Nat) n,c[i]?≠some (.int .u64 n)
def isM:List AV→Bool
 | .tup _::_=>true
 | .lp .. :: _=>true
 | _=>false
def pw (e:MapEntry):Value:=.agg #[e.key,e.val]
structure LpAt (s : LoopState) (ps : Array Tmp) (asg bod : Code) (jp : Option Code) (r : Loop) : Prop where
 eS:r.state=s
 eP:r.params=ps
 eA:r.assign=asg
 eB:r.body=bod
 eJ:r.pending=jp
 ga:cL ff asg=true
 gb:cL ff bod=true
def nG (m:Nm) (w:World) (cells:List AV) (o:Obj):Prop:=
 (isM cells=false∧∃ (c:Array Value) (e:TypeId),o=.cells c e (0,0)∧cells.length≤c.size∧(∀ (i:Nat) a,cells[i]?=some a→∃ v,c[i]?=some v∧RV m w a v)∧NoU c) ∨
 (∃ es l en ck,cells=.tup es::l∧o=.map en ck∧RVs m w es (en.toList.map pw)) ∨
 ∃ s ps asg bod jp tl r,cells=.lp s ps asg bod jp::tl∧o=.loop r∧LpAt s ps asg bod jp r∧RVs m w tl r.tmps.toList
class Glob where
 gt:Tr (List AV)
variable [Glob]
def kv:AV→Option Value
 | .bool b=>some (.bool b)
 | .int k n=>some (.int k n)
 | .float k n=>some (.float k n)
 | .str s=>some (.string ⟨s.toArray⟩)
 | _=>none
def KVs (as:List AV) (vs:List Value):Prop:=as.map kv=vs.map some
theorem KVs.rvs {m:Nm} {w:World}:∀ {as:List AV} {vs:List Value},KVs as vs→RVs m w as vs
 | [],vs,h=>by
  cases vs with
  | nil=>rw[RVs]
  | cons v vs=>cases h
 | a::as,vs,h=>by
  cases vs with
  | nil=>cases h
  | cons v vs=>
   unfold KVs at h
   simp only[List.map_cons,List.cons.injEq] at h
   rw[RVs]
   refine ⟨v,vs,rfl,?_,KVs.rvs h.2⟩
   have h1:=h.1
   cases a<;>simp only[kv,K5,reduceCtorEq] at h1<;>subst h1<;>rw[RV]
def jf (m:Nm) (w:World) (h:Hf):Prop:=∀ g as,Glob.gt.get g=some as →
 (∃ (c:Array Value) (e:TypeId),w.heap[g]?=some (.cells c e (0,0))∧KVs as c.toList)∧∀ b,h b≠none→m b≠some g
structure RS (m : Nm) (w : World) (h : Hf) : Prop where
 obj:∀ b cells rb,h b=some cells→m b=some rb→∃ o,w.heap[rb]?=some o∧nG m w cells o
 inj:∀ b b' x,h b≠none→h b'≠none→m b=some x→m b'=some x→b=b'
 glob:jf m w h
theorem RS.blk {m:Nm} {w:World} {h:Hf} (hs:RS m w h) (b:Nat) (cells:List AV) (rb:Nat) (hb:h b=some cells) (hM:isM cells=false) (hm:m b=some rb):∃ (c:Array Value) (e:TypeId),w.heap[rb]?=some (.cells c e (0,0))∧cells.length≤c.size ∧
  (∀ (i:Nat) a,cells[i]?=some a→∃ v,c[i]?=some v∧RV m w a v)∧NoU c:=by
 obtain⟨o,h1,h2⟩:=hs.obj b cells rb hb hm
 rcases h2 with ⟨_,c,e,rfl,h3,h4,h5⟩|⟨es,l,en,ck,rfl,_⟩|⟨s,ps,asg,bod,jp,tl,r,rfl,_⟩
 ·exact⟨c,e,h1,h3,h4,h5⟩
 ·cases hM
 ·cases hM
theorem RS.mp {m:Nm} {w:World} {h:Hf} (hs:RS m w h) (b:Nat) (es l:List AV) (rb:Nat) (hb:h b=some (.tup es::l)) (hm:m b=some rb):∃ en ck,w.heap[rb]?=some (.map en ck)∧RVs m w es (en.toList.map pw):=by
 obtain⟨o,h1,h2⟩:=hs.obj b _ rb hb hm
 rcases h2 with ⟨h3,_⟩|⟨es',l',en,ck,h3,rfl,h4⟩|⟨s,ps,asg,bod,jp,tl,r,h3,_⟩
 ·cases h3
 ·cases h3
  exact⟨en,ck,h1,h4⟩
 ·cases h3
theorem RS.lp {m:Nm} {w:World} {h:Hf} (hs:RS m w h) (b:Nat) (s:LoopState) (ps:Array Tmp) (asg bod:Code) (jp:Option Code) (tl:List AV) (rb:Nat) (hb:h b=some (.lp s ps asg bod jp::tl)) (hm:m b=some rb) :
  ∃ r,w.heap[rb]?=some (.loop r)∧LpAt s ps asg bod jp r∧RVs m w tl r.tmps.toList:=by
 obtain⟨o,h1,h2⟩:=hs.obj b _ rb hb hm
 rcases h2 with ⟨h3,_⟩|⟨es',l',en,ck,h3,_⟩|⟨s',ps',asg',bod',jp',tl',r,h3,rfl,h4,h5⟩
 ·cases h3
 ·cases h3
 ·cases h3
  exact⟨r,h1,h4,h5⟩
theorem Gn {l:List AV} (h:∀ es,l[0]?≠some (.tup es)) (h':∀ s ps asg bod jp,l[0]?≠some (.lp s ps asg bod jp)):isM l=false:=by
 cases l with
 | nil=>rfl
 | cons a l=>cases a<;>first|rfl|exact absurd rfl (h _)|exact absurd rfl (h' _ _ _ _ _)
def eT (w w':World):Prop:=w'.os=w.os∧w'.tape=w.tape∧w'.output=w.output
theorem eT.rfl' (w:World):eT w w:=⟨rfl,rfl,rfl⟩
theorem eT.comp {u v w:World} (h:eT u v) (h':eT v w):eT u w:=⟨h'.1.trans h.1,h'.2.1.trans h.2.1,h'.2.2.trans h.2.2⟩
structure To (m : Nm) (h : Hf) (w : World) (m' : Nm) (h' : Hf) (w' : World) : Prop where
 ext:Ext m m'
 grow:Grow w w'
 u64:U64 w w'
 env:eT w w'
 keep:∀ rb,rb<w.heap.size→(∀ b,h b≠none→m b≠some rb)→w'.heap[rb]?=w.heap[rb]?
 img:∀ b rb,h' b≠none→m' b=some rb→w.heap.size≤rb∨∃ b0,h b0≠none∧m b0=some rb
theorem To.rfl' {m:Nm} {h:Hf} {w:World}:To m h w m h w:=
 ⟨Ext.rfl' _,Grow.rfl' _,U64.rfl' _,eT.rfl' _,fun _ _ _=>rfl,fun b rb hb hm=>.inr ⟨b,hb,hm⟩⟩
theorem To.comp {m m1 m2:Nm} {h h1 h2:Hf} {w w1 w2:World} (a:To m h w m1 h1 w1) (b:To m1 h1 w1 m2 h2 w2):To m h w m2 h2 w2:=by
 refine ⟨a.ext.comp b.ext,a.grow.comp b.grow,a.u64.comp b.u64,a.env.comp b.env,fun rb hr hn=>?_,fun x rb hx hm=>?_⟩
 ·rw[b.keep rb (Nat.lt_of_lt_of_le hr a.grow.1) fun x hx hm=>?_]
  ·exact a.keep rb hr hn
  ·rcases a.img x rb hx hm with h2|⟨b0,h3,h4⟩
   ·omega
   ·exact hn b0 h3 h4
 ·rcases b.img x rb hx hm with h2|⟨b0,h3,h4⟩
  ·exact .inl (Nat.le_trans a.grow.1 h2)
  ·exact a.img b0 rb h3 h4
theorem To.rv {m m':Nm} {h h':Hf} {w w':World} (t:To m h w m' h' w') {a:AV} {v:Value} (hv:RV m w a v):RV m' w' a v:=RV.keep t.ext t.grow t.u64 a v hv
theorem jf.to {m m':Nm} {h h':Hf} {w w':World} (hg:jf m w h) (t:To m h w m' h' w'):jf m' w' h':=fun g as hga=>by
 obtain⟨⟨c,e,h1,h2⟩,h3⟩:=hg g as hga
 have hlt:g<w.heap.size:=(Array.getElem?_eq_some_iff.1 h1).1
 refine ⟨⟨c,e,by rw[t.keep g hlt h3];exact h1,h2⟩,fun b hb hm=>?_⟩
 rcases t.img b g hb hm with h4|⟨b0,h4,h5⟩
 ·omega
 ·exact h3 b0 h4 h5
theorem nG.to {m m':Nm} {h h':Hf} {w w':World} (t:To m h w m' h' w') {cells:List AV} {o:Obj} (hb:nG m w cells o):nG m' w' cells o:=by
 rcases hb with ⟨h1,c,e,rfl,h3,h4,h5⟩|⟨es,l,en,ck,rfl,rfl,h3⟩|⟨s,ps,asg,bod,jp,tl,r,rfl,rfl,h3,h4⟩
 ·exact .inl ⟨h1,c,e,rfl,h3,fun i a ha=>(by obtain⟨v,q1,q2⟩:=h4 i a ha;exact⟨v,q1,RV.keep t.ext t.grow t.u64 a v q2⟩),h5⟩
 ·exact .inr (.inl ⟨es,l,en,ck,rfl,rfl,RVs.keep t.ext t.grow t.u64 _ _ h3⟩)
 ·exact .inr (.inr ⟨s,ps,asg,bod,jp,tl,r,rfl,rfl,h3,RVs.keep t.ext t.grow t.u64 _ _ h4⟩)
theorem To.rvs {m m':Nm} {h h':Hf} {w w':World} (t:To m h w m' h' w') {a:List AV} {v:List Value} (hv:RVs m w a v):RVs m' w' a v:=RVs.keep t.ext t.grow t.u64 a v hv
theorem eR {w:World} {b:Nat} {o:Obj} (h:w.heap[b]?=some o):b<w.heap.size:=(Array.getElem?_eq_some_iff.1 h).1
theorem RS.lt {m:Nm} {w:World} {h:Hf} (hs:RS m w h) {b x:Nat} (hb:h b≠none) (hm:m b=some x):x<w.heap.size:=by
 cases hc:h b with
 | none=>exact absurd hc hb
 | some cells=>obtain⟨o,h1,_⟩:=hs.obj b cells x hc hm;exact eR h1
theorem RS.JB {m:Nm} {w:World} {h h':Hf} {nx:Nat} (hs:RS m w h) (hf:m nx=none) {cells:List AV} (hget:h' nx=some cells) (hoth:∀ i,i≠nx→h' i=h i)
  (ob:Obj) (hc:nG m w cells ob) :
  RS (fun i=>if i=nx then some w.heap.size else m i) (w.alloc ob) h'∧To m h w (fun i=>if i=nx then some w.heap.size else m i) h' (w.alloc ob):=by
 have hext:Ext m (fun i=>if i=nx then some w.heap.size else m i):=fun b x hb=>by
  by_cases hbn:b=nx
  ·subst hbn;rw[hf] at hb;cases hb
  ·simp only[if_neg hbn];exact hb
 have hold:∀ (b:Nat) (o:Obj),w.heap[b]?=some o→(w.alloc ob).heap[b]?=some o:=fun b o hb=>by
  show (w.heap.push _)[b]?=some o
  rw[Array.getElem?_push,if_neg (by have:=eR hb;omega)];exact hb
 have hg:Grow w (w.alloc ob):=⟨by show _≤(w.heap.push _).size;simp,fun b c' e' f hb=>⟨c',f,hold b _ hb,rfl⟩⟩
 have hu64:U64 w (w.alloc ob):=fun a n ha=>by
  unfold World.cell? at ha ⊢
  cases hb:w.heap[a.block]? with
  | none=>rw[hb] at ha;cases ha
  | some o=>rw[hold _ _ hb];rw[hb] at ha;exact ha
 have hto:To m h w (fun i=>if i=nx then some w.heap.size else m i) h' (w.alloc ob):=by
  refine ⟨hext,hg,hu64,⟨rfl,rfl,rfl⟩,fun r hr _=>?_,fun b rb hb hm=>?_⟩
  ·show (w.heap.push _)[r]?=_
   rw[Array.getElem?_push,if_neg (by omega)]
  ·by_cases hbn:b=nx
   ·rw[if_pos hbn] at hm;cases hm;exact .inl (K6 _)
   ·rw[if_neg hbn] at hm
    rw[hoth b hbn] at hb
    exact .inr ⟨b,hb,hm⟩
 refine ⟨⟨fun b cs rb hb hm=>?_,fun b b' x hb hb' hm hm'=>?_,hs.glob.to hto⟩,hto⟩
 ·by_cases hbn:b=nx
  ·subst hbn
   rw[hget] at hb;cases hb
   simp only[if_true,K5] at hm
   subst hm
   refine ⟨ob,?_,hc.to hto⟩
   show (w.heap.push _)[w.heap.size]?=_
   simp
  ·rw[hoth b hbn] at hb
   simp only[if_neg hbn] at hm
   obtain⟨o,h2,h3⟩:=hs.obj b cs rb hb hm
   exact⟨o,hold _ _ h2,h3.to hto⟩
 ·have key:∀ b x,h' b≠none→(if b=nx then some w.heap.size else m b)=some x→(b=nx∧x=w.heap.size)∨(h b≠none∧m b=some x∧x<w.heap.size):=fun b x hb hm=>by
   by_cases hbn:b=nx
   ·rw[if_pos hbn] at hm;cases hm;exact .inl ⟨hbn,rfl⟩
   ·rw[if_neg hbn] at hm
    rw[hoth b hbn] at hb
    exact .inr ⟨hb,hm,hs.lt hb hm⟩
  rcases key b x hb hm with ⟨h1,h2⟩|⟨h1,h2,h3⟩<;>rcases key b' x hb' hm' with ⟨h4,h5⟩|⟨h4,h5,h6⟩
  ·rw[h1,h4]
  ·omega
  ·omega
  ·exact hs.inj b b' x h1 h4 h2 h5
theorem RS.new {m:Nm} {w:World} {h h':Hf} {nx:Nat} (hs:RS m w h) (hf:m nx=none) {cells:List AV} (hM:isM cells=false) (hget:h' nx=some cells) (hoth:∀ i,i≠nx→h' i=h i)
  (c:Array Value) (e:TypeId) (hlen:cells.length≤c.size) (hc:∀ (i:Nat) a,cells[i]?=some a→∃ v,c[i]?=some v∧RV m w a v) (hu:NoU c) :
  RS (fun i=>if i=nx then some w.heap.size else m i) (w.alloc (.cells c e)) h'∧To m h w (fun i=>if i=nx then some w.heap.size else m i) h' (w.alloc (.cells c e)):=
 hs.JB hf hget hoth _ (.inl ⟨hM,c,e,rfl,hlen,hc,hu⟩)
end Go.Sx
namespace Go.Sx
open LimbNum
variable [Unk] [Glob]
def AV.cell:AV→Bool
 | .int .u64 _ | .agg _ | .tup _ | .dead | .lp ..=>false
 | _=>true
theorem AV.jH {m:Nm} {w:World} {a:AV} {v:Value} (hc:a.cell=true) (h:RV m w a v):(∀ n,v≠.int .u64 n)∧(∀ c,v≠.agg c)∧∀ c,v≠.tuple c:=by
 cases a with
 | int k n=>rw[RV] at h;subst h;cases k<;>simp[AV.cell] at hc ⊢
 | agg _=>simp[AV.cell] at hc
 | tup _=>simp[AV.cell] at hc
 | dead=>simp[AV.cell] at hc
 | ptr b o=>rw[RV] at h;obtain⟨_,_,rfl⟩:=h;simp
 | sl b o n e=>rw[RV] at h;obtain⟨_,_,_,rfl,_⟩:=h;simp
 | big n=>rw[RV] at h;obtain⟨_,_,rfl,_⟩:=h;simp
 | fn f cs=>rw[RV] at h;obtain⟨_,rfl,_⟩:=h;simp
 | mp b=>rw[RV] at h;obtain⟨_,_,rfl⟩:=h;simp
 | yl b=>rw[RV] at h;obtain⟨_,_,rfl⟩:=h;simp
 | sym s=>rw[RV] at h;exact Unk.cell s w v h
 | lp _ _ _ _ _=>simp[AV.cell] at hc
 | _=>rw[RV] at h;subst h;simp
theorem jv {l:List AV} (h:l.all AV.cell=true):isM l=false:=by
 cases l with
 | nil=>rfl
 | cons a l=>cases a<;>first|rfl|(simp[AV.cell] at h)
structure Laid (w : World) (rb o : Nat) (vs : List Value) (w' : World) : Prop where
 size:w'.heap.size=w.heap.size
 env:eT w w'
 oth:∀ k,k≠rb→w'.heap[k]?=w.heap[k]?
 row:∀ (c:Array Value) (e:TypeId),w.heap[rb]?=some (.cells c e (0,0))→∃ c':Array Value,w'.heap[rb]?=some (.cells c' e (0,0))∧c'.size=c.size ∧
  ∀ j,c'[j]?=if o≤j∧j<o+vs.length then vs[j-o]? else c[j]?
theorem cR (rb o i:Nat):(⟨rb,o,none⟩:Addr).add i=⟨rb,o+i,none⟩:=by
 unfold Addr.add
 split
 ·subst i;rfl
 ·rfl
theorem jA {P:Program} (rb o:Nat):∀ (vs:List Value) (i:Nat) (w:World) (c:Array Value) (e:TypeId),w.heap[rb]?=some (.cells c e (0,0))→o+i+vs.length≤c.size →
  (∀ v∈vs,(∀ c,v≠.agg c)∧∀ c,v≠.tuple c)→∃ w',(storeCells ⟨rb,o,none⟩ vs i).run P w=.ok () w'∧Laid w rb (o+i) vs w'
 | [],i,w,c,e,hb,hl,hv=>⟨w,by simp[storeCells,pure],rfl,eT.rfl' _,fun _ _=>rfl,fun c e h=>⟨c,h,rfl,fun j=>by rw[if_neg (by simp only[List.length_nil];omega)]⟩⟩
 | v::vs,i,w,c,e,hb,hl,hv=>by
  simp only[List.length_cons] at hl
  have hc:w.cell? ⟨rb,o+i,none⟩=some c[o+i]:=by
   unfold World.cell?
   rw[hb]
   simp only[Option.isSome_none,Bool.false_eq_true,if_false]
   exact Array.getElem?_eq_getElem (by omega)
  have hf:w.frozen? ⟨rb,o+i,none⟩=false:=by unfold World.frozen?;rw[hb];simp
  have h1:∀ k:Sem Unit,(Sem.store .plain ((⟨rb,o,none⟩:Addr).add i) v k).run P w=k.run P (w.setCell ⟨rb,o+i,none⟩ v):=fun k=>by
   have hv0:=hv v (by simp)
   rw[cR]
   cases v with
   | agg c=>exact absurd rfl (hv0.1 c)
   | tuple c=>exact absurd rfl (hv0.2 c)
   | _=>simp only[Sem.run,hc,hf,Bool.false_eq_true,if_false]
  have hb':=heap_setCell_same w rb (o+i) c e v hb
  obtain⟨w',hr,hL⟩:=jA rb o vs (i+1) (w.setCell ⟨rb,o+i,none⟩ v) _ e hb' (by simp;omega) fun u hu=>hv u (by simp[hu])
  refine ⟨w',?_,?_,eT.comp ⟨rfl,rfl,rfl⟩ hL.env,fun k hk=>?_,fun c1 e1 h1=>?_⟩
  ·rw[storeCells]
   show ((Sem.store .plain _ v (.pure ())).bind fun _=>storeCells ⟨rb,o,none⟩ vs (i+1)).run P w=_
   rw[Sem.bind,h1]
   exact hr
  ·rw[hL.size];simp[World.setCell]
  ·rw[hL.oth k hk,heap_setCell_other _ _ _ _ (by simpa using hk)]
  ·rw[hb] at h1;cases h1
   obtain⟨c',h2,h3,h4⟩:=hL.row _ _ hb'
   refine ⟨c',h2,by simpa using h3,fun j=>?_⟩
   rw[h4]
   simp only[List.length_cons]
   by_cases hj:j=o+i
   ·subst hj
    rw[if_neg (by omega),if_pos (by omega)]
    simp[Array.getElem?_setIfInBounds]
    omega
   ·by_cases hj2:o+i≤j∧j<o+i+(vs.length+1)
    ·rw[if_pos (by omega),if_pos hj2,show j-(o+i)=(j-(o+(i+1)))+1 by omega]
     simp
    ·rw[if_neg (by omega),if_neg hj2,Array.getElem?_setIfInBounds_ne (by omega)]
theorem run_loadCells {P:Program} (rb o:Nat) {w:World} {c:Array Value} {e:TypeId} (hb:w.heap[rb]?=some (.cells c e (0,0))):∀ (n i:Nat) (acc:Array Value),o+i+n≤c.size →
  (loadCellsFrom ⟨rb,o,none⟩ i n acc).run P w=.ok (acc++(c.toList.drop (o+i)).take n) w
 | 0,i,acc,h=>by simp[loadCellsFrom,pure]
 | n+1,i,acc,h=>by
  have hc:w.cell? ((⟨rb,o,none⟩:Addr).add i)=some c[o+i]:=by
   rw[cR]
   unfold World.cell?
   rw[hb]
   simp only[Option.isSome_none,Bool.false_eq_true,if_false]
   exact Array.getElem?_eq_getElem (by omega)
  rw[loadCellsFrom]
  show ((Sem.load .plain ((⟨rb,o,none⟩:Addr).add i) .pure).bind _).run P w=_
  rw[Sem.bind,Sem.run,hc]
  show (loadCellsFrom ⟨rb,o,none⟩ (i+1) n (acc.push c[o+i])).run P w=_
  rw[run_loadCells rb o hb n (i+1) _ (by omega)]
  congr 1
  rw[List.drop_eq_getElem_cons (show o+i<c.toList.length by simp;omega)]
  simp[←Nat.add_assoc]
def splice (cs:List AV) (o:Nat) (xs:List AV):List AV:=cs.take o++xs++cs.drop (o+xs.length)
theorem yc {cs xs:List AV} {o:Nat} (h:o+xs.length≤cs.length) (j:Nat):(splice cs o xs)[j]?=if o≤j∧j<o+xs.length then xs[j-o]? else cs[j]?:=by
 unfold splice
 rw[List.append_assoc,List.getElem?_append,List.length_take,Nat.min_eq_left (by omega)]
 split
 ·rw[if_neg (by omega),List.getElem?_take,if_pos (by omega)]
 ·rw[List.getElem?_append]
  split
  ·rw[if_pos (by omega)]
  ·rw[if_neg (by omega),List.getElem?_drop]
   congr 1
   omega
theorem rz {cs xs:List AV} {o:Nat} (h:o+xs.length≤cs.length):(splice cs o xs).length=cs.length:=by
 unfold splice
 simp
 omega
theorem RS.laid {m:Nm} {w w':World} {h h':Hf} {b rb o:Nat} {cells cells':List AV} {xs:List AV} {vs:List Value} {n:Nat} (hs:RS m w h) (hm:m b=some rb) (hget:h b=some cells) (hM:isM cells=false)
  (hget':h' b=some cells') (hoth:∀ i,i≠b→h' i=h i) (hx:RVs m w xs vs) (hcell:∀ a∈xs,a.cell=true) (hL:Laid w rb o vs w')
  (hn:cells'.length≤n) (hroom:room w rb n) (hspl:∀ j,cells'[j]?=if o≤j∧j<o+xs.length then xs[j-o]? else cells[j]?) :
  RS m w' h'∧To m h w m h' w':=by
 obtain⟨c,e,h2,h3,h4,h5⟩:=hs.blk b cells rb hget hM hm
 obtain⟨c',g1,g2,g3⟩:=hL.row c e h2
 have hg:Grow w w':=⟨by rw[hL.size];exact K6 _,fun k ck ek fk hk=>by
  by_cases hkb:k=rb
  ·subst hkb;rw[h2] at hk;cases hk;exact⟨c',_,g1,g2⟩
  ·exact⟨ck,fk,by rw[hL.oth k hkb];exact hk,rfl⟩⟩
 have hu:U64 w w':=fun a k ha=>by
  unfold World.cell? at ha ⊢
  by_cases hab:a.block=rb
  ·rw[hab,h2] at ha
   simp only at ha
   split at ha
   ·cases ha
   ·exact absurd ha (h5 _ _)
  ·rw[hL.oth _ hab];exact ha
 have hdom:∀ x,h' x≠none→h x≠none:=fun x hx'=>by
  by_cases hxb:x=b
  ·subst hxb;rw[hget];simp
  ·rwa [←hoth x hxb]
 have hto:To m h w m h' w':=⟨Ext.rfl' _,hg,hu,hL.env,fun r hr hnn=>hL.oth r fun hrb=>by subst hrb;exact hnn b (by rw[hget];simp) hm,fun x rb hx' hmx=>.inr ⟨x,hdom x hx',hmx⟩⟩
 have hvs:∀ (i:Nat) v,vs[i]?=some v→∀ k,v≠.int .u64 k:=fun i v hv k=>by
  have hi:i<xs.length:=by
   rw[hx.length]
   rcases Nat.lt_or_ge i vs.length with h'|h'
   ·exact h'
   ·rw[List.getElem?_eq_none (by simpa using h')] at hv;cases hv
  obtain⟨v',e1,e2⟩:=hx.get (List.getElem?_eq_getElem hi)
  rw[hv] at e1;cases e1
  exact (AV.jH (hcell _ (List.getElem_mem hi)) e2).1 k
 obtain⟨cr,er,fr,r1,r2⟩:=hroom
 rw[h2] at r1;cases r1
 have hM':isM cells'=false:=Gn (fun es hes=>by
  rw[hspl] at hes
  split at hes
  ·have:=hcell (.tup es) (List.mem_of_getElem? hes)
   cases this
  ·cases cells with
   | nil=>cases hes
   | cons a l=>
    simp only[K9,K5] at hes
    subst hes
    cases hM) (fun s ps asg bod jp hes=>by
  rw[hspl] at hes
  split at hes
  ·have:=hcell (.lp s ps asg bod jp) (List.mem_of_getElem? hes)
   cases this
  ·cases cells with
   | nil=>cases hes
   | cons a l=>
    simp only[K9,K5] at hes
    subst hes
    cases hM)
 refine ⟨⟨fun x cs r hcs hmx=>?_,fun x y z hx1 hy1 hmx hmy=>hs.inj x y z (hdom x hx1) (hdom y hy1) hmx hmy,hs.glob.to hto⟩,hto⟩
 by_cases hxb:x=b
 ·subst hxb
  rw[hget'] at hcs;cases hcs
  rw[hm] at hmx;cases hmx
  refine ⟨_,g1,.inl ⟨hM',c',e,rfl,by omega,fun i a ha=>?_,fun i k hk=>?_⟩⟩
  ·rw[hspl] at ha
   rw[g3,←hx.length]
   split at ha
   ·rw[if_pos ‹_›]
    obtain⟨v,e1,e2⟩:=hx.get ha
    exact⟨v,e1,hto.rv e2⟩
   ·rw[if_neg ‹_›]
    obtain⟨v,e1,e2⟩:=h4 i a ha
    exact⟨v,e1,hto.rv e2⟩
  ·rw[g3] at hk
   split at hk
   ·exact hvs _ _ hk k rfl
   ·exact h5 i k hk
 ·rw[hoth x hxb] at hcs
  obtain⟨ob,q2,q3⟩:=hs.obj x cs r hcs hmx
  have hne:r≠rb:=fun hr=>hxb (hs.inj x b rb (by rw[hcs];simp) (by rw[hget];simp) (hr ▸ hmx) hm)
  exact⟨ob,by rw[hL.oth r hne];exact q2,q3.to hto⟩
end Go.Sx
namespace Go.Sx
open LimbNum
variable [Unk] [Glob]
def nth {α:Type}:List α→Nat→Option α
 | [],_=>none
 | x::l,n=>match n with
  | 0=>some x
  | n+1=>nth l n
theorem kS {α:Type}:∀ (l:List α) (n:Nat),nth l n=l[n]?
 | [],n=>by simp[nth]
 | x::l,0=>rfl
 | x::l,n+1=>by rw[nth,kS l n];rfl
def ja:Value→AV
 | .bool b=>.bool b
 | .int k n=>.int k n
 | .float k b=>.float k b
 | .string s=>.str s.data.toList
 | .pointer none=>.nilp
 | .slice none 0 0=>.nils
 | .nilFunc=>.nilf
 | .map none=>.nilm
 | _=>.dead
theorem jT (m:Nm) (w:World) (v:Value):RV m w (ja v) v:=by
 cases v with
 | bool b=>rw[ja,RV]
 | int k n=>rw[ja,RV]
 | float k n=>rw[ja,RV]
 | string s=>rw[ja,RV]
 | pointer a=>cases a<;>simp only[ja]<;>rw[RV];trivial
 | map a=>cases a<;>simp only[ja]<;>rw[RV];trivial
 | slice a n c=>
  unfold ja
  split<;>first|(rw[RV];done)|(rw[RV];trivial)|skip
  all_goals first|(simp_all;done)|skip
 | nilFunc=>rw[ja,RV]
 | _=>simp only[ja];rw[RV];trivial
inductive TK where
 | other|struct|slice|array|string|int|bool|pointer|func|float|map
 deriving DecidableEq
structure TyI where
 agg:Bool
 size:Nat
 bytes:Nat
 zero:List AV
 kind:TK
 flds:List (Nat × Nat × Nat × Bool)
 elem:Nat
 len:Nat
 ik:IntKind
 fk:FloatKind
 eqok:Bool
def ly:TypeDesc→Bool
 | .struct _ | .array _ _=>true
 | _=>false
def df (P:Program) (f:Field):Nat × Nat × Nat × Bool:=
 match P.info? f.type,P.underlying f.type with
 | some j,some e=>(f.offset,f.type,j.size,ly e)
 | _,_=>(f.offset,f.type,0,false)
def zOK (z:Value) (d:TypeDesc):Bool:=match z with
 | .agg _=>ly d
 | _=>!ly d
def tyI (P:Program) (t:TypeId):Option TyI:=
 match P.info? t,P.underlying t with
 | some i,some d=>match i.zero with
  | some z=>if zOK z d=false then none else
   let base:TyI:={ agg:=false,size:=i.size,bytes:=i.bytes,zero:=z.cells.toList.map ja,kind:=.other,flds:=[],elem:=0,len:=0,ik:=.i64,fk:=.f64,eqok:=!P.stoodInHeld t && !P.eqGuardType P.depth t }
   match d with
   | .struct fs => some { base with agg := true, kind := .struct, eqok := base.eqok && fs.all (fun f => f.name != "_"), flds := fs.toList.map (df P) }
   | .array n e=>some { base with agg:=true,kind:=.array,elem:=e,len:=n }
   | .slice e=>some { base with kind:=.slice,elem:=e }
   | .string=>some { base with kind:=.string }
   | .int k=>some { base with kind:=.int,ik:=k }
   | .bool=>some { base with kind:=.bool }
   | .float k=>some { base with kind:=.float,fk:=k }
   | .pointer e=>some { base with kind:=.pointer,elem:=e }
   | .func _ _ _=>some { base with kind:=.func }
   | .map k e=>some { base with kind:=.map,elem:=e,len:=k }
   | _=>some base
  | none=>none
 | _,_=>none
structure Hp where
 h:AH
 nx:Nat
 lo:Nat
structure Env where
 ty:Tr TyI
 fn:Tr (Nat × List ResultVar × Code)
 prim:FuncId→AH→List AV→Option AV
 ext:FuncId→List AV→Option AV
variable {β : Type}
def nk (st:Hp) (cells:List AV) (k:AV→Hp→Option β):Option β:=
 if cells.all AV.cell then Tr.jB Tr.depth st.h st.nx (some cells) fun h=>aW (st.nx+1) fun n=>k (.ptr st.nx 0) ⟨h,n,st.lo⟩
 else none
def dr:AV→Option (List AV)
 | .agg cs=>some cs
 | .tup _=>none
 | .dead=>none
 | a=>some [a]
def fl (h:AH) (b:Nat):Option (List AV):=
 match h.get b with
 | some cells=>match isM cells with
  | true=>none
  | false=>some cells
 | none=>none
theorem bT {h:AH} {b:Nat} {cells:List AV} (hc:fl h b=some cells):h.get b=some cells∧isM cells=false:=by
 unfold fl at hc
 split at hc
 ·split at hc
  ·cases hc
  ·cases hc;exact⟨‹_›,‹_›⟩
 ·cases hc
def DE (st:Hp) (k:AV→Hp→Option β):Option β:=
 Tr.jB Tr.depth st.h st.nx (some [.tup []]) fun h=>aW (st.nx+1) fun n=>k (.mp st.nx) ⟨h,n,st.lo⟩
def sd (st:Hp) (b:Nat):Option (List AV):=
 if b<st.nx then match st.h.get b with
  | some (.tup es::_)=>some es
  | _=>none
 else none
def Hj (st:Hp) (b:Nat) (es:List AV) (k:AV→Hp→Option β):Option β:=
 cV es fun es=>Tr.jB Tr.depth st.h b (some [.tup es]) fun h=>aW (Nat.min st.lo b) fun lo=>k .dead ⟨h,st.nx,lo⟩
def lO (eq:AV→AV→Option Bool) (k:AV):List AV→Nat→Option (Option (Nat × AV))
 | [],_=>some none
 | e::es,i=>match e with
  | .agg [k',v]=>match eq k k' with
   | some true=>some (some (i,v))
   | some false=>lO eq k es (i+1)
   | none=>none
  | _=>none
def FZ:AV→AV→Bool
 | .bool a,.bool b=>a==b
 | .int k a,.int l b=>decide (k=l)&&decide (a=b)
 | .str a,.str b=>a==b
 | _,_=>false
def Ga:List AV→List AV→Bool
 | [],[]=>true
 | a::l,b::m=>FZ a b&&Ga l m
 | _,_=>false
def eqP:AV→AV→Bool
 | .agg a,.agg b=>Ga a b
 | a,b=>FZ a b
def Bo (st:Hp) (b o:Nat) (xs:List AV) (k:Hp→Option β):Option β:=
 match fl st.h b with
 | some cells=>
  if b<st.nx∧o+xs.length≤cells.length then
   if xs.all AV.cell then cV (splice cells o xs) fun cs=>Tr.jB Tr.depth st.h b (some cs) fun h=>aW (Nat.min st.lo b) fun lo=>k ⟨h,st.nx,lo⟩
   else none
  else none
 | none=>none
def oz (st:Hp) (b o n:Nat) (k:List AV→Option β):Option β:=
 match fl st.h b with
 | some cells=>if b<st.nx∧o+n≤cells.length then cV ((cells.drop o).take n) k else none
 | none=>none
def Av (cs:List AV) (o n:Nat) (k:List AV→Option β):Option β:=if o+n≤cs.length then cV ((cs.drop o).take n) k else none
def kj (cs:List AV) (off size:Nat) (agg:Bool) (k:AV→Option β):Option β:=
 if agg then if off+size≤cs.length then cV ((cs.drop off).take size) fun l=>k (.agg l) else none
 else match nth cs off with
  | some v=>k v
  | none=>none
def lM (place:Nat→Option (Nat × Nat)) (cells:List AV):List (Nat × AV)→(List AV→Option β)→Option β
 | [],k=>k cells
 |(i,v)::rest,k=>match place i with
  | none=>none
  | some (off,size)=>match dr v with
   | none=>none
   | some cs=>if cs.length=size then if off+size≤cells.length then cV (splice cells off cs) fun cells=>lM place cells rest k else none else none
def jX (z:List AV):Nat→List AV
 | 0=>[]
 | n+1=>z++jX z n
def lC:AV→Option Nat
 | .big n=>some n
 | .nils=>some 0
 | _=>none
def yG (op:BinOp) (k:IntKind) (a b:Int) (c:AV→Option β):Option β:=
 match op with
 | .add=>cK (k.wrap (a+b)) fun n=>c (.int k n)
 | .sub=>cK (k.wrap (a-b)) fun n=>c (.int k n)
 | .mul=>cK (k.wrap (a*b)) fun n=>c (.int k n)
 | .quo=>if b=0 then none else cK (k.wrap (a.tdiv b)) fun n=>c (.int k n)
 | .rem=>if b=0 then none else cK (a.tmod b) fun n=>c (.int k n)
 | .eql=>cC (a==b) fun x=>c (.bool x)
 | .neq=>cC (a != b) fun x=>c (.bool x)
 | .lss=>cC (decide (a<b)) fun x=>c (.bool x)
 | .leq=>cC (decide (a≤b)) fun x=>c (.bool x)
 | .gtr=>cC (decide (a>b)) fun x=>c (.bool x)
 | .geq=>cC (decide (a ≥ b)) fun x=>c (.bool x)
 | .and=>cK (k.wrap (BitVec.ofInt k.bits a &&& BitVec.ofInt k.bits b).toNat) fun n=>c (.int k n)
 | .or=>cK (k.wrap (BitVec.ofInt k.bits a ||| BitVec.ofInt k.bits b).toNat) fun n=>c (.int k n)
 | .xor=>cK (k.wrap (BitVec.ofInt k.bits a ^^^ BitVec.ofInt k.bits b).toNat) fun n=>c (.int k n)
 | .andNot=>cK (k.wrap (BitVec.ofInt k.bits a &&& ~~~BitVec.ofInt k.bits b).toNat) fun n=>c (.int k n)
 | _=>none
def oT (op:BinOp) (k:IntKind) (a y:Int) (c:AV→Option β):Option β:=
 if y<0 then none
 else match op with
  | .shl=>cK (k.wrap (a*2^(min y.toNat k.bits))) fun n=>c (.int k n)
  | .shr=>cK (a.fdiv (2^(min y.toNat k.bits))) fun n=>c (.int k n)
  | _=>none
def sZ (op:BinOp) (k:FloatKind) (x y:Nat) (c:AV→Option β):Option β:=
 let fin (r:Option Nat):Option β:=match r with
  | some r=>aW r fun r=>c (.float k r)
  | none=>none
 match op with
 | .add=>fin (k.format.add x y)
 | .sub=>fin (k.format.sub x y)
 | .mul=>fin (k.format.mul x y)
 | .quo=>fin (k.format.div x y)
 | .eql=>cC (k.format.order x y==some .eq) fun b=>c (.bool b)
 | .neq=>cC (k.format.order x y != some .eq) fun b=>c (.bool b)
 | .lss=>cC (k.format.order x y==some .lt) fun b=>c (.bool b)
 | .leq=>cC (k.format.order x y==some .lt || k.format.order x y==some .eq) fun b=>c (.bool b)
 | .gtr=>cC (k.format.order x y==some .gt) fun b=>c (.bool b)
 | .geq=>cC (k.format.order x y==some .gt || k.format.order x y==some .eq) fun b=>c (.bool b)
 | _=>none
def zv (op:BinOp) (x y:List UInt8) (c:AV→Option β):Option β:=
 match op with
 | .add=>if x.length+y.length≤1099511627776 then cV (x++y) fun s=>c (.str s) else none
 | .eql=>cC (x==y) fun b=>c (.bool b)
 | .neq=>cC (!(x==y)) fun b=>c (.bool b)
 | .lss=>cC (Op.bytesLess x y) fun b=>c (.bool b)
 | .leq=>cC (Op.bytesLess x y || x==y) fun b=>c (.bool b)
 | .gtr=>cC (!(Op.bytesLess x y || x==y)) fun b=>c (.bool b)
 | .geq=>cC (!Op.bytesLess x y) fun b=>c (.bool b)
 | _=>none
def ki (op:BinOp) (isnil:Bool) (c:AV→Option β):Option β:=
 match op with
 | .eql=>cC isnil fun b=>c (.bool b)
 | .neq=>cC (!isnil) fun b=>c (.bool b)
 | _=>none
def evO (tm:Tr AV):Operand→AV
 | .tmp t=>(tm.get t).getD .dead
 | .const v=>ja v
 | .global g=>.gp g 0
 | .func f=>.fn f []
def tH (ti:TyI) (i:Nat):Option (Nat × Nat):=(nth ti.flds i).map fun x=>(x.1,x.2.2.1)
def rowOf (st:Hp) (v:AV) (esz:Nat):Option (Option Nat × Nat × List AV):=
 match v with
 | .nils=>some (none,0,[])
 | .sl b o n e=>match fl st.h b with
  | some cells=>if o=0∧e=esz∧n*esz≤cells.length then some (some b,n,cells.take (n*esz)) else none
  | none=>none
 | _=>none
def gj (st:Hp) (v:AV) (esz:Nat):Option (Nat × List AV):=
 match v with
 | .nils=>some (0,[])
 | .sl b o n e=>match fl st.h b with
  | some cells=>if e=esz∧o+n*esz≤cells.length then some (n,(cells.drop o).take (n*esz)) else none
  | none=>none
 | _=>none
def CK (st:Hp) (b:Option Nat) (k:Hp→Option β):Option β:=
 match b with
 | none=>k st
 | some b=>if b<st.nx then Tr.jB Tr.depth st.h b none fun h=>aW (Nat.min st.lo b) fun lo=>k ⟨h,st.nx,lo⟩ else none
def sR (st:Hp) (s x:AV) (te:TyI) (k:AV→Hp→Option β):Option β:=
 match rowOf st s te.size,gj st x te.size with
 | some (b,n,cs),some (n',cs')=>
  if te.size≠0∧te.zero.length=te.size∧n+n'≤65536∧te.bytes≤65536 then
   if n'=0 then k s st
   else if cs'.all AV.cell∧te.zero.all AV.cell then cV (cs++cs') fun cs=>CK st b fun st1=>nk st1 cs fun _ st'=>aW (n+n') fun n=>k (.sl st1.nx 0 n te.size) st'
   else none
  else none
 | _,_=>none
def cw (ρ:Operand→AV) (x:Option Operand) (d:Nat):Option Nat:=
 match x with
 | none=>some d
 | some x=>match ρ x with
  | .int _ i=>if 0≤i then some i.toNat else none
  | _=>none
def CR (eq:TypeId→AV→AV→Option Bool):List (Nat × Nat × Nat × Bool)→List AV→List AV→Option Bool
 | [],_,_=>some true
 |(off,ty,size,agg)::l,xs,ys=>if size=0 then none else
  match kj xs off size agg some,kj ys off size agg some with
  | some x,some y=>match eq ty x y with
   | some true=>CR eq l xs ys
   | r=>r
  | _,_=>none
def eqA (E:Env):Nat→TypeId→AV→AV→Option Bool
 | 0,_,_,_=>none
 | d+1,t,x,y=>match E.ty.get t with
  | none=>none
  | some ti=>match ti.kind,x,y with
   | .bool,.bool a,.bool b=>some (a==b)
   | .int,.int k a,.int l b=>if k=l then some (a==b) else none
   | .string,.str a,.str b=>some (a==b)
   | .string,.sym a,.sym b=>Unk.eqS a b
   | .string,.sym a,.str b=>Unk.eqL a b
   | .struct,.agg xs,.agg ys=>if ti.eqok then CR (eqA E d) ti.flds xs ys else none
   | _,_,_=>none
def xn (E:Env):Nat→TypeId→AV→Bool
 | 0,_,_=>false
 | d+1,t,x=>match E.ty.get t with
  | none=>false
  | some ti=>match ti.kind,x with
   | .bool,.bool _=>true
   | .int,.int _ _=>true
   | .string,.str _=>true
   | .struct,.agg xs=>ti.flds.all fun f=>if f.2.2.1=0 then false else match kj xs f.1 f.2.2.1 f.2.2.2 some with
    | some x=>xn E d f.2.1 x
    | none=>false
   | _,_=>false
def Fj (te:TyI):Option AV:=match te.agg,te.zero with
 | true,l=>some (.agg l)
 | false,[v]=>some v
 | _,_=>none
def oX (E:Env) (st:Hp) (t:TypeId) (m kk x:AV) (k:AV→Hp→Option β):Option β:=
 match E.ty.get t,m with
 | some ti,.mp b=>match ti.kind with
  | .map=>match sd st b with
   | some es=>if xn E 8 ti.len kk then match lO (eqA E 8 ti.len) kk es 0 with
     | some none=>Hj st b (es++[.agg [kk,x]]) k
     | some (some (i,_))=>match nth es i with
      | some (.agg [k',_])=>if eqP k' kk then Hj st b (es.set i (.agg [kk,x])) k else none
      | _=>none
     | none=>none
    else none
   | none=>none
  | _=>none
 | _,_=>none
def yK (E:Env) (st:Hp) (t:TypeId) (m kk:AV) (ok:Bool) (k:AV→Hp→Option β):Option β:=
 match E.ty.get t with
 | some ti=>match ti.kind with
  | .map=>match (match m with | .mp b=>sd st b | .nilm=>some []|_=>none) with
   | some es=>if xn E 8 ti.len kk then match lO (eqA E 8 ti.len) kk es 0 with
     | some none=>match E.ty.get ti.elem with
      | some te=>match Fj te with
       | some z=>match ok with
        | true=>k (.tup [z,.bool false]) st
        | false=>k z st
       | none=>none
      | none=>none
     | some (some (_,v))=>match ok with
      | true=>k (.tup [v,.bool true]) st
      | false=>k v st
     | none=>none
    else none
   | none=>none
  | _=>none
 | none=>none
def szL (n:Nat):Nat:=if n=0 then 0 else n.log2/64+1
theorem EW (n:Nat):szL n=size n:=by
 unfold szL
 split
 ·subst n;rfl
 ·rename_i h
  have hB:∀ q,B^q=2^(64*q):=fun q=>by rw[Nat.pow_mul];rfl
  have h1:size n≤n.log2/64+1:=size_le (by
   rw[hB]
   exact Nat.lt_of_lt_of_le (Nat.lt_log2_self) (Nat.pow_le_pow_right (by omega) (by omega)))
  rcases Nat.lt_or_ge (size n) (n.log2/64+1) with h2|h2
  ·have h3:=lt_size n
   rw[hB] at h3
   have h4:2^(64*size n)≤2^n.log2:=Nat.pow_le_pow_right (by omega) (by omega)
   have h5:=Nat.log2_self_le h
   omega
  ·omega
def IK (E:Env) (ρ:Operand→AV) (st:Hp) (c a b:Operand) (k:AV→Hp→Option β):Option β:=
 match ρ c with
 | .bool true=>pz (ρ a) fun v=>k v st
 | .bool false=>pz (ρ b) fun v=>k v st
 | _=>none
def DK (E:Env) (ρ:Operand→AV) (st:Hp) (t:TypeId) (k:AV→Hp→Option β):Option β:=
 match E.ty.get t with
 | some ti=>nk st ti.zero k
 | none=>none
def KF (E:Env) (ρ:Operand→AV) (st:Hp) (x:Operand) (k:AV→Hp→Option β):Option β:=
 match dr (ρ x) with
 | some cs=>nk st cs k
 | none=>none
def DP (E:Env) (ρ:Operand→AV) (st:Hp) (t:TypeId) (a:Operand) (k:AV→Hp→Option β):Option β:=
 match E.ty.get t,ρ a with
 | some ti,.ptr b o=>match ti.agg with
  | true=>oz st b o ti.size fun cs=>k (.agg cs) st
  | false=>oz st b o 1 fun cs=>match cs with
   | [v]=>k v st
   | _=>none
 | some ti,.gp g o=>match Glob.gt.get g with
  | some tab=>match ti.agg with
   | true=>Av tab o ti.size fun cs=>k (.agg cs) st
   | false=>Av tab o 1 fun cs=>match cs with
    | [v]=>k v st
    | _=>none
  | none=>none
 | _,_=>none
def DQ (E:Env) (ρ:Operand→AV) (st:Hp) (t:TypeId) (a x:Operand) (k:AV→Hp→Option β):Option β:=
 match E.ty.get t,ρ a,dr (ρ x) with
 | some ti,.ptr b o,some cs=>if cs.length=ti.size then Bo st b o cs fun st=>k .dead st else none
 | _,_,_=>none
def qf (E:Env) (ρ:Operand→AV) (st:Hp) (s:TypeId) (x:Operand) (f:Nat) (k:AV→Hp→Option β):Option β:=
 match E.ty.get s,ρ x with
 | some ti,.ptr b o=>match ti.kind with
  | .struct=>match nth ti.flds f with
   | some (off,_,size,_)=>if size=0 then none else aW (o+off) fun o=>k (.ptr b o) st
   | none=>none
  | _=>none
 | some ti,.gp g o=>match ti.kind with
  | .struct=>match nth ti.flds f with
   | some (off,_,size,_)=>if size=0 then none else aW (o+off) fun o=>k (.gp g o) st
   | none=>none
  | _=>none
 | _,_=>none
def DN (E:Env) (ρ:Operand→AV) (st:Hp) (s:TypeId) (x:Operand) (f:Nat) (k:AV→Hp→Option β):Option β:=
 match E.ty.get s,ρ x with
 | some ti,.agg cs=>match ti.kind with
  | .struct=>match nth ti.flds f with
   | some (off,_,size,agg)=>if size=0 then none else kj cs off size agg fun v=>k v st
   | none=>none
  | _=>none
 | _,_=>none
def qg (E:Env) (ρ:Operand→AV) (st:Hp) (t:TypeId) (x i:Operand) (k:AV→Hp→Option β):Option β:=
 match E.ty.get t,ρ i with
 | some ti,.int _ i=>match E.ty.get ti.elem,ti.kind,ρ x with
  | some te,.slice,.sl b o n _=>if 0≤i∧i<n then aW (o+i.toNat*te.size) fun o=>k (.ptr b o) st else none
  | some te,.array,.ptr b o=>if 0≤i∧i<ti.len then aW (o+i.toNat*te.size) fun o=>k (.ptr b o) st else none
  | some te,.array,.gp g o=>if 0≤i∧i<ti.len then aW (o+i.toNat*te.size) fun o=>k (.gp g o) st else none
  | _,_,_=>none
 | _,_=>none
def DO (E:Env) (ρ:Operand→AV) (st:Hp) (t:TypeId) (x i:Operand) (k:AV→Hp→Option β):Option β:=
 match E.ty.get t,ρ i with
 | some ti,.int _ i=>match ti.kind,ρ x with
  | .string,.str s=>if 0≤i then match nth s i.toNat with
    | some c=>cK (c.toNat:Int) fun n=>k (.int .u8 n) st
    | none=>none
   else none
  | .array,.agg cs=>match E.ty.get ti.elem with
   | some te=>if 0≤i∧i<ti.len then kj cs (i.toNat*te.size) te.size te.agg fun v=>k v st else none
   | none=>none
  | _,_=>none
 | _,_=>none
def vB (E:Env) (ρ:Operand→AV) (st:Hp) (t:Operand) (i:Nat) (k:AV→Hp→Option β):Option β:=
 match ρ t with
 | .tup vs=>match nth vs i with
  | some v=>pz v fun v=>k v st
  | none=>none
 | _=>none
def DM (E:Env) (ρ:Operand→AV) (st:Hp) (t:TypeId) (parts:Array (Nat × Operand)) (k:AV→Hp→Option β):Option β:=
 match E.ty.get t with
 | some ti=>match ti.kind with
  | .struct=>if ti.flds.all fun x=>decide (x.2.2.1≠0) then lM (tH ti) ti.zero (parts.toList.map fun (i,x)=>(i,ρ x)) fun cs=>k (.agg cs) st else none
  | .array=>match E.ty.get ti.elem with
   | some te=>lM (fun i=>some (i*te.size,te.size)) ti.zero (parts.toList.map fun (i,x)=>(i,ρ x)) fun cs=>k (.agg cs) st
   | none=>none
  | _=>none
 | none=>none
def nT (E:Env) (ρ:Operand→AV) (st:Hp) (t:TypeId) (len:Nat) (parts:Array (Nat × Operand)) (k:AV→Hp→Option β):Option β:=
 match E.ty.get t with
 | some ti=>match ti.kind,E.ty.get ti.elem with
  | .slice,some te=>if len*te.size≤65536∧te.zero.length=te.size∧te.size≠0 then
    lM (fun i=>some (i*te.size,te.size)) (jX te.zero len) (parts.toList.map fun (i,x)=>(i,ρ x)) fun cs=>
     nk st cs fun _ st'=>k (.sl st.nx 0 len te.size) st'
   else none
  | _,_=>none
 | none=>none
def DL (E:Env) (ρ:Operand→AV) (st:Hp) (op:BinOp) (t:TypeId) (x y:Operand) (k:AV→Hp→Option β):Option β:=
 match ρ x,ρ y with
 | .int i a,.int j b=>match op with
  | .shl=>oT .shl i a b fun v=>k v st
  | .shr=>oT .shr i a b fun v=>k v st
  | op=>if i=j then yG op i a b fun v=>k v st else none
 | .float i a,.float j b=>if i=j then sZ op i a b fun v=>k v st else none
 | .str a,.str b=>zv op a b fun v=>k v st
 | .sym a,.sym b=>match Unk.eqS a b with
  | some r=>ki op r fun v=>k v st
  | none=>none
 | .sym a,.str b=>match Unk.eqL a b with
  | some r=>ki op r fun v=>k v st
  | none=>none
 | .sym a,.int i b=>match Unk.cmpB a op i b with
  | some r=>k (.bool r) st
  | none=>none
 | .bool a,.bool b=>match E.ty.get t with
  | some ti=>match ti.kind with
   | .bool=>ki op (a==b) fun v=>k v st
   | _=>none
  | none=>none
 | .agg a,.agg b=>match E.ty.get t with
  | some ti=>if ti.eqok then match eqA E 8 t (.agg a) (.agg b) with
    | some r=>ki op r fun v=>k v st
    | none=>none
   else none
  | none=>none
 | _,_=>none
def sj (E:Env) (ρ:Operand→AV) (st:Hp) (x:Operand) (k:AV→Hp→Option β):Option β:=
 match ρ x with
 | .ptr b o=>k (.ptr b o) st
 | .fn f cs=>k (.fn f cs) st
 | _=>none
def mH:List AV→Option (List UInt8)
 | []=>some []
 | .int .u8 v::l=>match mH l with
  | some r=>cV r fun r=>some (UInt8.ofNat v.toNat::r)
  | none=>none
 | _=>none
def qe (E:Env) (ρ:Operand→AV) (st:Hp) (s d:TypeId) (x:Operand) (k:AV→Hp→Option β):Option β:=
 match E.ty.get s,E.ty.get d with
 | some ts,some td=>match td.kind,ρ x with
  | .int,.int _ n=>cK (td.ik.wrap n) fun n=>k (.int td.ik n) st
  | .int,.sym a=>match Unk.toK a td.ik with
   | some b=>k (.sym b) st
   | none=>none
  | .int,.float fk b=>match (fk.decode b).toInt .zero with
   | some n=>if td.ik.min≤n∧n≤td.ik.max then cK n fun n=>k (.int td.ik n) st else none
   | none=>none
  | .float,.int _ n=>aW (td.fk.nearest n) fun b=>k (.float td.fk b) st
  | .float,.float fk b=>if fk=td.fk then k (.float fk b) st else
    match fk.decode b with
    | .number s m e=>if (td.fk.decode (td.fk.encode (.number s m e))).isInfinity then none else aW (td.fk.encode (.number s m e)) fun r=>k (.float td.fk r) st
    | _=>none
  | .string,.str s=>match ts.kind with
   | .string=>k (.str s) st
   | _=>none
  | .string,.sl b o n _=>match ts.kind,E.ty.get ts.elem with
   | .slice,some te=>match te.kind,te.ik with
    | .int,.u8=>oz st b o n fun cs=>match mH cs with
     | some s=>k (.str s) st
     | none=>none
    | _,_=>none
   | _,_=>none
  | _,_=>none
 | _,_=>none
def xG (E:Env) (ρ:Operand→AV) (st:Hp) (t:TypeId) (x:Operand) (lo hi:Option Operand) (k:AV→Hp→Option β):Option β:=
 match E.ty.get t,ρ x with
 | some ti,.sl b o n e=>match ti.kind,E.ty.get ti.elem,cw ρ lo 0,cw ρ hi n with
  | .slice,some te,some l,some h=>if l≤h∧h≤n∧e=te.size∧(l=0∨l<n) then aW (o+l*e) fun o=>aW (h-l) fun n=>k (.sl b o n e) st else none
  | _,_,_,_=>none
 | some ti,.str s=>match ti.kind,cw ρ lo 0,cw ρ hi s.length with
  | .string,some l,some h=>if l≤h∧h≤s.length then cV ((s.drop l).take (h-l)) fun s=>k (.str s) st else none
  | _,_,_=>none
 | some ti,.ptr b o=>match ti.kind,E.ty.get ti.elem,cw ρ lo 0,cw ρ hi ti.len,fl st.h b with
  | .array,some te,some l,some h,some cells=>if b<st.nx∧o+ti.len*te.size≤cells.length∧l≤h∧h≤ti.len∧(l=0∨l<ti.len) then aW (o+l*te.size) fun o=>aW (h-l) fun n=>k (.sl b o n te.size) st else none
  | _,_,_,_,_=>none
 | some ti,.nils=>match ti.kind,E.ty.get ti.elem,cw ρ lo 0,cw ρ hi 0 with
  | .slice,some _,some l,some h=>if l=0∧h=0 then k .nils st else none
  | _,_,_,_=>none
 | _,_=>none
def IL (E:Env) (ρ:Operand→AV) (st:Hp) (op:UnOp) (x:Operand) (k:AV→Hp→Option β):Option β:=
 match op,ρ x with
 | .neg,.float i b=>aW (Op.negFloat i b) fun b=>k (.float i b) st
 | .not,.bool b=>cC (!b) fun b=>k (.bool b) st
 | .neg,.int i n=>cK (i.wrap (0-n)) fun n=>k (.int i n) st
 | _,_=>none
def qh (E:Env) (ρ:Operand→AV) (st:Hp) (t:TypeId) (l c:Operand) (k:AV→Hp→Option β):Option β:=
 match E.ty.get t,ρ l,ρ c with
 | some ti,.int .i64 l,.int .i64 c=>match ti.kind,E.ty.get ti.elem with
  | .slice,some te=>if 0≤l∧l≤c∧c≤65536∧te.bytes≤65536∧te.size≠0∧te.zero.length=te.size∧te.zero.all AV.cell then
    aW l.toNat fun l=>cV (jX te.zero l) fun cs=>nk st cs fun _ st'=>k (.sl st.nx 0 l te.size) st'
   else none
  | _,_=>none
 | _,_,_=>none
def yW (E:Env) (ρ:Operand→AV) (st:Hp) (args:Array Operand) (argTypes:Array TypeId) (k:AV→Hp→Option β):Option β:=
 match argTypes.toList,args.toList with
 | [t,t'],[s,x]=>if t=t' then match E.ty.get t with
   | some ti=>match ti.kind,E.ty.get ti.elem with
    | .slice,some te=>sR st (ρ s) (ρ x) te k
    | _,_=>none
   | none=>none
  else match E.ty.get t,E.ty.get t',ρ s,ρ x with
   | some ti,some ti',.nils,.int _ n=>match ti.kind,ti'.kind,E.ty.get ti.elem with
    | .slice,.int,some te=>if 0<n∧n≤65536∧te.bytes≤65536∧te.size≠0∧te.zero.length=te.size∧te.zero.all AV.cell then
      aW n.toNat fun l=>cV (jX te.zero l) fun cs=>nk st cs fun _ st'=>k (.sl st.nx 0 l te.size) st'
     else none
    | _,_,_=>none
   | _,_,_,_=>none
 | _,_=>none
def IJ (E:Env) (ρ:Operand→AV) (st:Hp) (args:Array Operand) (argTypes:Array TypeId) (k:AV→Hp→Option β):Option β:=
 match argTypes.toList,args.toList with
 | [t,_],[x,y]=>match E.ty.get t,ρ x with
  | some ti,.sl b o n e=>match ti.kind,E.ty.get ti.elem with
   | .slice,some te=>match gj st (ρ y) te.size with
    | some (n',cs)=>if e=te.size∧te.size≠0 then cV (cs.take (Nat.min n' n*te.size)) fun cs=>Bo st b o cs fun st=>aW (Nat.min n' n) fun n=>k (.int .i64 n) st else none
    | none=>none
   | _,_=>none
  | _,_=>none
 | _,_=>none
def KH (E:Env) (ρ:Operand→AV) (st:Hp) (args:Array Operand) (k:AV→Hp→Option β):Option β:=
 match args.toList with
 | [x,y]=>match ρ x,ρ y with
  | .int i a,.int j b=>if i=j then cK (if b>a then b else a) fun n=>k (.int i n) st else none
  | _,_=>none
 | _=>none
def KJ (E:Env) (ρ:Operand→AV) (st:Hp) (args:Array Operand) (k:AV→Hp→Option β):Option β:=
 match args.toList with
 | [x,y]=>match ρ x,ρ y with
  | .int i a,.int j b=>if i=j then cK (if b<a then b else a) fun n=>k (.int i n) st else none
  | _,_=>none
 | _=>none
def JF (E:Env) (ρ:Operand→AV) (st:Hp) (args:Array Operand) (argTypes:Array TypeId) (k:AV→Hp→Option β):Option β:=
 match argTypes[0]?,args[0]? with
 | some t,some x=>match E.ty.get t with
  | some ti=>match ti.kind,ρ x with
   | .slice,.sl _ _ n _=>k (.int .i64 n) st
   | .slice,.nils=>k (.int .i64 0) st
   | .slice,.big n=>aW (szL n) fun n=>k (.int .i64 n) st
   | .map,.nilm=>k (.int .i64 0) st
   | .map,.mp b=>match sd st b with
    | some es=>aW es.length fun n=>k (.int .i64 n) st
    | none=>none
   | .string,.str s=>aW s.length fun n=>k (.int .i64 n) st
   | _,_=>none
  | none=>none
 | _,_=>none
def KG (E:Env) (ρ:Operand→AV) (st:Hp) (args:Array Operand) (argTypes:Array TypeId) (k:AV→Hp→Option β):Option β:=
 match argTypes[0]?,args[0]? with
 | some t,some x=>match E.ty.get t with
  | some ti=>match ti.kind,ρ x with
   | .slice,.nils=>k (.int .i64 0) st
   | _,_=>none
  | none=>none
 | _,_=>none
def sh (E:Env) (ρ:Operand→AV) (st:Hp) (t:TypeId) (x:Operand) (k:AV→Hp→Option β):Option β:=
 match E.ty.get t,ρ x with
 | some ti,.int _ _=>match ti.kind with
  | .map=>DE st k
  | _=>none
 | _,_=>none
def sf (E:Env) (ρ:Operand→AV) (st:Hp) (f:FuncId) (first captured:Array Operand) (k:AV→Hp→Option β):Option β:=
 if first.size=0 then cV (captured.toList.map ρ) fun l=>k (.fn f l) st else none
def aop (E:Env) (ρ:Operand→AV) (st:Hp) (o:Oper) (k:AV→Hp→Option β):Option β:=
 match o.op with
 | .move x | .assign x=>pz (ρ x) fun v=>k v st
 | .pick c a b=>IK E ρ st c a b k
 | .alloc t=>DK E ρ st t k
 | .box _ x=>KF E ρ st x k
 | .load t a=>DP E ρ st t a k
 | .store t a x=>DQ E ρ st t a x k
 | .fieldAddr s x f=>qf E ρ st s x f k
 | .field s x f=>DN E ρ st s x f k
 | .indexAddr t x i=>qg E ρ st t x i k
 | .index t x i=>DO E ρ st t x i k
 | .extract t i=>vB E ρ st t i k
 | .build t parts=>DM E ρ st t parts k
 | .buildSlice t len parts=>nT E ρ st t len parts k
 | .binOp op t x y _=>DL E ρ st op t x y k
 | .nilCheck x=>sj E ρ st x k
 | .convert s d x=>qe E ρ st s d x k
 | .slice t x lo hi none=>xG E ρ st t x lo hi k
 | .unOp op _ x=>IL E ρ st op x k
 | .makeSlice t l c=>qh E ρ st t l c k
 | .call { callee:=.builtin .append,args,argTypes }=>yW E ρ st args argTypes k
 | .call { callee:=.builtin .copy,args,argTypes }=>IJ E ρ st args argTypes k
 | .call { callee:=.builtin .max,args,.. }=>KH E ρ st args k
 | .call { callee:=.builtin .min,args,.. }=>KJ E ρ st args k
 | .call { callee:=.builtin .len,args,argTypes }=>JF E ρ st args argTypes k
 | .call { callee:=.builtin .cap,args,argTypes }=>KG E ρ st args argTypes k
 | .makeMap t none=>DE st k
 | .makeMap t (some x)=>sh E ρ st t x k
 | .mapUpdate t m kk x=>oX E st t (ρ m) (ρ kk) (ρ x) k
 | .insert t m kk x=>oX E st t (ρ m) (ρ kk) (ρ x) k
 | .lookup t m kk ok=>yK E st t (ρ m) (ρ kk) ok k
 | .makeFunc (.func f) first captured=>sf E ρ st f first captured k
 | _=>none
end Go.Sx
namespace Go.Sx
open LimbNum
variable [Unk] [Glob]
structure TyOK (P : Program) (t : TypeId) (ti : TyI) : Prop where
 ex:∃ (i:TypeInfo) (d:TypeDesc) (z:Value),P.info? t=some i∧P.underlying t=some d∧i.zero=some z∧ti.size=i.size∧ti.bytes=i.bytes∧ti.zero=z.cells.toList.map ja ∧
  ti.agg=ly d ∧
  (ti.kind=.struct→∃ fs,d=.struct fs∧ti.flds=fs.toList.map (df P)) ∧
  (ti.kind=.array→d=.array ti.len ti.elem)∧(ti.kind=.slice→d=.slice ti.elem)∧(ti.kind=.string→d=.string)
 mapk:ti.kind=.map→P.underlying t=some (.map ti.len ti.elem)
 zform:∀ i z,P.info? t=some i→i.zero=some z→(ti.agg=true→z=.agg z.cells)∧(ti.agg=false→z.cells = #[z])
 more:∀ d,P.underlying t=some d→(ti.kind=.int→d=.int ti.ik)∧(ti.kind=.float→d=.float ti.fk)∧(ti.kind=.bool→d=.bool) ∧
  (ti.eqok = true → P.stoodInHeld t = false ∧ P.eqGuardType P.depth t = false ∧ ∀ fs, d = .struct fs → ∀ f ∈ fs.toList, f.name ≠ "_")
theorem Kl {P:Program} {t:TypeId} {ti:TyI} (h:tyI P t=some ti):TyOK P t ti:=by
 unfold tyI at h
 split at h
 ·rename_i i d hi hd
  split at h
  ·rename_i z hz
   split at h
   ·cases h
   ·rename_i hzf
    refine ⟨⟨i,d,z,hi,hd,hz,?_⟩,fun hk=>?_,fun i' z' hi' hz'=>?_,fun d' hd'=>?_⟩
    ·cases d<;>(simp only[K5] at h;subst h;simp[ly])
    ·rw[hd]
     cases d<;>(simp only[K5] at h;subst h;simp_all)
    ·rw[hi] at hi';cases hi'
     rw[hz] at hz';cases hz'
     have hag:ti.agg=ly d:=by cases d<;>(simp only[K5] at h;subst h;simp[ly])
     rw[hag]
     cases z<;>simp_all [Value.cells,zOK]
    ·rw[hd] at hd';cases hd'
     cases d<;>(simp only[K5] at h;subst h;simp)
     all_goals (intros;simp_all;try (rename_i h0;intro f hf;obtain⟨j,hj,rfl⟩:=Array.mem_iff_getElem.1 hf;exact h0 j hj))
  ·cases h
 ·cases h
theorem jS {P:Program} {t:TypeId} {d:TypeDesc} (hd:P.underlying t=some d) (w:World) :
  (isAgg t).run P w=.ok (ly d) w:=by
 cases d<;>simp[isAgg,run_underlying hd,ly]
theorem bR {P:Program} {t:TypeId} {i:TypeInfo} (hi:P.info? t=some i) (w:World):(sizeOf t).run P w=.ok i.size w:=by
 simp[sizeOf,typeInfo,hi]
theorem qw {P:Program} {t:TypeId} {i:TypeInfo} {z:Value} (hi:P.info? t=some i) (hz:i.zero=some z) (w:World):(zeroValue t).run P w=.ok z w:=by
 simp[zeroValue,typeInfo,hi,hz]
theorem me (m:Nm) (w:World) (v:Value):RV m w .dead v:=by rw[RV];trivial
theorem kW (m:Nm) (w:World) (i:IntKind) (n:Int):RV m w (.int i n) (.int i n):=by rw[RV]
theorem ft (m:Nm) (w:World) (b:Bool):RV m w (.bool b) (.bool b):=by rw[RV]
def RT (m:Nm) (w:World) (tm:Tr AV) (a:Act):Prop:=∀ t av,tm.get t=some av→∃ v,a.tmps[t]?=some v∧RV m w av v
theorem uE {m:Nm} {w:World} {tm:Tr AV} {a:Act} (h:RT m w tm a) (x:Operand):RV m w (evO tm x) (a.eval x):=by
 cases x with
 | tmp t=>
  rw[evO]
  cases hg:tm.get t with
  | none=>exact me _ _ _
  | some av=>
   obtain⟨v,h1,h2⟩:=h t av hg
   simpa [Act.eval,Array.getD_eq_getD_getElem?,h1] using h2
 | const v=>rw[evO];exact jT m w v
 | global g=>rw[evO,RV];rfl
 | func f=>rw[evO,RV];exact⟨[],rfl,by rw[RVs]⟩
def jZ (m:Nm) (w:World) (ρ:Operand→AV) (a:Act) (o:Oper):Prop:=∀ x∈o.op.operands,RV m w (ρ x) (a.eval x)
def ie (ρ:Operand→AV) (o:Oper):Option Nat:=
 match o.op with
 | .load _ x=>match ρ x with
  | .ptr b _=>some b
  | _=>none
 | .lookup _ x _ _=>match ρ x with
  | .mp b=>some b
  | _=>none
 | .slice _ x _ _ _=>match ρ x with
  | .ptr b _=>some b
  | _=>none
 | .convert _ _ x=>match ρ x with
  | .sl b _ _ _=>some b
  | _=>none
 | .call { callee:=.builtin .len,args,.. }=>match args[0]? with
  | some x=>match ρ x with
   | .mp b=>some b
   | _=>none
  | none=>none
 | _=>none
def only (rd:Option Nat) (h:Hf):Hf:=fun b=>if some b=rd then h b else none
def aY (P:Program) (ρ:Operand→AV) (h:Hf) (o:Oper) (av:AV):Prop:=
 ∀ (a:Act) (m:Nm) (w:World),jZ m w ρ a o→RS m w (only (ie ρ o) h)→∃ v,(execOp a.eval o).run P w=.ok (.value v) w∧RV m w av v
def dA (m:Nm) (nx nx':Nat):Prop:=∀ b,nx≤b→b<nx'→m b=none
def dp (m m':Nm) (nx nx':Nat):Prop:=∀ b,b<nx∨nx'≤b→m' b=m b
structure Heaps (st st' : Hp) : Prop where
 nx:st.nx≤st'.nx
 lo:st'.lo≤st.lo
 old:∀ b,b<st'.lo→b<st.nx→st'.h.get b=st.h.get b
 far:∀ b,st'.nx≤b→st'.h.get b=none∨st'.h.get b=st.h.get b
theorem Heaps.rfl' (st:Hp):Heaps st st:=⟨K6 _,K6 _,fun _ _ _=>rfl,fun _ _=>.inr rfl⟩
theorem Heaps.comp {a b c:Hp} (h:Heaps a b) (h':Heaps b c):Heaps a c:=
 ⟨Nat.le_trans h.nx h'.nx,Nat.le_trans h'.lo h.lo,fun x h1 h2=>(h'.old x h1 (Nat.lt_of_lt_of_le h2 h.nx)).trans (h.old x (Nat.lt_of_lt_of_le h1 h'.lo) h2),fun x hx=>by
  rcases h'.far x hx with h1|h1
  ·exact .inl h1
  ·rcases h.far x (Nat.le_trans h'.nx hx) with h2|h2
   ·exact .inl (h1.trans h2)
   ·exact .inr (h1.trans h2)⟩
def Dom (st:Hp):Prop:=∀ b,st.nx≤b→st.h.get b=none
theorem Heaps.dom {a b:Hp} (h:Heaps a b) (hd:Dom a):Dom b:=fun x hx=>by
 rcases h.far x hx with h1|h1
 ·exact h1
 ·rw[h1];exact hd x (Nat.le_trans h.nx hx)
def Fw (ro:Option Nat):Fence:={ fn:=fun _=>True,depth:=none,alive:=false,round:=ro }
def Kq (P:Program) (ρ:Operand→AV) (st:Hp) (o:Oper) (av:AV) (st':Hp):Prop:=
 ∀ (ro:Option Nat) (a:Act) (m:Nm) (w:World),(∀ c,o.op≠.defer c)→jZ m w ρ a o→RS m w st.h.get→Dom st→dA m st.nx st'.nx→∀ (K:Act→World→Prop) (Q:Exit→Act→World→Prop),
  (∀ v w' m',RV m' w' av v→RS m' w' st'.h.get→To m st.h.get w m' st'.h.get w'→dp m m' st.nx st'.nx→K (a.put o.dst v) w')→o.wpIn (Fw ro) 0 P a w K Q
def gP (P:Program) (ρ:Operand→AV) (st:Hp) (o:Oper) (av:AV) (st':Hp):Prop:=Heaps st st'∧Kq P ρ st o av st'
theorem cq {P:Program} {ρ:Operand→AV} {st st':Hp} {o:Oper} {av:AV} (hh:Heaps st st')
  (h:∀ (a:Act) (m:Nm) (w:World),jZ m w ρ a o→RS m w st.h.get→dA m st.nx st'.nx→∃ v w' m',((execOp a.eval o).run P w=.ok (.value v) w'∨((execOp a.eval o).run P w=.ok .skip w'∧v=undef)) ∧
   RV m' w' av v∧RS m' w' st'.h.get∧To m st.h.get w m' st'.h.get w'∧dp m m' st.nx st'.nx):gP P ρ st o av st':=by
 refine ⟨hh,fun ro a m w hnd hO hs _ hf K Q hK=>?_⟩
 obtain⟨v,w',m',hr,h1,h2,h3,h4⟩:=h a m w hO hs hf
 have:=hK v w' m' h1 h2 h3 h4
 unfold Oper.wpIn
 refine ⟨fun _ _=>trivial,?_⟩
 rw[Oper.semAt_eq _ _ _ hnd]
 rcases hr with hr|⟨hr,rfl⟩
 ·rw[hr];exact this
 ·rw[hr];exact this
def Fp (P:Program) (ρ:Operand→AV) (st:Hp) (o:Oper) (av:AV) (st':Hp):Prop:=
 (kd o.op=0→st'=st∧aY P ρ st.h.get o av)∧(kd o.op≠0→gP P ρ st o av st')
theorem vD (rd:Option Nat) (h:Hf) (b:Nat) (c:List AV) (hb:only rd h b=some c):h b=some c:=by
 unfold only at hb
 split at hb
 ·exact hb
 ·cases hb
theorem ph {m:Nm} {w:World} {a:AV} {v:Value} {cs:List AV} (h:RV m w a v) (hc:dr a=some cs):RVs m w cs v.cells.toList:=by
 cases a with
 | agg l=>simp only[dr,K5] at hc;subst hc;rw[RV] at h;obtain⟨l',rfl,h⟩:=h;simpa [Value.cells] using h
 | tup l=>cases hc
 | dead=>cases hc
 | lp _ _ _ _ _=>rw[RV] at h;exact h.elim
 | sym s=>
  simp only[dr,K5] at hc
  subst hc
  have h':=h
  rw[RV] at h'
  have hce:=Unk.cell s w v h'
  rw[RVs]
  refine ⟨v,[],?_,h,by rw[RVs]⟩
  cases v<;>first|rfl|exact absurd rfl (hce.2.1 _)
 | _=>
  simp only[dr,K5] at hc
  subst hc
  rw[RVs]
  refine ⟨v,[],?_,h,by rw[RVs]⟩
  first
   |(rw[RV] at h;subst h;rfl)
   |(rw[RV] at h;obtain⟨_,_,rfl⟩:=h;rfl)
   |(rw[RV] at h;obtain⟨_,_,_,rfl,_⟩:=h;rfl)
   |(rw[RV] at h;obtain⟨_,_,rfl,_⟩:=h;rfl)
   |(rw[RV] at h;obtain⟨_,rfl,_⟩:=h;rfl)
theorem fz {β:Type} {st:Hp} {cells:List AV} {k:AV→Hp→Option β} {r:β} (h:nk st cells k=some r) :
  ∃ st',k (.ptr st.nx 0) st'=some r∧cells.all AV.cell=true∧st'.h.get st.nx=some cells∧(∀ i,i≠st.nx→st'.h.get i=st.h.get i)∧st'.nx=st.nx+1∧st'.lo=st.lo:=by
 unfold nk at h
 split at h
 ·obtain⟨t',h1,h2,h3⟩:=Tr.dy _ _ _ _ _ _ h
  simp only[aT] at h1
  exact⟨⟨t',st.nx+1,st.lo⟩,h1,‹_›,h2,h3,rfl,rfl⟩
 ·cases h
theorem dV {st st':Hp} (hoth:∀ i,i≠st.nx→st'.h.get i=st.h.get i) (hnx:st'.nx=st.nx+1) (hlo:st'.lo=st.lo):Heaps st st':=
 ⟨by omega,by omega,fun b _ hb=>hoth b (by omega),fun b hb=>.inr (hoth b (by omega))⟩
theorem JD {m:Nm} {w:World} {cs:List AV} {c:Array Value} (hc:cs.all AV.cell=true) (hv:RVs m w cs c.toList):NoU c:=by
 intro i n hi
 have hlen:=hv.length
 have hil:i<cs.length:=by
  rw[hlen]
  have:=(Array.getElem?_eq_some_iff.1 hi).1
  simpa using this
 obtain⟨v,h1,h2⟩:=hv.get (List.getElem?_eq_getElem hil)
 have h3:=List.all_eq_true.1 hc _ (List.getElem_mem hil)
 rw[Array.getElem?_toList,hi] at h1
 cases h1
 exact (AV.jH h3 h2).1 n rfl
theorem pW {m:Nm} {w:World} {st st':Hp} (hs:RS m w st.h.get) (hf:dA m st.nx st'.nx) {cells:List AV} (hc:cells.all AV.cell=true) (hget:st'.h.get st.nx=some cells)
  (hoth:∀ i,i≠st.nx→st'.h.get i=st.h.get i) (hnx:st'.nx=st.nx+1) (c:Array Value) (e:TypeId) (hv:RVs m w cells c.toList) :
  ∃ m',RS m' (w.alloc (.cells c e)) st'.h.get∧To m st.h.get w m' st'.h.get (w.alloc (.cells c e))∧m' st.nx=some w.heap.size∧dp m m' st.nx st'.nx:=by
 obtain⟨h1,h2⟩:=hs.new (hf st.nx (K6 _) (by omega)) (jv hc) hget hoth c e (by rw[hv.length];simp) (fun i a ha=>by
  obtain⟨v,h1,h2⟩:=hv.get ha
  exact⟨v,by rw[←Array.getElem?_toList];exact h1,h2⟩) (JD hc hv)
 exact⟨_,h1,h2,by simp,fun b hb=>if_neg (by omega)⟩
theorem gW {β:Type} {st:Hp} {b o n:Nat} {k:List AV→Option β} {r:β} (h:oz st b o n k=some r) :
  ∃ cells,(st.h.get b=some cells∧isM cells=false)∧o+n≤cells.length∧k ((cells.drop o).take n)=some r:=by
 unfold oz at h
 split at h
 ·rename_i cells hb
  split at h
  ·rw[bS] at h;exact⟨cells,bT hb,(‹b<st.nx∧_› : _∧_).2,h⟩
  ·cases h
 ·cases h
theorem tc {β:Type} {st:Hp} {b o n:Nat} {k:List AV→Option β} {r:β} (h:oz st b o n k=some r):b<st.nx:=by
 unfold oz at h
 split at h
 ·split at h
  ·exact (‹b<st.nx∧_› : _∧_).1
  ·cases h
 ·cases h
theorem fP {st:Hp} {b:Nat} {es:List AV} (h:sd st b=some es):b<st.nx∧∃ l,st.h.get b=some (.tup es::l):=by
 unfold sd at h
 split at h
 ·split at h
  ·cases h;exact⟨‹_›,_,‹_›⟩
  ·cases h
 ·cases h
theorem GD {E:Env} {β:Type} {ρ:Operand→AV} {st:Hp} {o:Oper} {k:AV→Hp→Option β} {r:β} {b:Nat} (h:aop E ρ st o k=some r) (hr:ie ρ o=some b):b<st.nx:=by
 unfold ie at hr
 split at hr
 ·rename_i t x ho
  split at hr
  ·rename_i b' off hx
   simp only[K5] at hr
   subst hr
   unfold aop at h
   rw[ho] at h
   unfold DP at h
   simp only[hx] at h
   split at h
   ·rename_i ti bb oo h1 heq
    simp only[AV.ptr.injEq] at heq
    obtain⟨rfl,rfl⟩:=heq
    split at h
    ·exact tc h
    ·exact tc h
   ·rename_i heq
    cases heq
   ·cases h
  ·cases hr
 ·rename_i t x kk ok ho
  split at hr
  ·rename_i b' hx
   simp only[K5] at hr
   subst hr
   unfold aop at h
   rw[ho] at h
   simp only[hx,yK] at h
   split at h
   ·split at h
    ·split at h
     ·rename_i hes
      exact (fP hes).1
     ·cases h
    ·cases h
   ·cases h
  ·cases hr
 ·rename_i t x lo hi mx ho
  split at hr
  ·rename_i b' off hx
   simp only[K5] at hr
   subst hr
   unfold aop at h
   rw[ho] at h
   cases mx with
   | some y=>cases h
   | none=>
    simp only at h
    unfold xG at h
    simp only[hx] at h
    split at h
    ·rename_i heq;cases heq
    ·rename_i heq;cases heq
    ·rename_i heq
     cases heq
     split at h
     ·split at h
      ·exact (‹b'<st.nx∧_› : _∧_).1
      ·cases h
     ·cases h
    ·rename_i heq;cases heq
    ·cases h
  ·cases hr
 ·rename_i s d x ho
  split at hr
  ·rename_i b' off n e hx
   simp only[K5] at hr
   subst hr
   unfold aop at h
   rw[ho] at h
   simp only at h
   unfold qe at h
   simp only[hx] at h
   split at h
   ·split at h<;>first|(rename_i heq;cases heq;done)|skip
    ·rename_i heq
     cases heq
     split at h
     ·split at h
      ·exact tc h
      ·cases h
     ·cases h
    ·cases h
   ·cases h
  ·cases hr
 ·rename_i args argTypes ho
  split at hr
  ·rename_i x hx
   split at hr
   ·rename_i b' hb'
    simp only[K5] at hr
    subst hr
    unfold aop at h
    rw[ho] at h
    unfold JF at h
    simp only[hx] at h
    split at h
    ·rename_i t y ht hy
     simp only[K5] at hy
     subst hy
     simp only[hb'] at h
     split at h
     ·split at h<;>first|(rename_i heq;cases heq;done)|skip
      ·rename_i heq
       cases heq
       split at h
       ·exact (fP ‹_›).1
       ·cases h
      ·cases h
     ·cases h
    ·cases h
   ·cases hr
  ·cases hr
 ·cases hr
theorem mV {P:Program} {m:Nm} {w:World} {h:Hf} (hi:RS m w h) {b rb o n:Nat} {cells:List AV} (hb:h b=some cells∧isM cells=false) (hm:m b=some rb) (hn:o+n≤cells.length) :
  ∃ vs,(loadCells ⟨rb,o,none⟩ n).run P w=.ok vs.toArray w∧RVs m w ((cells.drop o).take n) vs∧(n=1→∃ v,vs=[v]∧w.cell? ⟨rb,o,none⟩=some v):=by
 obtain⟨c,e,h2,h3,h4,h5⟩:=hi.blk b cells rb hb.1 hb.2 hm
 refine ⟨(c.toList.drop o).take n,?_,?_,fun h=>?_⟩
 ·rw[loadCells,run_loadCells rb o h2 n 0 #[] (by omega)]
  simp
 ·refine RVs.eH ?_ fun i a ha=>?_
  ·simp;omega
  ·rw[List.getElem?_take] at ha ⊢
   split at ha
   ·rw[if_pos ‹_›]
    rw[List.getElem?_drop] at ha ⊢
    obtain⟨v,e1,e2⟩:=h4 _ a ha
    exact⟨v,by rw[Array.getElem?_toList];exact e1,e2⟩
   ·cases ha
 ·subst h
  have ho:o<c.size:=by omega
  refine ⟨c[o],?_,?_⟩
  ·rw[List.drop_eq_getElem_cons (by simpa using ho)]
   simp
  ·unfold World.cell?
   rw[h2]
   simp only[Option.isSome_none,Bool.false_eq_true,if_false]
   exact Array.getElem?_eq_getElem ho
theorem sA {β:Type} {st:Hp} {b o:Nat} {xs:List AV} {k:Hp→Option β} {r:β} (h:Bo st b o xs k=some r) :
  ∃ cells st',(st.h.get b=some cells∧isM cells=false)∧(b<st.nx∧o+xs.length≤cells.length)∧xs.all AV.cell=true∧k st'=some r∧st'.h.get b=some (splice cells o xs)∧(∀ i,i≠b→st'.h.get i=st.h.get i)∧st'.nx=st.nx∧st'.lo=Nat.min st.lo b:=by
 unfold Bo at h
 split at h
 ·rename_i cells hb
  split at h
  ·split at h
   ·rw[bS] at h
    obtain⟨t',h1,h2,h3⟩:=Tr.dy _ _ _ _ _ _ h
    rw[aT] at h1
    exact⟨cells,⟨t',st.nx,Nat.min st.lo b⟩,bT hb,‹_›,‹_›,h1,h2,h3,rfl,rfl⟩
   ·cases h
  ·cases h
 ·cases h
theorem dX {st st':Hp} {b:Nat} (hoth:∀ i,i≠b→st'.h.get i=st.h.get i) (hnx:st'.nx=st.nx) (hlo:st'.lo=Nat.min st.lo b) (hb:st'.nx≤b→st'.h.get b=none∨st'.h.get b=st.h.get b):Heaps st st':=
 ⟨by omega,by rw[hlo];exact Nat.min_le_left _ _,fun x h1 _=>hoth x (by rw[hlo] at h1;have h2:Nat.min st.lo b≤b:=Nat.min_le_right _ _;omega),fun x hx=>by
  by_cases hxb:x=b
  ·subst hxb;exact hb hx
  ·exact .inr (hoth x hxb)⟩
theorem vS {P:Program} {m:Nm} {w:World} {h h':Hf} (hs:RS m w h) {b rb o:Nat} {cells xs:List AV} {vs:List Value} (hb:h b=some cells∧isM cells=false) (hm:m b=some rb) (hn:o+xs.length≤cells.length)
  (hc:xs.all AV.cell=true) (hget:h' b=some (splice cells o xs)) (hoth:∀ i,i≠b→h' i=h i) (hv:RVs m w xs vs) :
  ∃ w',(storeCells ⟨rb,o,none⟩ vs).run P w=.ok () w'∧RS m w' h'∧To m h w m h' w':=by
 obtain⟨c,e,h2,h3,h4,h5⟩:=hs.blk b cells rb hb.1 hb.2 hm
 have hlen:=hv.length
 have hvs:∀ v∈vs,(∀ c,v≠.agg c)∧∀ c,v≠.tuple c:=fun v hv'=>by
  obtain⟨i,hil,he⟩:=List.getElem_of_mem hv'
  obtain⟨v',e1,e2⟩:=hv.get (List.getElem?_eq_getElem (show i<xs.length by omega))
  rw[List.getElem?_eq_getElem hil] at e1
  cases e1
  rw[he] at e2
  exact (AV.jH (List.all_eq_true.1 hc _ (List.getElem_mem _)) e2).2
 obtain⟨w',hr,hL⟩:=jA (P:=P) rb o vs 0 w c e h2 (by omega) hvs
 obtain⟨g1,g2⟩:=hs.laid hm hb.1 hb.2 hget hoth hv (fun a ha=>List.all_eq_true.1 hc a ha) hL (n:=cells.length) (by rw[rz hn];exact K6 _) ⟨c,e,(0,0),h2,h3⟩ (yc hn)
 exact⟨w',hr,g1,g2⟩
end Go.Sx
namespace Go.Sx
open LimbNum
variable [Unk] [Glob]
section
variable {P : Program} {E : Env} {ρ : Operand → AV} {st : Hp} {o : Oper} {β : Type} {k : AV → Hp → Option β} {r : β}
theorem xi {ti:TyI} {fs:Array Field} {f:Nat} {x:Nat × Nat × Nat × Bool} (h:ti.flds=fs.toList.map (df P)) (hx:nth ti.flds f=some x):∃ fd,fs[f]?=some fd∧x=df P fd:=by
 rw[kS,h,List.getElem?_map] at hx
 cases hf:fs.toList[f]? with
 | none=>rw[hf] at hx;cases hx
 | some fd=>
  rw[hf] at hx
  simp only[Option.map_some,K5] at hx
  exact⟨fd,by rw[←Array.getElem?_toList];exact hf,hx.symm⟩
theorem gU {fd:Field} {off ty size:Nat} {agg:Bool} (h:(off,ty,size,agg)=df P fd) (hs:size≠0) :
  ∃ i d,P.info? fd.type=some i∧P.underlying fd.type=some d∧off=fd.offset∧size=i.size∧agg=ly d:=by
 unfold df at h
 split at h
 ·rename_i i d hi hd
  simp only[Prod.mk.injEq] at h
  exact⟨i,d,hi,hd,h.1,h.2.2.1,h.2.2.2⟩
 ·simp only[Prod.mk.injEq] at h
  exact absurd h.2.2.1 hs
theorem qz {m:Nm} {w:World} {zs:List AV} {z:Value} (h:zs=z.cells.toList.map ja):RVs m w zs z.cells.toList:=by
 rw[h]
 exact RVs.eH (by simp) fun i a ha=>by
  rw[List.getElem?_map] at ha
  cases hv:z.cells.toList[i]? with
  | none=>rw[hv] at ha;cases ha
  | some v=>
   rw[hv] at ha
   simp only[Option.map_some,K5] at ha
   subst ha
   exact⟨v,rfl,jT m w v⟩
theorem Ci {t:TypeId} {ti:TyI} (ho:o.op=.alloc t) (ht:TyOK P t ti) (h:nk st ti.zero k=some r) :
  ∃ av st',k av st'=some r∧gP P ρ st o av st':=by
 obtain⟨i,d,z,h1,h2,h3,h4,h5,h6,_⟩:=ht.ex
 obtain⟨st',g1,g2,g3,g4,g5,g6⟩:=fz h
 refine ⟨_,st',g1,cq (dV g4 g5 g6) fun a m w hO hs hf=>?_⟩
 obtain⟨m',q1,q2,q3,q4⟩:=pW hs hf g2 g3 g4 g5 z.cells t (qz h6)
 refine ⟨.pointer (some ⟨w.heap.size,0,none⟩),_,m',.inl ?_,?_,q1,q2,q4⟩
 ·simp[execOp,ho,Instr.alloc,qw h1 h3,newVar,newRow]
 ·rw[RV];exact⟨_,q3,rfl⟩
theorem Jf {t:TypeId} {x:Operand} {cs:List AV} (ho:o.op=.box t x) (hc:dr (ρ x)=some cs) (h:nk st cs k=some r) :
  ∃ av st',k av st'=some r∧gP P ρ st o av st':=by
 obtain⟨st',g1,g2,g3,g4,g5,g6⟩:=fz h
 refine ⟨_,st',g1,cq (dV g4 g5 g6) fun a m w hO hs hf=>?_⟩
 have hv:=ph (hO x (by simp[ho,Op.operands])) hc
 obtain⟨m',q1,q2,q3,q4⟩:=pW hs hf g2 g3 g4 g5 (a.eval x).cells t hv
 refine ⟨.pointer (some ⟨w.heap.size,0,none⟩),_,m',.inl ?_,?_,q1,q2,q4⟩
 ·simp[execOp,ho,Instr.box,newVar,newRow]
 ·rw[RV];exact⟨_,q3,rfl⟩
theorem kV {m:Nm} {w:World} {a:Act} {x:Operand} {b off:Nat} (hx:RV m w (ρ x) (a.eval x)) (he:ρ x=.ptr b off):∃ rb,m b=some rb∧a.eval x=.pointer (some ⟨rb,off,none⟩):=by
 rw[he,RV] at hx
 exact hx
theorem GF {t:TypeId} {x:Operand} {ti:TyI} {b off:Nat} (ho:o.op=.load t x) (ht:TyOK P t ti) (he:ρ x=.ptr b off)
  (h:(match ti.agg with
   | true=>oz st b off ti.size fun cs=>k (.agg cs) st
   | false=>oz st b off 1 fun cs=>match cs with
    | [v]=>k v st
    | _=>none)=some r) :
  ∃ av,k av st=some r∧aY P ρ st.h.get o av:=by
 obtain⟨i,d,z,h1,h2,h3,h4,h5,h6,h7,_⟩:=ht.ex
 have hagg:=fun w=>jS h2 w
 rw[←h7] at hagg
 have hrd:ie ρ o=some b:=by unfold ie;rw[ho];simp only[he]
 split at h
 ·rename_i hag
  rw[hag] at hagg
  obtain⟨cells,g1,g2,g3⟩:=gW h
  refine ⟨_,g3,fun a m w hO hs=>?_⟩
  obtain⟨rb,hm,hx⟩:=kV (hO x (by simp[ho,Op.operands])) he
  obtain⟨vs,q1,q2,_⟩:=mV (P:=P) hs (b:=b) (by unfold only;rw[hrd,if_pos rfl];exact g1) hm g2
  rw[h4] at q1
  refine ⟨.agg vs.toArray,?_,?_⟩
  ·simp[execOp,ho,Instr.loadAt,Instr.sureAddr,hx,loadVar,hagg,bR h1,q1]
  ·rw[RV];exact⟨vs,rfl,q2⟩
 ·rename_i hag
  rw[hag] at hagg
  obtain⟨cells,g1,g2,g3⟩:=gW h
  split at g3
  ·rename_i av hcs
   refine ⟨_,g3,fun a m w hO hs=>?_⟩
   obtain⟨rb,hm,hx⟩:=kV (hO x (by simp[ho,Op.operands])) he
   obtain⟨vs,q1,q2,q3⟩:=mV (P:=P) hs (b:=b) (by unfold only;rw[hrd,if_pos rfl];exact g1) hm g2
   obtain⟨v,rfl,q4⟩:=q3 rfl
   rw[hcs,RVs] at q2
   obtain⟨v',l,e1,e2,_⟩:=q2
   simp only[List.cons.injEq] at e1
   obtain⟨rfl,_⟩:=e1
   refine ⟨v,?_,e2⟩
   simp[execOp,ho,Instr.loadAt,Instr.sureAddr,hx,loadVar,hagg,load,Sem.run,q4]
  ·cases g3
theorem yC {tab:List AV} {off n:Nat} {c:List AV→Option β} (h:Av tab off n c=some r):off+n≤tab.length∧c ((tab.drop off).take n)=some r:=by
 unfold Av at h
 split at h
 ·rw[bS] at h;exact⟨‹_›,h⟩
 ·cases h
theorem EX {m:Nm} {w:World} {h:Hf} (hs:RS m w h) {g:Nat} {tab:List AV} (hg:Glob.gt.get g=some tab) {off n:Nat} (hn:off+n≤tab.length) :
  ∃ vs,(loadCells ⟨g,off,none⟩ n).run P w=.ok vs.toArray w∧RVs m w ((tab.drop off).take n) vs∧(n=1→∃ v,vs=[v]∧w.cell? ⟨g,off,none⟩=some v):=by
 obtain⟨⟨c,e,h2,h3⟩,_⟩:=hs.glob g tab hg
 have h4:RVs m w tab c.toList:=h3.rvs
 have hlen:tab.length=c.size:=(RVs.length h4).trans Array.length_toList
 refine ⟨(c.toList.drop off).take n,?_,(h4.drop off).take n,fun h=>?_⟩
 ·rw[loadCells,run_loadCells g off h2 n 0 #[] (by omega)]
  simp
 ·subst h
  have ho:off<c.size:=by omega
  refine ⟨c[off],?_,?_⟩
  ·rw[List.drop_eq_getElem_cons (by simpa using ho)]
   simp
  ·unfold World.cell?
   rw[h2]
   simp only[Option.isSome_none,Bool.false_eq_true,if_false]
   exact Array.getElem?_eq_getElem ho
section
variable {a : Act} {m : Nm} {w : World} {x : Operand}
theorem yD {g off:Nat} (h:RV m w (ρ x) (a.eval x)) (he:ρ x=.gp g off):a.eval x=.pointer (some ⟨g,off,none⟩):=by rwa [he,RV] at h
end
theorem GC {t:TypeId} {x:Operand} {ti:TyI} {g off:Nat} {tab:List AV} (ho:o.op=.load t x) (ht:TyOK P t ti) (he:ρ x=.gp g off) (hg:Glob.gt.get g=some tab)
  (h:(match ti.agg with
   | true=>Av tab off ti.size fun cs=>k (.agg cs) st
   | false=>Av tab off 1 fun cs=>match cs with
    | [v]=>k v st
    | _=>none)=some r) :
  ∃ av,k av st=some r∧aY P ρ st.h.get o av:=by
 obtain⟨i,d,z,h1,h2,h3,h4,h5,h6,h7,_⟩:=ht.ex
 have hagg:=fun w=>jS h2 w
 rw[←h7] at hagg
 split at h
 ·rename_i hag
  rw[hag] at hagg
  obtain⟨g2,g3⟩:=yC h
  refine ⟨_,g3,fun a m w hO hs=>?_⟩
  have hx:=yD (hO x (by simp[ho,Op.operands])) he
  obtain⟨vs,q1,q2,_⟩:=EX (P:=P) hs hg g2
  rw[h4] at q1
  refine ⟨.agg vs.toArray,?_,?_⟩
  ·simp[execOp,ho,Instr.loadAt,Instr.sureAddr,hx,loadVar,hagg,bR h1,q1]
  ·rw[RV];exact⟨vs,rfl,q2⟩
 ·rename_i hag
  rw[hag] at hagg
  obtain⟨g2,g3⟩:=yC h
  split at g3
  ·rename_i av hcs
   refine ⟨_,g3,fun a m w hO hs=>?_⟩
   have hx:=yD (hO x (by simp[ho,Op.operands])) he
   obtain⟨vs,q1,q2,q3⟩:=EX (P:=P) hs hg g2
   obtain⟨v,rfl,q4⟩:=q3 rfl
   rw[hcs,RVs] at q2
   obtain⟨v',l,e1,e2,_⟩:=q2
   simp only[List.cons.injEq] at e1
   obtain⟨rfl,_⟩:=e1
   refine ⟨v,?_,e2⟩
   simp[execOp,ho,Instr.loadAt,Instr.sureAddr,hx,loadVar,hagg,load,Sem.run,q4]
  ·cases g3
theorem EJ {t:TypeId} {p x:Operand} {ti:TyI} {b off:Nat} {cs:List AV} (ho:o.op=.store t p x) (ht:TyOK P t ti) (he:ρ p=.ptr b off)
  (hc:dr (ρ x)=some cs) (hl:cs.length=ti.size) (h:(Bo st b off cs fun st=>k .dead st)=some r) :
  ∃ av st',k av st'=some r∧gP P ρ st o av st':=by
 obtain⟨i,d,z,h1,h2,h3,h4,h5,h6,h7,_⟩:=ht.ex
 obtain⟨cells,st',g1,⟨hlt,g2⟩,g3,g4,g5,g6,g7,g8⟩:=sA h
 refine ⟨_,st',g4,cq (dX g6 g7 g8 fun hb=>by omega) fun a m w hO hs hf=>?_⟩
 obtain⟨rb,hm,hx⟩:=kV (hO p (by simp[ho,Op.operands])) he
 have hv:=ph (hO x (by simp[ho,Op.operands])) hc
 obtain⟨w',q1,q2,q3⟩:=vS (P:=P) hs g1 hm g2 g3 g5 g6 hv
 have hsz:(a.eval x).cells.size=i.size:=by rw[←h4,←hl,hv.length];simp
 refine ⟨undef,w',m,.inr ⟨?_,rfl⟩,me _ _ _,q2,q3,fun _ _=>rfl⟩
 simp[execOp,ho,Instr.storeAt,Instr.sureAddr,hx,storeVar,bR h1,hsz,q1]
theorem sY {s:TypeId} {x:Operand} {f:Nat} {ti:TyI} {b off off1 ty size:Nat} {agg:Bool} (ho:o.op=.fieldAddr s x f) (ht:TyOK P s ti) (he:ρ x=.ptr b off)
  (hk:ti.kind=.struct) (hf:nth ti.flds f=some (off1,ty,size,agg)) (hs:size≠0):aY P ρ st.h.get o (.ptr b (off+off1)):=by
 obtain⟨i,d,z,h1,h2,h3,h4,h5,h6,h7,h8,_⟩:=ht.ex
 obtain⟨fs,rfl,hfl⟩:=h8 hk
 obtain⟨fd,hfd,hx⟩:=xi hfl hf
 obtain⟨j,e,e1,e2,rfl,rfl,_⟩:=gU hx hs
 intro a m w hO _
 obtain⟨rb,hm,hxv⟩:=kV (hO x (by simp[ho,Op.operands])) he
 refine ⟨.pointer (some ⟨rb,off+fd.offset,none⟩),?_,?_⟩
 ·simp[execOp,ho,Instr.fieldAt,run_underlying h2,hfd,hxv,Instr.sureAddr,fieldPlace,bR e1,hs,cR]
 ·rw[RV];exact⟨rb,hm,rfl⟩
theorem sX {s:TypeId} {x:Operand} {f:Nat} {ti:TyI} {g off off1 ty size:Nat} {agg:Bool} (ho:o.op=.fieldAddr s x f) (ht:TyOK P s ti) (he:ρ x=.gp g off)
  (hk:ti.kind=.struct) (hf:nth ti.flds f=some (off1,ty,size,agg)) (hs:size≠0):aY P ρ st.h.get o (.gp g (off+off1)):=by
 obtain⟨i,d,z,h1,h2,h3,h4,h5,h6,h7,h8,_⟩:=ht.ex
 obtain⟨fs,rfl,hfl⟩:=h8 hk
 obtain⟨fd,hfd,hx⟩:=xi hfl hf
 obtain⟨j,e,e1,e2,rfl,rfl,_⟩:=gU hx hs
 intro a m w hO _
 have hxv:=yD (hO x (by simp[ho,Op.operands])) he
 refine ⟨.pointer (some ⟨g,off+fd.offset,none⟩),?_,?_⟩
 ·simp[execOp,ho,Instr.fieldAt,run_underlying h2,hfd,hxv,Instr.sureAddr,fieldPlace,bR e1,hs,cR]
 ·rw[RV]
end
end Go.Sx
