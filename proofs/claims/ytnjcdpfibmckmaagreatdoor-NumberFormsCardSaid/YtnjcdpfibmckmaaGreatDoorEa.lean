import Derived.Test.YtnjcdpfibmckmaaGreatDoorLc
import Derived.Test.YtnjcdpfibmckmaaGreatDoorLd
set_option linter.unusedSectionVars false
set_option linter.unusedVariables false
set_option linter.unusedSimpArgs false
namespace Go.Proofs.YtnjcdpfibmckmaaGreatDoor.E
open Go.RowKit LimbNum
theorem ju {w w':World} {l:Value} {m b:Nat} {t:TypeId} {cs:List Value} (h:Lim w l m) (hB:Blk w b t cs) (hc:∀ v,v∈cs→∀ n:Int,v≠.int .u64 n) (hs:w.heap.size≤w'.heap.size)
  (ho:∀ k,k≠b→w'.heap[k]?=w.heap[k]?):Lim w' l m:=by
 obtain⟨a,c,rfl,hc',hr⟩:=h
 refine ⟨a,c,rfl,hc',?_⟩
 rcases hr with hr|⟨b',off,rfl,hb,hcell⟩
 ·exact .inl hr
 ·refine .inr ⟨b',off,rfl,Nat.lt_of_lt_of_le hb hs,fun i hi=>?_⟩
  by_cases hbb:b'=b
  ·exfalso
   subst hbb
   have h1:=hcell i hi
   unfold World.cell? at h1
   rw[hB] at h1
   simp only[Option.isSome_none,Bool.false_eq_true,if_false,List.getElem?_toArray] at h1
   exact hc _ (List.mem_of_getElem? h1) _ rfl
  ·rw[World.cell?_of_block (w:=w) (ho b' hbb)]
   exact hcell i hi
theorem cw {w w':World} {v:Value} {n:Int} {b:Nat} {t:TypeId} {cs:List Value} (h:Whole w v n) (hB:Blk w b t cs) (hc:∀ v,v∈cs→∀ n:Int,v≠.int .u64 n) (hs:w.heap.size≤w'.heap.size)
  (ho:∀ k,k≠b→w'.heap[k]?=w.heap[k]?):Whole w' v n:=by
 obtain⟨l,rfl,hl⟩:=h
 exact⟨l,rfl,ju hl hB hc hs ho⟩
theorem aM {w:World} {v:Value} {n:Int} (h:Whole w v n):∃ s a k c,v=.agg #[.bool s,.slice a k c]:=by
 obtain⟨_,h,a,c,h2,_⟩:=h
 exact⟨_,a,_,c,by rw[h,h2]⟩
def Ex (w:World) (v:Value) (x:Rat):Prop:=∃ s1 a1 n1 c1 s2 a2 n2 c2,v=.agg #[.bool s1,.slice a1 n1 c1,.bool s2,.slice a2 n2 c2]∧Whole w (.agg #[.bool s1,.slice a1 n1 c1]) x.num∧(Whole w (.agg #[.bool s2,.slice a2 n2 c2]) x.den∨(x.den=1∧Whole w (.agg #[.bool s2,.slice a2 n2 c2]) 0))
theorem Ex.kept {w w':World} {v:Value} {x:Rat} (h:Ex w v x) (k:Kept w w'):Ex w' v x:=by
 obtain⟨s1,a1,n1,c1,s2,a2,n2,c2,rfl,h1,h2⟩:=h
 exact⟨s1,a1,n1,c1,s2,a2,n2,c2,rfl,h1.kept k,h2.imp (fun h=>h.kept k) fun h=>⟨h.1,h.2.kept k⟩⟩
theorem pH {w w':World} {v:Value} {x:Rat} {b:Nat} {t:TypeId} {cs:List Value} (h:Ex w v x) (hB:Blk w b t cs) (hc:∀ v,v∈cs→∀ n:Int,v≠.int .u64 n) (hs:w.heap.size≤w'.heap.size)
  (ho:∀ k,k≠b→w'.heap[k]?=w.heap[k]?):Ex w' v x:=by
 obtain⟨s1,a1,n1,c1,s2,a2,n2,c2,rfl,h1,h2⟩:=h
 exact⟨s1,a1,n1,c1,s2,a2,n2,c2,rfl,cw h1 hB hc hs ho,h2.imp (fun h=>cw h hB hc hs ho) fun h=>⟨h.1,cw h.2 hB hc hs ho⟩⟩
theorem fH {w:World} {v:Value} {x:Rat} (h:Ex w v x):∃ s1 a1 n1 c1 s2 a2 n2 c2,v=.agg #[.bool s1,.slice a1 n1 c1,.bool s2,.slice a2 n2 c2]:=by
 obtain⟨s1,a1,n1,c1,s2,a2,n2,c2,rfl,_⟩:=h
 exact⟨_,_,_,_,_,_,_,_,rfl⟩
theorem Ex.both {w:World} {s1 s2:Bool} {a1 a2:Option Addr} {n1 c1 n2 c2:Nat} {x:Rat} (h:Ex w (.agg #[.bool s1,.slice a1 n1 c1,.bool s2,.slice a2 n2 c2]) x) :
  Whole w (.agg #[.bool s1,.slice a1 n1 c1]) x.num∧(Whole w (.agg #[.bool s2,.slice a2 n2 c2]) x.den∨(x.den=1∧Whole w (.agg #[.bool s2,.slice a2 n2 c2]) 0)):=by
 obtain⟨_,_,_,_,_,_,_,_,he,h1,h2⟩:=h
 simp only[Value.agg.injEq,Array.mk.injEq,List.cons.injEq,Value.bool.injEq,Value.slice.injEq,and_true] at he
 obtain⟨rfl,⟨rfl,rfl,rfl⟩,rfl,rfl,rfl,rfl⟩:=he
 exact⟨h1,h2⟩
theorem qv {w:World} {s1 s2:Bool} {a1 a2:Option Addr} {n1 c1 n2 c2:Nat} {x:Rat} (h1:Whole w (.agg #[.bool s1,.slice a1 n1 c1]) x.num) (h2:Whole w (.agg #[.bool s2,.slice a2 n2 c2]) x.den):Ex w (.agg #[.bool s1,.slice a1 n1 c1,.bool s2,.slice a2 n2 c2]) x:=
 ⟨_,_,_,_,_,_,_,_,rfl,h1,.inl h2⟩
abbrev fw:List Value:=[.bool false,.slice none 0 0]
abbrev fO:List Value:=[.bool false,.slice none 0 0,.bool false,.slice none 0 0]
theorem lE:∀ v,v∈fO→∀ n:Int,v≠.int .u64 n:=by
 intro v hv n
 simp only[fO,List.mem_cons,List.not_mem_nil,or_false] at hv
 rcases hv with rfl|rfl|rfl|rfl<;>simp
theorem xT:∀ v,v∈fw→∀ n:Int,v≠.int .u64 n:=by
 intro v hv n
 simp only[fw,List.mem_cons,List.not_mem_nil,or_false] at hv
 rcases hv with rfl|rfl<;>simp
theorem Blk.mA {w:World} {b:Nat} {t:TypeId} {c0 c1 c2 c3:Value} (h:Blk w b t [c0,c1,c2,c3]) (d0 d1 d2 d3:Value) :
  Blk ((((w.setCell ⟨b,0,none⟩ d0).setCell ⟨b,1,none⟩ d1).setCell ⟨b,2,none⟩ d2).setCell ⟨b,3,none⟩ d3) b t [d0,d1,d2,d3]:=by
 unfold Blk at *
 exact heap_setCell_same _ b 3 _ _ d3 (heap_setCell_same _ b 2 _ _ d2 (heap_setCell_same _ b 1 _ _ d1 (heap_setCell_same w b 0 _ _ d0 h)))
theorem qQ (w:World) (b:Nat) (d0 d1 d2 d3:Value):∀ k,k≠b→((((w.setCell ⟨b,0,none⟩ d0).setCell ⟨b,1,none⟩ d1).setCell ⟨b,2,none⟩ d2).setCell ⟨b,3,none⟩ d3).heap[k]?=w.heap[k]?:=by
 intro k hk
 rw[heap_setCell_other _ ⟨b,3,none⟩ k d3 (by simpa using hk),heap_setCell_other _ ⟨b,2,none⟩ k d2 (by simpa using hk),heap_setCell_other _ ⟨b,1,none⟩ k d1 (by simpa using hk),heap_setCell_other _ ⟨b,0,none⟩ k d0 (by simpa using hk)]
theorem qP (w:World) (b:Nat) (d0 d1:Value):∀ k,k≠b→((w.setCell ⟨b,0,none⟩ d0).setCell ⟨b,1,none⟩ d1).heap[k]?=w.heap[k]?:=by
 intro k hk
 rw[heap_setCell_other _ ⟨b,1,none⟩ k d1 (by simpa using hk),heap_setCell_other _ ⟨b,0,none⟩ k d0 (by simpa using hk)]
theorem hI {w w3:World} {b:Nat} (hk:Kept w w3) (hb:w.heap.size≤b) (d0 d1 d2 d3:Value):Kept w ((((w3.setCell ⟨b,0,none⟩ d0).setCell ⟨b,1,none⟩ d1).setCell ⟨b,2,none⟩ d2).setCell ⟨b,3,none⟩ d3):=
 Below.setCell (Below.setCell (Below.setCell (Below.setCell hk hb d0) hb d1) hb d2) hb d3
theorem Bo {w w3:World} {b:Nat} (hk:Kept w w3) (hb:w.heap.size≤b) (d0 d1:Value):Kept w ((w3.setCell ⟨b,0,none⟩ d0).setCell ⟨b,1,none⟩ d1):=
 Below.setCell (Below.setCell hk hb d0) hb d1
theorem B4 {w w3:World} {b:Nat} {s1 s2:Bool} {a1 a2:Option Addr} {n1 c1 n2 c2:Nat} {x:Rat} (hB:Blk w3 b 89 fO) (hb:w.heap.size≤b) (hk:Kept w w3)
  (hv:Ex w3 (.agg #[.bool s1,.slice a1 n1 c1,.bool s2,.slice a2 n2 c2]) x) :
  Blk ((((w3.setCell ⟨b,0,none⟩ (.bool s1)).setCell ⟨b,1,none⟩ (.slice a1 n1 c1)).setCell ⟨b,2,none⟩ (.bool s2)).setCell ⟨b,3,none⟩ (.slice a2 n2 c2)) b 89 [.bool s1,.slice a1 n1 c1,.bool s2,.slice a2 n2 c2] ∧
  Ex ((((w3.setCell ⟨b,0,none⟩ (.bool s1)).setCell ⟨b,1,none⟩ (.slice a1 n1 c1)).setCell ⟨b,2,none⟩ (.bool s2)).setCell ⟨b,3,none⟩ (.slice a2 n2 c2)) (.agg #[.bool s1,.slice a1 n1 c1,.bool s2,.slice a2 n2 c2]) x ∧
  Kept w ((((w3.setCell ⟨b,0,none⟩ (.bool s1)).setCell ⟨b,1,none⟩ (.slice a1 n1 c1)).setCell ⟨b,2,none⟩ (.bool s2)).setCell ⟨b,3,none⟩ (.slice a2 n2 c2)):=
 ⟨Blk.mA hB _ _ _ _,pH hv hB lE (by simp[World.setCell]) (qQ _ _ _ _ _ _),hI hk hb _ _ _ _⟩
theorem xD {w w3:World} {b:Nat} {s1:Bool} {a1:Option Addr} {n1 c1:Nat} {x:Int} (hB:Blk w3 b 87 fw) (hb:w.heap.size≤b) (hk:Kept w w3)
  (hv:Whole w3 (.agg #[.bool s1,.slice a1 n1 c1]) x) :
  Blk ((w3.setCell ⟨b,0,none⟩ (.bool s1)).setCell ⟨b,1,none⟩ (.slice a1 n1 c1)) b 87 [.bool s1,.slice a1 n1 c1] ∧
  Whole ((w3.setCell ⟨b,0,none⟩ (.bool s1)).setCell ⟨b,1,none⟩ (.slice a1 n1 c1)) (.agg #[.bool s1,.slice a1 n1 c1]) x ∧
  Kept w ((w3.setCell ⟨b,0,none⟩ (.bool s1)).setCell ⟨b,1,none⟩ (.slice a1 n1 c1)):=
 ⟨Blk.pn hB _ _,cw hv hB xT (by simp[World.setCell]) (qP _ _ _ _),Bo hk hb _ _⟩
theorem vN {w:World} {b:Nat} {t:TypeId} {s0:Bool} {a0:Option Addr} {n0 c0:Nat} (hB:Blk w b t [.bool s0,.slice a0 n0 c0]) (s:Bool) (a:Option Addr) (n c:Nat) :
  Blk ((w.setCell ⟨b,0,none⟩ (.bool s)).setCell ⟨b,1,none⟩ (.slice a n c)) b t [.bool s,.slice a n c] ∧
  (∀ v x,Whole w v x→Whole ((w.setCell ⟨b,0,none⟩ (.bool s)).setCell ⟨b,1,none⟩ (.slice a n c)) v x) ∧
  (∀ v x,Ex w v x→Ex ((w.setCell ⟨b,0,none⟩ (.bool s)).setCell ⟨b,1,none⟩ (.slice a n c)) v x) ∧
  (∀ b' t' cs,b'≠b→Blk w b' t' cs→Blk ((w.setCell ⟨b,0,none⟩ (.bool s)).setCell ⟨b,1,none⟩ (.slice a n c)) b' t' cs) ∧
  (∀ w0:World,w0.heap.size≤b→Kept w0 w→Kept w0 ((w.setCell ⟨b,0,none⟩ (.bool s)).setCell ⟨b,1,none⟩ (.slice a n c))) ∧
  ((w.setCell ⟨b,0,none⟩ (.bool s)).setCell ⟨b,1,none⟩ (.slice a n c)).heap.size=w.heap.size:=by
 have hi:∀ v,v∈[Value.bool s0,.slice a0 n0 c0]→∀ n:Int,v≠.int .u64 n:=by
  intro v hv n
  simp only[List.mem_cons,List.not_mem_nil,or_false] at hv
  rcases hv with rfl|rfl<;>simp
 refine ⟨Blk.pn hB _ _,fun v x h=>cw h hB hi (by simp[World.setCell]) (qP _ _ _ _),fun v x h=>pH h hB hi (by simp[World.setCell]) (qP _ _ _ _),fun b' t' cs hne h=>?_,fun w0 h hk=>Bo hk h _ _,by simp[World.setCell]⟩
 exact Blk.jz h hne _ _
inductive Spec where
 | is (v:Value)
 | int (n:Int)
 | num (x:Rat)
 | new (base:Nat) (t:TypeId) (cs:List Value)
 | says (p:Value→Prop)
 | any
def ae (s:Option Spec) (v:Value) (w:World):Prop:=
 match s with
 | some (.is u)=>v=u
 | some (.int n)=>Whole w v n
 | some (.num x)=>Ex w v x
 | some (.new base t cs)=>∃ b,v=.pointer (some ⟨b,0,none⟩)∧base≤b∧Blk w b t cs
 | some (.says p)=>p v
 | _=>True
theorem ae.kept (s:Option Spec) (v:Value) (w w':World) (h:ae s v w) (k:Kept w w'):ae s v w':=by
 unfold ae at *
 split
 ·exact h
 ·exact Whole.kept h k
 ·exact Ex.kept h k
 ·obtain⟨b,e,hb,hB⟩:=h
  exact⟨b,e,hb,hB.kept k⟩
 ·exact h
 ·trivial
def cT (s:Option Spec) (v:Value) (w:World):Prop:=
 match s with
 | some (.new _ _ _)=>v=.pointer (some ⟨w.heap.size,0,none⟩)
 | _=>True
def rl (s t:Option Spec) (u v:Value):Prop:=
 match s,t with
 | some (.new _ _ _),some (.new _ _ _)=>u≠v
 | _,_=>True
theorem yi {s t:Option Spec} {u v:Value} {w:World} (h:cT s u w) (h2:ae t v w):rl s t u v∧rl t s v u:=by
 unfold rl
 constructor
 ·split
  ·rename_i _ _ _ _ _ _
   obtain⟨b,rfl,_,hB⟩:=h2
   obtain rfl:u=_:=h
   intro he
   simp only[Value.pointer.injEq,Option.some.injEq,Addr.mk.injEq,and_true] at he
   have:=hB.lt
   omega
  ·trivial
 ·split
  ·obtain⟨b,rfl,_,hB⟩:=h2
   obtain rfl:u=_:=h
   intro he
   simp only[Value.pointer.injEq,Option.some.injEq,Addr.mk.injEq,and_true] at he
   have:=hB.lt
   omega
  ·trivial
theorem a7 {u v:Value} {w:World} (h:v=u):ae (some (.is u)) v w∧Kept w w∧True:=⟨h,Kept.rfl' w,trivial⟩
theorem aa.to {P:Program} {ρ:Operand→Value} {o:Oper} {w:World} {T:Value→World→Prop} (v:Value) (w':World)
  (h:(execOp ρ o).run P w=.ok (.value v) w') (hT:T v w'):aa P ρ o w T:=by
 unfold aa;rw[h];exact hT
theorem aa.mono {P:Program} {ρ:Operand→Value} {o:Oper} {w:World} {T U:Value→World→Prop} (h:aa P ρ o w T) (hT:∀ v w',T v w'→U v w'):aa P ρ o w U:=by
 unfold aa at *
 split<;>simp_all
 ·exact Calls.mono h fun e w' ⟨v,he,hv⟩=>⟨v,he,hT _ _ hv⟩
theorem an {P:Program} {ops:Array Oper} {Q:Exit→Act→World→Prop} {id:Nat} {a0:Act} {w0:World} (m:Nat) (specs:List Spec) (rs:List Nat) {A:(Nat→Value)→Act} (hm:P.follows .mixedOrders=true)
  (hmn:Nat.ble m ops.size=true) (hrs:List.range m=rs) (hp:(gW ops m a0.tmps.size&&Plain ops m)=true) (hw:fC .any ops m=true) (ht:mf .any ops m=true) (hA:∀ f,laid ops f a0 rs=A f)
  (step:∀ (i:Nat) (o:Oper),i<m→ops[i]?=some o→∀ (f:Nat→Value) (w:World),Kept w0 w→(∀ e∈o.after,Region.binds .any e=true→ae specs[e.on]? (f e.on) w) →
   aa P (A f).eval o w fun v w'=>ae specs[i]? v w'∧Kept w w'∧cT specs[i]? v w)
  (fin:∀ (f:Nat→Value) (w:World),Kept w0 w→(∀ i,i<m→ae specs[i]? (f i) w)→(∀ i j,i<m→j<m→i≠j→rl specs[i]? specs[j]? (f i) (f j))→wpList P ops Q (ops.toList.drop m) (A f) w) :
  (Code.region id ops true).wp P Q a0 w0:=by
 rw[Bool.and_eq_true] at hp
 refine oZ hm Kept Kept.rfl' Kept.comp (fun i v w=>ae specs[i]? v w) (fun _=>ae.kept _) (fun i j u v=>rl specs[i]? specs[j]? u v) m (Nat.le_of_ble_eq_true hmn) hp.1 hw ht
  (fun i o him ho f w hk hd=>?_) (fun f w hk h1 h2=>by rw[hrs,hA];exact fin f w (Kept.jJ hk) h1 h2)
 rw[hrs,hA]
 refine Or.inl ⟨?_,?_⟩
 ·have h1:=List.all_eq_true.1 hp.2 i (List.mem_range.2 him)
  simp only[ho,Option.isNone_iff_eq_none] at h1
  simp only[Region.wanted,h1]
 ·exact E.aa.mono (step i o him ho f w (Kept.jJ hk) hd) fun v w' ⟨h1,h2,h3⟩=>⟨h1,h2,fun j u _ hu=>yi h3 hu⟩
end Go.Proofs.YtnjcdpfibmckmaaGreatDoor.E
