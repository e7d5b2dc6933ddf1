import Derived.Test.YtjbcmmaniphkkaaGreatDoorDig
import Derived.Test.YtjbcmmaniphkkaaGreatDoorLd
import Derived.Test.YtjbcmmaniphkkaaGreatDoorLc
set_option linter.unusedSectionVars false
set_option linter.unusedVariables false
set_option linter.unusedSimpArgs false
set_option maxRecDepth 100000
set_option maxHeartbeats 2000000
namespace Go.Proofs.YtjbcmmaniphkkaaGreatDoor.E
open Go.RowKit LimbNum
theorem kN {w w':World} {l:Value} {m b:Nat} {t:TypeId} {cs:List Value} (h:Lim w l m) (hB:Blk w b t cs) (hc:∀ v,v∈cs→∀ n:Int,v≠.int .u64 n) (hs:w.heap.size≤w'.heap.size)
  (ho:∀ k,k≠b→w'.heap[k]?=w.heap[k]?):Lim w' l m:=by
 obtain⟨a,c,rfl,hc',hr⟩:=h
 refine ⟨a,c,rfl,hc',?_⟩
 rcases hr with hr|⟨b',off,rfl,hb,hcell⟩
 ·exact .inl hr
 ·refine .inr ⟨b',off,rfl,Nat.lt_of_lt_of_le hb hs,fun i hi=>?_⟩
  by_cases hbb:b'=b
  ·exfalso
   subst hbb
   have h1:=hcell i hi
   unfold World.cell? at h1
   rw[hB] at h1
   simp only[Option.isSome_none,Bool.false_eq_true,if_false,List.getElem?_toArray] at h1
   exact hc _ (List.mem_of_getElem? h1) _ rfl
  ·rw[World.cell?_of_block (w:=w) (ho b' hbb)]
   exact hcell i hi
theorem cP {w w':World} {v:Value} {n:Int} {b:Nat} {t:TypeId} {cs:List Value} (h:Whole w v n) (hB:Blk w b t cs) (hc:∀ v,v∈cs→∀ n:Int,v≠.int .u64 n) (hs:w.heap.size≤w'.heap.size)
  (ho:∀ k,k≠b→w'.heap[k]?=w.heap[k]?):Whole w' v n:=by
 obtain⟨l,rfl,hl⟩:=h
 exact⟨l,rfl,kN hl hB hc hs ho⟩
theorem aO {w:World} {v:Value} {n:Int} (h:Whole w v n):∃ s a k c,v=.agg #[.bool s,.slice a k c]:=by
 obtain⟨_,h,a,c,h2,_⟩:=h
 exact⟨_,a,_,c,by rw[h,h2]⟩
def Ex (w:World) (v:Value) (x:Rat):Prop:=∃ s1 a1 n1 c1 s2 a2 n2 c2,v=.agg #[.bool s1,.slice a1 n1 c1,.bool s2,.slice a2 n2 c2]∧Whole w (.agg #[.bool s1,.slice a1 n1 c1]) x.num∧(Whole w (.agg #[.bool s2,.slice a2 n2 c2]) x.den∨(x.den=1∧Whole w (.agg #[.bool s2,.slice a2 n2 c2]) 0))
theorem Ex.kept {w w':World} {v:Value} {x:Rat} (h:Ex w v x) (k:Kept w w'):Ex w' v x:=by
 obtain⟨s1,a1,n1,c1,s2,a2,n2,c2,rfl,h1,h2⟩:=h
 exact⟨s1,a1,n1,c1,s2,a2,n2,c2,rfl,h1.kept k,h2.imp (fun h=>h.kept k) fun h=>⟨h.1,h.2.kept k⟩⟩
theorem rT {w w':World} {v:Value} {x:Rat} {b:Nat} {t:TypeId} {cs:List Value} (h:Ex w v x) (hB:Blk w b t cs) (hc:∀ v,v∈cs→∀ n:Int,v≠.int .u64 n) (hs:w.heap.size≤w'.heap.size)
  (ho:∀ k,k≠b→w'.heap[k]?=w.heap[k]?):Ex w' v x:=by
 obtain⟨s1,a1,n1,c1,s2,a2,n2,c2,rfl,h1,h2⟩:=h
 exact⟨s1,a1,n1,c1,s2,a2,n2,c2,rfl,cP h1 hB hc hs ho,h2.imp (fun h=>cP h hB hc hs ho) fun h=>⟨h.1,cP h.2 hB hc hs ho⟩⟩
theorem dL {w:World} {v:Value} {x:Rat} (h:Ex w v x):∃ s1 a1 n1 c1 s2 a2 n2 c2,v=.agg #[.bool s1,.slice a1 n1 c1,.bool s2,.slice a2 n2 c2]:=by
 obtain⟨s1,a1,n1,c1,s2,a2,n2,c2,rfl,_⟩:=h
 exact⟨_,_,_,_,_,_,_,_,rfl⟩
theorem Ex.both {w:World} {s1 s2:Bool} {a1 a2:Option Addr} {n1 c1 n2 c2:Nat} {x:Rat} (h:Ex w (.agg #[.bool s1,.slice a1 n1 c1,.bool s2,.slice a2 n2 c2]) x) :
  Whole w (.agg #[.bool s1,.slice a1 n1 c1]) x.num∧(Whole w (.agg #[.bool s2,.slice a2 n2 c2]) x.den∨(x.den=1∧Whole w (.agg #[.bool s2,.slice a2 n2 c2]) 0)):=by
 obtain⟨_,_,_,_,_,_,_,_,he,h1,h2⟩:=h
 simp only[Value.agg.injEq,Array.mk.injEq,List.cons.injEq,Value.bool.injEq,Value.slice.injEq,and_true] at he
 obtain⟨rfl,⟨rfl,rfl,rfl⟩,rfl,rfl,rfl,rfl⟩:=he
 exact⟨h1,h2⟩
theorem oJ {w:World} {s1 s2:Bool} {a1 a2:Option Addr} {n1 c1 n2 c2:Nat} {x:Rat} (h1:Whole w (.agg #[.bool s1,.slice a1 n1 c1]) x.num) (h2:Whole w (.agg #[.bool s2,.slice a2 n2 c2]) x.den):Ex w (.agg #[.bool s1,.slice a1 n1 c1,.bool s2,.slice a2 n2 c2]) x:=
 ⟨_,_,_,_,_,_,_,_,rfl,h1,.inl h2⟩
abbrev dI:List Value:=[.bool false,.slice none 0 0]
abbrev iw:List Value:=[.bool false,.slice none 0 0,.bool false,.slice none 0 0]
theorem nF:∀ v,v∈iw→∀ n:Int,v≠.int .u64 n:=by
 intro v hv n
 simp only[iw,List.mem_cons,List.not_mem_nil,or_false] at hv
 rcases hv with rfl|rfl|rfl|rfl<;>simp
theorem BI:∀ v,v∈dI→∀ n:Int,v≠.int .u64 n:=by
 intro v hv n
 simp only[dI,List.mem_cons,List.not_mem_nil,or_false] at hv
 rcases hv with rfl|rfl<;>simp
theorem Blk.oC {w:World} {b:Nat} {t:TypeId} {c0 c1 c2 c3:Value} (h:Blk w b t [c0,c1,c2,c3]) (d0 d1 d2 d3:Value) :
  Blk ((((w.setCell ⟨b,0,none⟩ d0).setCell ⟨b,1,none⟩ d1).setCell ⟨b,2,none⟩ d2).setCell ⟨b,3,none⟩ d3) b t [d0,d1,d2,d3]:=by
 unfold Blk at *
 exact heap_setCell_same _ b 3 _ _ d3 (heap_setCell_same _ b 2 _ _ d2 (heap_setCell_same _ b 1 _ _ d1 (heap_setCell_same w b 0 _ _ d0 h)))
theorem tF (w:World) (b:Nat) (d0 d1 d2 d3:Value):∀ k,k≠b→((((w.setCell ⟨b,0,none⟩ d0).setCell ⟨b,1,none⟩ d1).setCell ⟨b,2,none⟩ d2).setCell ⟨b,3,none⟩ d3).heap[k]?=w.heap[k]?:=by
 intro k hk
 rw[heap_setCell_other _ ⟨b,3,none⟩ k d3 (by simpa using hk),heap_setCell_other _ ⟨b,2,none⟩ k d2 (by simpa using hk),heap_setCell_other _ ⟨b,1,none⟩ k d1 (by simpa using hk),heap_setCell_other _ ⟨b,0,none⟩ k d0 (by simpa using hk)]
theorem tE (w:World) (b:Nat) (d0 d1:Value):∀ k,k≠b→((w.setCell ⟨b,0,none⟩ d0).setCell ⟨b,1,none⟩ d1).heap[k]?=w.heap[k]?:=by
 intro k hk
 rw[heap_setCell_other _ ⟨b,1,none⟩ k d1 (by simpa using hk),heap_setCell_other _ ⟨b,0,none⟩ k d0 (by simpa using hk)]
theorem iW {w w3:World} {b:Nat} (hk:Kept w w3) (hb:w.heap.size≤b) (d0 d1 d2 d3:Value):Kept w ((((w3.setCell ⟨b,0,none⟩ d0).setCell ⟨b,1,none⟩ d1).setCell ⟨b,2,none⟩ d2).setCell ⟨b,3,none⟩ d3):=
 Below.setCell (Below.setCell (Below.setCell (Below.setCell hk hb d0) hb d1) hb d2) hb d3
theorem II {w w3:World} {b:Nat} (hk:Kept w w3) (hb:w.heap.size≤b) (d0 d1:Value):Kept w ((w3.setCell ⟨b,0,none⟩ d0).setCell ⟨b,1,none⟩ d1):=
 Below.setCell (Below.setCell hk hb d0) hb d1
theorem GS {w w3:World} {b:Nat} {s1 s2:Bool} {a1 a2:Option Addr} {n1 c1 n2 c2:Nat} {x:Rat} (hB:Blk w3 b 97 iw) (hb:w.heap.size≤b) (hk:Kept w w3)
  (hv:Ex w3 (.agg #[.bool s1,.slice a1 n1 c1,.bool s2,.slice a2 n2 c2]) x) :
  Blk ((((w3.setCell ⟨b,0,none⟩ (.bool s1)).setCell ⟨b,1,none⟩ (.slice a1 n1 c1)).setCell ⟨b,2,none⟩ (.bool s2)).setCell ⟨b,3,none⟩ (.slice a2 n2 c2)) b 97 [.bool s1,.slice a1 n1 c1,.bool s2,.slice a2 n2 c2] ∧
  Ex ((((w3.setCell ⟨b,0,none⟩ (.bool s1)).setCell ⟨b,1,none⟩ (.slice a1 n1 c1)).setCell ⟨b,2,none⟩ (.bool s2)).setCell ⟨b,3,none⟩ (.slice a2 n2 c2)) (.agg #[.bool s1,.slice a1 n1 c1,.bool s2,.slice a2 n2 c2]) x ∧
  Kept w ((((w3.setCell ⟨b,0,none⟩ (.bool s1)).setCell ⟨b,1,none⟩ (.slice a1 n1 c1)).setCell ⟨b,2,none⟩ (.bool s2)).setCell ⟨b,3,none⟩ (.slice a2 n2 c2)):=
 ⟨Blk.oC hB _ _ _ _,rT hv hB nF (by simp[World.setCell]) (tF _ _ _ _ _ _),iW hk hb _ _ _ _⟩
theorem tK {w w3:World} {b:Nat} {s1:Bool} {a1:Option Addr} {n1 c1:Nat} {x:Int} (hB:Blk w3 b 95 dI) (hb:w.heap.size≤b) (hk:Kept w w3)
  (hv:Whole w3 (.agg #[.bool s1,.slice a1 n1 c1]) x) :
  Blk ((w3.setCell ⟨b,0,none⟩ (.bool s1)).setCell ⟨b,1,none⟩ (.slice a1 n1 c1)) b 95 [.bool s1,.slice a1 n1 c1] ∧
  Whole ((w3.setCell ⟨b,0,none⟩ (.bool s1)).setCell ⟨b,1,none⟩ (.slice a1 n1 c1)) (.agg #[.bool s1,.slice a1 n1 c1]) x ∧
  Kept w ((w3.setCell ⟨b,0,none⟩ (.bool s1)).setCell ⟨b,1,none⟩ (.slice a1 n1 c1)):=
 ⟨Blk.nA hB _ _,cP hv hB BI (by simp[World.setCell]) (tE _ _ _ _),II hk hb _ _⟩
theorem oU {w:World} {b:Nat} {t:TypeId} {s0:Bool} {a0:Option Addr} {n0 c0:Nat} (hB:Blk w b t [.bool s0,.slice a0 n0 c0]) (s:Bool) (a:Option Addr) (n c:Nat) :
  Blk ((w.setCell ⟨b,0,none⟩ (.bool s)).setCell ⟨b,1,none⟩ (.slice a n c)) b t [.bool s,.slice a n c] ∧
  (∀ v x,Whole w v x→Whole ((w.setCell ⟨b,0,none⟩ (.bool s)).setCell ⟨b,1,none⟩ (.slice a n c)) v x) ∧
  (∀ v x,Ex w v x→Ex ((w.setCell ⟨b,0,none⟩ (.bool s)).setCell ⟨b,1,none⟩ (.slice a n c)) v x) ∧
  (∀ b' t' cs,b'≠b→Blk w b' t' cs→Blk ((w.setCell ⟨b,0,none⟩ (.bool s)).setCell ⟨b,1,none⟩ (.slice a n c)) b' t' cs) ∧
  (∀ w0:World,w0.heap.size≤b→Kept w0 w→Kept w0 ((w.setCell ⟨b,0,none⟩ (.bool s)).setCell ⟨b,1,none⟩ (.slice a n c))) ∧
  ((w.setCell ⟨b,0,none⟩ (.bool s)).setCell ⟨b,1,none⟩ (.slice a n c)).heap.size=w.heap.size:=by
 have hi:∀ v,v∈[Value.bool s0,.slice a0 n0 c0]→∀ n:Int,v≠.int .u64 n:=by
  intro v hv n
  simp only[List.mem_cons,List.not_mem_nil,or_false] at hv
  rcases hv with rfl|rfl<;>simp
 refine ⟨Blk.nA hB _ _,fun v x h=>cP h hB hi (by simp[World.setCell]) (tE _ _ _ _),fun v x h=>rT h hB hi (by simp[World.setCell]) (tE _ _ _ _),fun b' t' cs hne h=>?_,fun w0 h hk=>II hk h _ _,by simp[World.setCell]⟩
 exact Blk.ef h hne _ _
inductive Spec where
 | is (v:Value)
 | int (n:Int)
 | num (x:Rat)
 | new (base:Nat) (t:TypeId) (cs:List Value)
 | says (p:Value→Prop)
 | any
def af (s:Option Spec) (v:Value) (w:World):Prop:=
 match s with
 | some (.is u)=>v=u
 | some (.int n)=>Whole w v n
 | some (.num x)=>Ex w v x
 | some (.new base t cs)=>∃ b,v=.pointer (some ⟨b,0,none⟩)∧base≤b∧Blk w b t cs
 | some (.says p)=>p v
 | _=>True
theorem af.kept (s:Option Spec) (v:Value) (w w':World) (h:af s v w) (k:Kept w w'):af s v w':=by
 unfold af at *
 split
 ·exact h
 ·exact Whole.kept h k
 ·exact Ex.kept h k
 ·obtain⟨b,e,hb,hB⟩:=h
  exact⟨b,e,hb,hB.kept k⟩
 ·exact h
 ·trivial
def dA (s:Option Spec) (v:Value) (w:World):Prop:=
 match s with
 | some (.new _ _ _)=>v=.pointer (some ⟨w.heap.size,0,none⟩)
 | _=>True
def tY (s t:Option Spec) (u v:Value):Prop:=
 match s,t with
 | some (.new _ _ _),some (.new _ _ _)=>u≠v
 | _,_=>True
theorem Cj {s t:Option Spec} {u v:Value} {w:World} (h:dA s u w) (h2:af t v w):tY s t u v∧tY t s v u:=by
 unfold tY
 constructor
 ·split
  ·rename_i _ _ _ _ _ _
   obtain⟨b,rfl,_,hB⟩:=h2
   obtain rfl:u=_:=h
   intro he
   simp only[Value.pointer.injEq,K5,Addr.mk.injEq,and_true] at he
   have:=hB.lt
   omega
  ·trivial
 ·split
  ·obtain⟨b,rfl,_,hB⟩:=h2
   obtain rfl:u=_:=h
   intro he
   simp only[Value.pointer.injEq,K5,Addr.mk.injEq,and_true] at he
   have:=hB.lt
   omega
  ·trivial
theorem aa {u v:Value} {w:World} (h:v=u):af (some (.is u)) v w∧Kept w w∧True:=⟨h,Kept.rfl' w,trivial⟩
theorem ae.to {P:Program} {ρ:Operand→Value} {o:Oper} {w:World} {T:Value→World→Prop} (v:Value) (w':World)
  (h:(execOp ρ o).run P w=.ok (.value v) w') (hT:T v w'):ae P ρ o w T:=by
 unfold ae;rw[h];exact hT
theorem ae.mono {P:Program} {ρ:Operand→Value} {o:Oper} {w:World} {T U:Value→World→Prop} (h:ae P ρ o w T) (hT:∀ v w',T v w'→U v w'):ae P ρ o w U:=by
 unfold ae at *
 split<;>simp_all
 ·exact Calls.mono h fun e w' ⟨v,he,hv⟩=>⟨v,he,hT _ _ hv⟩
theorem aj {P:Program} {ops:Array Oper} {Q:Exit→Act→World→Prop} {id:Nat} {a0:Act} {w0:World} (m:Nat) (specs:List Spec) (rs:List Nat) {A:(Nat→Value)→Act} (hm:P.follows .mixedOrders=true)
  (hmn:Nat.ble m ops.size=true) (hrs:List.range m=rs) (hp:(iR ops m a0.tmps.size&&Plain ops m)=true) (hw:gd .any ops m=true) (ht:oh .any ops m=true) (hA:∀ f,laid ops f a0 rs=A f)
  (step:∀ (i:Nat) (o:Oper),i<m→ops[i]?=some o→∀ (f:Nat→Value) (w:World),Kept w0 w→(∀ e∈o.after,Region.binds .any e=true→af specs[e.on]? (f e.on) w) →
   ae P (A f).eval o w fun v w'=>af specs[i]? v w'∧Kept w w'∧dA specs[i]? v w)
  (fin:∀ (f:Nat→Value) (w:World),Kept w0 w→(∀ i,i<m→af specs[i]? (f i) w)→(∀ i j,i<m→j<m→i≠j→tY specs[i]? specs[j]? (f i) (f j))→wpList P ops Q (ops.toList.drop m) (A f) w) :
  (Code.region id ops true).wp P Q a0 w0:=by
 rw[Bool.and_eq_true] at hp
 refine qX hm Kept Kept.rfl' Kept.comp (fun i v w=>af specs[i]? v w) (fun _=>af.kept _) (fun i j u v=>tY specs[i]? specs[j]? u v) m (Nat.le_of_ble_eq_true hmn) hp.1 hw ht
  (fun i o him ho f w hk hd=>?_) (fun f w hk h1 h2=>by rw[hrs,hA];exact fin f w (Kept.lj hk) h1 h2)
 rw[hrs,hA]
 refine Or.inl ⟨?_,?_⟩
 ·have h1:=List.all_eq_true.1 hp.2 i (List.mem_range.2 him)
  simp only[ho,Option.isNone_iff_eq_none] at h1
  simp only[Region.wanted,h1]
 ·exact E.ae.mono (step i o him ho f w (Kept.lj hk) hd) fun v w' ⟨h1,h2,h3⟩=>⟨h1,h2,fun j u _ hu=>Cj h3 hu⟩
theorem aX {n k:Nat} (h:n<10^k):LimbNum.size n≤k:=by
 refine LimbNum.size_le (Nat.lt_of_lt_of_le h (Nat.pow_le_pow_left ?_ k))
 decide
theorem lone (w:World):Calls Tryz.prog 150 #[.int .i64 1] w fun e w'=>∃ v,e=.returned v∧Whole w' v 1∧Kept w w':=jg 1 w (by decide) (by decide)
theorem cm (va vb:Value) (x g:Int) (w:World) (ha:Whole w va x) (hb:Whole w vb g) (hx:size x.natAbs≤536870912) (hg:size g.natAbs≤1099511627776) :
  Calls Tryz.prog 157 #[va,vb] w fun e w'=>∃ v,e=.returned v∧Whole w' v (x.tdiv g)∧Kept w w':=by
 have HI:=K7 fun w' (h:Whole w' vb g)=>mD vb g w' h hg
 have HQ:=K7 fun w' (h1:Whole w' va x) (h2:Whole w' vb g)=>oG va vb x g w' h1 h2 hx hg
 clear hx hg
 obtain⟨s1,a1,n1,c1,rfl⟩:=aO ha
 obtain⟨s2,a2,n2,c2,rfl⟩:=aO hb
 obtain⟨hk,hB1,hB2,hB⟩:=cO w [.bool s1,.slice a1 n1 c1] [.bool s2,.slice a2 n2 c2] 95 95 95 dI
 by_cases h1:g=1
 ·rw[decide_eq_true h1] at HI
  rw[h1,Int.tdiv_one]
  clear h1 HQ
  go_enter Tryz.func157,Tryz.ntmps157
  have q0:=hB1.cell 0 rfl
  have q1:=hB1.cell 1 rfl
  have r0:=hB2.cell 0 rfl
  have r1:=hB2.cell 1 rfl
  go_wp2_with fail
  generalize ((w.alloc (.cells [.bool s1,.slice a1 n1 c1].toArray _)).alloc (.cells [.bool s2,.slice a2 n2 c2].toArray _)).alloc (.cells dI.toArray _)=w2 at *
  refine (HI.out _ (hb.kept hk)).mono ?_
  rintro e w3 ⟨rfl,hk3⟩
  have hv:=ha.kept (Kept.comp _ _ _ hk hk3)
  have hk:=Kept.comp _ _ _ hk hk3
  have hB1:=hB1.kept hk3
  have hB:=hB.kept hk3
  have q0:=hB1.cell 0 rfl
  have q1:=hB1.cell 1 rfl
  have r0:=hB.cell 0 rfl
  have r1:=hB.cell 1 rfl
  have f0:=hB.free 0
  have f1:=hB.free 1
  clear HI
  go_wp2
  obtain⟨rB,rv,rk⟩:=tK (w:=w) hB (by omega) hk hv
  have p0:=rB.cell 0 rfl
  have p1:=rB.cell 1 rfl
  exact bodyPost_ret (v:=.agg #[.bool s1,.slice a1 n1 c1]) (by simp[results,Tryz.results157,go_sem,p0,p1]) rfl ⟨_,rfl,rv,rk⟩
 ·rw[decide_eq_false h1] at HI
  clear h1
  go_enter Tryz.func157,Tryz.ntmps157
  have q0:=hB1.cell 0 rfl
  have q1:=hB1.cell 1 rfl
  have r0:=hB2.cell 0 rfl
  have r1:=hB2.cell 1 rfl
  go_wp2_with fail
  generalize ((w.alloc (.cells [.bool s1,.slice a1 n1 c1].toArray _)).alloc (.cells [.bool s2,.slice a2 n2 c2].toArray _)).alloc (.cells dI.toArray _)=w2 at *
  refine (HI.out _ (hb.kept hk)).mono ?_
  rintro e w3 ⟨rfl,hk3⟩
  have hk:=Kept.comp _ _ _ hk hk3
  have hB1:=hB1.kept hk3
  have hB2:=hB2.kept hk3
  have hB:=hB.kept hk3
  have q0:=hB1.cell 0 rfl
  have q1:=hB1.cell 1 rfl
  have r0:=hB2.cell 0 rfl
  have r1:=hB2.cell 1 rfl
  clear HI
  go_wp2_with fail
  refine (HQ.out _ (ha.kept hk) (hb.kept hk)).mono ?_
  rintro e w4 ⟨v,rfl,hv,hk4⟩
  have hk:=Kept.comp _ _ _ hk hk4
  have hB:=hB.kept hk4
  obtain⟨s3,a3,n3,c3,rfl⟩:=aO hv
  have r0:=hB.cell 0 rfl
  have r1:=hB.cell 1 rfl
  have f0:=hB.free 0
  have f1:=hB.free 1
  clear HQ
  go_wp2
  obtain⟨rB,rv,rk⟩:=tK (w:=w) hB (by omega) hk hv
  have p0:=rB.cell 0 rfl
  have p1:=rB.cell 1 rfl
  exact bodyPost_ret (v:=.agg #[.bool s3,.slice a3 n3 c3]) (by simp[results,Tryz.results157,go_sem,p0,p1]) rfl ⟨_,rfl,rv,rk⟩
theorem fu (v:Value) (x:Rat) (k:Nat) (w:World) (h:Ex w v x) (hb:DigNum.Bd x k) (hk:k≤1000000) :
  Calls Tryz.prog 73 #[v] w fun e w'=>∃ v,e=.returned v∧Whole w' v x.den∧Kept w w':=by
 have hsz:size x.den≤1000000:=Nat.le_trans (aX hb.2) hk
 have hden:=x.den_nz
 clear hb hk
 obtain⟨s1,a1,n1,c1,s2,a2,n2,c2,rfl⟩:=dL h
 have h2:=h.both.2
 obtain⟨hk,hB1,hB⟩:=bp w [.bool s1,.slice a1 n1 c1,.bool s2,.slice a2 n2 c2] dI 97 95
 have H1:=K7 fun w'=>lone w'
 have HS:=K7 fun w' n (h:Whole w' (.agg #[.bool s2,.slice a2 n2 c2]) n) (hm:size n.natAbs≤1099511627776)=>bZ _ n w' h hm
 clear h
 rcases h2 with h2|⟨hd,h2⟩
 ·have HS:=K7 fun w' (h:Whole w' (.agg #[.bool s2,.slice a2 n2 c2]) (x.den:Int))=>HS.out w' _ h (by rw[Int.natAbs_natCast];omega)
  rw[Int.sign_eq_one_of_pos (by omega)] at HS
  clear hden hsz
  go_enter Tryz.func73,Tryz.ntmps73
  have q0:=hB1.cell 0 rfl
  have q1:=hB1.cell 1 rfl
  have q2:=hB1.cell 2 rfl
  have q3:=hB1.cell 3 rfl
  go_wp2_with fail
  generalize (w.alloc (.cells [.bool s1,.slice a1 n1 c1,.bool s2,.slice a2 n2 c2].toArray _)).alloc (.cells dI.toArray _)=w2 at *
  refine (HS.out _ (h2.kept hk)).mono ?_
  rintro e w3 ⟨rfl,hk3⟩
  have hk:=Kept.comp _ _ _ hk hk3
  have hv:=h2.kept hk
  have hB1:=hB1.kept hk3
  have hB:=hB.kept hk3
  have q0:=hB1.cell 0 rfl
  have q1:=hB1.cell 1 rfl
  have q2:=hB1.cell 2 rfl
  have q3:=hB1.cell 3 rfl
  have r0:=hB.cell 0 rfl
  have r1:=hB.cell 1 rfl
  have f0:=hB.free 0
  have f1:=hB.free 1
  clear HS H1
  go_wp2
  obtain⟨rB,rv,rk⟩:=tK (w:=w) hB (by omega) hk hv
  have p0:=rB.cell 0 rfl
  have p1:=rB.cell 1 rfl
  exact bodyPost_ret (v:=.agg #[.bool s2,.slice a2 n2 c2]) (by simp[results,Tryz.results73,go_sem,p0,p1]) rfl ⟨_,rfl,rv,rk⟩
 ·have HS:=K7 fun w' (h:Whole w' (.agg #[.bool s2,.slice a2 n2 c2]) 0)=>HS.out w' _ h (by decide)
  rw[show (0:Int).sign=0 from rfl] at HS
  rw[hd]
  clear hden hsz hd
  go_enter Tryz.func73,Tryz.ntmps73
  have q0:=hB1.cell 0 rfl
  have q1:=hB1.cell 1 rfl
  have q2:=hB1.cell 2 rfl
  have q3:=hB1.cell 3 rfl
  go_wp2_with fail
  generalize (w.alloc (.cells [.bool s1,.slice a1 n1 c1,.bool s2,.slice a2 n2 c2].toArray _)).alloc (.cells dI.toArray _)=w2 at *
  refine (HS.out _ (h2.kept hk)).mono ?_
  rintro e w3 ⟨rfl,hk3⟩
  have hk:=Kept.comp _ _ _ hk hk3
  have hB:=hB.kept hk3
  clear HS
  go_wp2_with fail
  refine (H1.out _).mono ?_
  rintro e w4 ⟨v,rfl,hv,hk4⟩
  have hk:=Kept.comp _ _ _ hk hk4
  have hB:=hB.kept hk4
  obtain⟨s3,a3,n3,c3,rfl⟩:=aO hv
  have r0:=hB.cell 0 rfl
  have r1:=hB.cell 1 rfl
  have f0:=hB.free 0
  have f1:=hB.free 1
  clear H1
  go_wp2
  obtain⟨rB,rv,rk⟩:=tK (w:=w) hB (by omega) hk hv
  have p0:=rB.cell 0 rfl
  have p1:=rB.cell 1 rfl
  exact bodyPost_ret (v:=.agg #[.bool s3,.slice a3 n3 c3]) (by simp[results,Tryz.results73,go_sem,p0,p1]) rfl ⟨_,rfl,rv,rk⟩
theorem zO (v:Value) (x:Rat) (k:Nat) (w:World) (h:Ex w v x) (hb:DigNum.Bd x k) (hk:k≤1000000) :
  Calls Tryz.prog 68 #[v] w fun e w'=>e=.returned (.int .i64 x.num.sign)∧Kept w w':=by
 have hsz:size x.num.natAbs≤1000000:=Nat.le_trans (aX hb.1) hk
 clear hb hk
 obtain⟨s1,a1,n1,c1,s2,a2,n2,c2,rfl⟩:=dL h
 have h2:=h.both.1
 have hk:=ak w (.cells ([.bool s1,.slice a1 n1 c1,.bool s2,.slice a2 n2 c2]).toArray 97)
 have hB1:=aJ w 97 [.bool s1,.slice a1 n1 c1,.bool s2,.slice a2 n2 c2]
 have HS:=K7 fun w' (h:Whole w' (.agg #[.bool s1,.slice a1 n1 c1]) x.num)=>bZ _ x.num w' h (by omega)
 generalize x.num=z at *
 generalize z.sign=g at *
 clear h hsz
 go_enter Tryz.func68,Tryz.ntmps68
 have q0:=hB1.cell 0 rfl
 have q1:=hB1.cell 1 rfl
 have q2:=hB1.cell 2 rfl
 have q3:=hB1.cell 3 rfl
 go_wp2_with fail
 generalize w.alloc (.cells [.bool s1,.slice a1 n1 c1,.bool s2,.slice a2 n2 c2].toArray _)=w2 at *
 refine (HS.out _ (h2.kept hk)).mono ?_
 rintro e w3 ⟨rfl,hk3⟩
 have hk:=Kept.comp _ _ _ hk hk3
 clear HS
 go_wp2
 go_ret
 exact⟨rfl,hk⟩
theorem wG (v:Value) (n:Int) (w:World) (h:Whole w v n) :
  Calls Tryz.prog 122 #[v] w fun e w'=>∃ v,e=.returned v∧Ex w' v (n:Rat)∧Kept w w':=by
 obtain⟨s1,a1,n1,c1,rfl⟩:=aO h
 obtain⟨hk,hB1,hB⟩:=bp w [.bool s1,.slice a1 n1 c1] [.bool s1,.slice a1 n1 c1,.bool false,.slice none 0 0] 95 97
 obtain⟨_,hB1',hB'⟩:=bp w [.bool s1,.slice a1 n1 c1] iw 95 97
 have hv:Ex ((w.alloc (.cells [.bool s1,.slice a1 n1 c1].toArray _)).alloc (.cells [.bool s1,.slice a1 n1 c1,.bool false,.slice none 0 0].toArray _)) (.agg #[.bool s1,.slice a1 n1 c1,.bool false,.slice none 0 0]) (n:Rat):=
  ⟨_,_,_,_,_,_,_,_,rfl,by rw[Rat.num_intCast];exact h.kept hk,.inr ⟨Rat.den_intCast _,⟨_,rfl,none,0,rfl,K6 _,.inl ⟨rfl,bc⟩⟩⟩⟩
 clear h
 go_enter Tryz.func122,Tryz.ntmps122
 have q0:=hB1'.cell 0 rfl
 have q1:=hB1'.cell 1 rfl
 have r0:=hB'.cell 0 rfl
 have r1:=hB'.cell 1 rfl
 have r2:=hB'.cell 2 rfl
 have r3:=hB'.cell 3 rfl
 have f0:=hB'.free 0
 have f1:=hB'.free 1
 have f2:=hB'.free 2
 have f3:=hB'.free 3
 go_wp2
 have p0:=hB.cell 0 rfl
 have p1:=hB.cell 1 rfl
 have p2:=hB.cell 2 rfl
 have p3:=hB.cell 3 rfl
 exact bodyPost_ret (v:=.agg #[.bool s1,.slice a1 n1 c1,.bool false,.slice none 0 0]) (by simp[results,Tryz.results122,go_sem]) rfl ⟨_,rfl,hv,hk⟩
theorem BP (v1 v2:Value) (x y:Rat) (k l:Nat) (w:World) (hx:Ex w v1 x) (hy:Ex w v2 y) (bx:DigNum.Bd x k) (bl:DigNum.Bd y l) (hkk:k≤1000000) (hll:l≤1000000) :
  Calls Tryz.prog 75 #[v1,v2] w fun e w'=>∃ v,e=.returned v∧Ex w' v (x*y)∧Kept w w':=by
 obtain⟨m1,m2⟩:=DigNum.xQ x y
 have MB1:=K7 fun v w' (h:Ex w' v x)=>fu v x k w' h bx hkk
 have MB2:=K7 fun v w' (h:Ex w' v y)=>fu v y l w' h bl hll
 have e1:=bx.1
 have e2:=DigNum.fo bx.2
 have e3:=bl.1
 have e4:=DigNum.fo bl.2
 have MD1:=K7 fun va vb w' h1 h2=>dQ va vb x.num y.den w' h1 h2 (Nat.le_trans (aX e1) (by omega)) (Nat.le_trans (aX e4) (by omega))
 have MD2:=K7 fun va vb w' h1 h2=>dQ va vb y.num x.den w' h1 h2 (Nat.le_trans (aX e3) (by omega)) (Nat.le_trans (aX e2) (by omega))
 rw[Int.natAbs_natCast] at MD1 MD2
 have G1:=DigNum.fo (DigNum.ta bl.2 y.den_pos x.num.natAbs)
 have G2:=DigNum.fo (DigNum.ta bx.2 x.den_pos y.num.natAbs)
 clear bx bl
 obtain⟨s1,a1,n1,c1,s2,a2,n2,c2,rfl⟩:=dL hx
 obtain⟨s3,a3,n3,c3,s4,a4,n4,c4,rfl⟩:=dL hy
 have hx1:=hx.both.1
 have hy1:=hy.both.1
 generalize x.num=a at *
 generalize (x.den:Int)=b at *
 generalize y.num=c at *
 generalize (y.den:Int)=d at *
 generalize ((Nat.gcd a.natAbs y.den:Nat):Int)=g1 at *
 generalize ((Nat.gcd c.natAbs x.den:Nat):Int)=g2 at *
 have S1:=K7 fun va vb w' h1 h2=>cm va vb a g1 w' h1 h2 (Nat.le_trans (aX e1) (by omega)) (Nat.le_trans (aX G1) (by omega))
 have S2:=K7 fun va vb w' h1 h2=>cm va vb c g2 w' h1 h2 (Nat.le_trans (aX e3) (by omega)) (Nat.le_trans (aX G2) (by omega))
 have S3:=K7 fun va vb w' h1 h2=>cm va vb b g2 w' h1 h2 (Nat.le_trans (aX e2) (by omega)) (Nat.le_trans (aX G2) (by omega))
 have S4:=K7 fun va vb w' h1 h2=>cm va vb d g1 w' h1 h2 (Nat.le_trans (aX e4) (by omega)) (Nat.le_trans (aX G1) (by omega))
 have f1:=DigNum.oW e1 g1
 have f2:=DigNum.oW e3 g2
 have f3:=DigNum.oW e2 g2
 have f4:=DigNum.oW e4 g1
 generalize a.tdiv g1=p1 at *
 generalize c.tdiv g2=p2 at *
 generalize b.tdiv g2=p3 at *
 generalize d.tdiv g1=p4 at *
 have M1:=K7 fun va vb w' h1 h2=>dJ va vb p1 p2 w' h1 h2 (Nat.le_trans (aX f1) (by omega)) (Nat.le_trans (aX f2) (by omega)) (Nat.le_trans (aX (DigNum.iI f1 f2)) (by omega))
 have M2:=K7 fun va vb w' h1 h2=>dJ va vb p3 p4 w' h1 h2 (Nat.le_trans (aX f3) (by omega)) (Nat.le_trans (aX f4) (by omega)) (Nat.le_trans (aX (DigNum.iI f3 f4)) (by omega))
 have HX:=K7 fun w' s a n c s' a' n' c' (q1:Whole w' (.agg #[.bool s,.slice a n c]) (p1*p2)) (q2:Whole w' (.agg #[.bool s',.slice a' n' c']) (p3*p4))=>(oJ (x:=x*y) (by rw[m1];exact q1) (by rw[m2];exact q2))
 generalize x*y=z at *
 clear e1 e2 e3 e4 G1 G2 f1 f2 f3 f4 m1 m2 hkk hll
 obtain⟨hk,hB1,hB2,hB⟩:=cO w [.bool s1,.slice a1 n1 c1,.bool s2,.slice a2 n2 c2] [.bool s3,.slice a3 n3 c3,.bool s4,.slice a4 n4 c4] 97 97 97 iw
 go_enter Tryz.func75,Tryz.ntmps75
 go_wp2_with fail
 have hx:=hx.kept hk
 have hy:=hy.kept hk
 have hx1:=hx1.kept hk
 have hy1:=hy1.kept hk
 have hz0:w.heap.size+1+1+1≤_:=hB.lt
 generalize ((w.alloc (.cells [.bool s1,.slice a1 n1 c1,.bool s2,.slice a2 n2 c2].toArray _)).alloc (.cells [.bool s3,.slice a3 n3 c3,.bool s4,.slice a4 n4 c4].toArray _)).alloc (.cells iw.toArray _)=w2 at *
 refine aj 12 [.is (.pointer (some ⟨w.heap.size,0,none⟩)),.is (.agg #[.bool s1,.slice a1 n1 c1]),.is (.agg #[.bool s3,.slice a3 n3 c3,.bool s4,.slice a4 n4 c4]),.int d,.int g1,.is (.pointer (some ⟨w.heap.size+1,0,none⟩)),.is (.agg #[.bool s3,.slice a3 n3 c3]),.is (.agg #[.bool s1,.slice a1 n1 c1,.bool s2,.slice a2 n2 c2]),.int b,.int g2,.new (w.heap.size+1+1+1) 95 dI,.new (w.heap.size+1+1+1) 95 dI] [0,1,2,3,4,5,6,7,8,9,10,11] (by kernel_rfl) (by kernel_rfl) (by kernel_rfl) (by kernel_rfl) (by kernel_rfl) (by kernel_rfl) (by intro f;simp only[laid,List.foldl_cons,List.foldl_nil,List.getElem?_toArray,K9,K8,Option.bind_some,Act.put,List.setIfInBounds_toArray,List.set_cons_zero,List.set_cons_succ];rfl) ?_ ?_
 ·intro i o him ho f wi hki hdep
  have q2_0:=(hB1.kept hki).cell 0 rfl
  have q2_1:=(hB1.kept hki).cell 1 rfl
  have q2_2:=(hB1.kept hki).cell 2 rfl
  have q2_3:=(hB1.kept hki).cell 3 rfl
  have q3_0:=(hB2.kept hki).cell 0 rfl
  have q3_1:=(hB2.kept hki).cell 1 rfl
  have q3_2:=(hB2.kept hki).cell 2 rfl
  have q3_3:=(hB2.kept hki).cell 3 rfl
  rcases i with _|_|_|_|_|_|_|_|_|_|_|_|i
  ·cases so ho
   refine ae.value (.pointer (some ⟨w.heap.size,0,none⟩)) ?_ (aa rfl)
   go_simp
  ·cases so ho
   have d0:=hdep ⟨0,.data⟩ (by simp) rfl
   simp only[af,K9] at d0
   refine ae.value (.agg #[.bool s1,.slice a1 n1 c1]) ?_ (aa rfl)
   go_simp
  ·cases so ho
   refine ae.value (.agg #[.bool s3,.slice a3 n3 c3,.bool s4,.slice a4 n4 c4]) ?_ (aa rfl)
   go_simp
  ·cases so ho
   have d2:=hdep ⟨2,.data⟩ (by simp) rfl
   simp only[af,K9,K8] at d2
   refine ae.call 73 #[.agg #[.bool s3,.slice a3 n3 c3,.bool s4,.slice a4 n4 c4]] (by go_simp) ((MB2.out _ wi (hy.kept hki)).mono ?_)
   rintro e w7 ⟨v,rfl,hv,hk7⟩
   exact⟨v,rfl,hv,hk7,trivial⟩
  ·cases so ho
   have d1:=hdep ⟨1,.data⟩ (by simp) rfl
   have d3:=hdep ⟨3,.data⟩ (by simp) rfl
   simp only[af,K9,K8] at d1 d3
   refine ae.call 147 #[.agg #[.bool s1,.slice a1 n1 c1],f 3] (by go_simp) ((MD1.out _ _ wi (hx1.kept hki) d3).mono ?_)
   rintro e w7 ⟨v,rfl,hv,hk7⟩
   exact⟨v,rfl,hv,hk7,trivial⟩
  ·cases so ho
   refine ae.value (.pointer (some ⟨w.heap.size+1,0,none⟩)) ?_ (aa rfl)
   go_simp
  ·cases so ho
   have d5:=hdep ⟨5,.data⟩ (by simp) rfl
   simp only[af,K9,K8] at d5
   refine ae.value (.agg #[.bool s3,.slice a3 n3 c3]) ?_ (aa rfl)
   go_simp
  ·cases so ho
   refine ae.value (.agg #[.bool s1,.slice a1 n1 c1,.bool s2,.slice a2 n2 c2]) ?_ (aa rfl)
   go_simp
  ·cases so ho
   have d7:=hdep ⟨7,.data⟩ (by simp) rfl
   simp only[af,K9,K8] at d7
   refine ae.call 73 #[.agg #[.bool s1,.slice a1 n1 c1,.bool s2,.slice a2 n2 c2]] (by go_simp) ((MB1.out _ wi (hx.kept hki)).mono ?_)
   rintro e w7 ⟨v,rfl,hv,hk7⟩
   exact⟨v,rfl,hv,hk7,trivial⟩
  ·cases so ho
   have d6:=hdep ⟨6,.data⟩ (by simp) rfl
   have d8:=hdep ⟨8,.data⟩ (by simp) rfl
   simp only[af,K9,K8] at d6 d8
   refine ae.call 147 #[.agg #[.bool s3,.slice a3 n3 c3],f 8] (by go_simp) ((MD2.out _ _ wi (hy1.kept hki) d8).mono ?_)
   rintro e w7 ⟨v,rfl,hv,hk7⟩
   exact⟨v,rfl,hv,hk7,trivial⟩
  ·cases so ho
   refine ae.to (.pointer (some ⟨wi.heap.size,0,none⟩)) (wi.alloc (.cells dI.toArray 95)) ?_ ⟨⟨_,rfl,Nat.le_trans hz0 hki.size,aJ _ _ _⟩,ak _ _,rfl⟩
   go_simp
  ·cases so ho
   refine ae.to (.pointer (some ⟨wi.heap.size,0,none⟩)) (wi.alloc (.cells dI.toArray 95)) ?_ ⟨⟨_,rfl,Nat.le_trans hz0 hki.size,aJ _ _ _⟩,ak _ _,rfl⟩
   go_simp
  ·omega
 ·intro f wi hki hall hap
  have hk:=Kept.comp _ _ _ hk hki
  have hB1:=hB1.kept hki
  have hB2:=hB2.kept hki
  have hx:=hx.kept hki
  have hx1:=hx1.kept hki
  have hy:=hy.kept hki
  have hy1:=hy1.kept hki
  have hB:=hB.kept hki
  have hg1:=hall 4 (by decide)
  simp only[af,K9,K8] at hg1
  obtain⟨s5,a5,n5,c5,e5⟩:=aO hg1
  rw[e5] at hg1
  have hg2:=hall 9 (by decide)
  simp only[af,K9,K8] at hg2
  obtain⟨s6,a6,n6,c6,e6⟩:=aO hg2
  rw[e6] at hg2
  obtain⟨b5,e10,hb5,B5⟩:=hall 10 (by decide)
  obtain⟨b6,e11,hb6,B6⟩:=hall 11 (by decide)
  have hne:b6≠b5:=by
   have:=hap 10 11 (by decide) (by decide) (by decide)
   rintro rfl
   exact this (e10.trans e11.symm)
  clear hall hap
  simp only[List.drop_succ_cons,List.drop_zero]
  rw[e10,e11,e5,e6]
  have w50:=B5.cell 0 rfl
  have w51:=B5.cell 1 rfl
  have v50:=B5.free 0
  have v51:=B5.free 1
  have w60:=B6.cell 0 rfl
  have w61:=B6.cell 1 rfl
  have v60:=B6.free 0
  have v61:=B6.free 1
  obtain⟨B5',st1,sx1,sb1,sk1,sz1⟩:=oU B5 s5 a5 n5 c5
  have B6':=sb1 _ _ _ hne B6
  obtain⟨B6'',st2,sx2,sb2,sk2,sz2⟩:=oU B6' s6 a6 n6 c6
  have B5:=sb2 _ _ _ (Ne.symm hne) B5'
  have hB1:=sb2 _ _ _ (by omega) (sb1 _ _ _ (by omega) hB1)
  have hB2:=sb2 _ _ _ (by omega) (sb1 _ _ _ (by omega) hB2)
  have hBr:=sb2 _ _ _ (by omega) (sb1 _ _ _ (by omega) hB)
  have hx:=sx2 _ _ (sx1 _ _ hx)
  have hy:=sx2 _ _ (sx1 _ _ hy)
  have hx1:=st2 _ _ (st1 _ _ hx1)
  have hy1:=st2 _ _ (st1 _ _ hy1)
  have hg1:=st2 _ _ (st1 _ _ hg1)
  have hg2:=st2 _ _ (st1 _ _ hg2)
  have hk:=sk2 w (by omega) (sk1 w (by omega) hk)
  go_wp2_with fail
  generalize (((wi.setCell ⟨b5,0,none⟩ (.bool s5)).setCell ⟨b5,1,none⟩ (.slice a5 n5 c5)).setCell ⟨b6,0,none⟩ (.bool s6)).setCell ⟨b6,1,none⟩ (.slice a6 n6 c6)=w3 at *
  have B6:=B6''
  have hB:=hBr
  clear B6'' B5' B6' st1 sx1 sb1 sk1 sz1 st2 sx2 sb2 sk2 sz2 w50 w51 v50 v51 w60 w61 v60 v61 hki e5 e6
  refine aj 19 [.is (.pointer (some ⟨w.heap.size,0,none⟩)),.is (.agg #[.bool s1,.slice a1 n1 c1]),.is (.agg #[.bool s5,.slice a5 n5 c5]),.int p1,.is (.pointer (some ⟨w.heap.size+1,0,none⟩)),.is (.agg #[.bool s3,.slice a3 n3 c3]),.is (.agg #[.bool s6,.slice a6 n6 c6]),.int p2,.int (p1*p2),.is (.agg #[.bool s1,.slice a1 n1 c1,.bool s2,.slice a2 n2 c2]),.int b,.is (.agg #[.bool s6,.slice a6 n6 c6]),.int p3,.is (.agg #[.bool s3,.slice a3 n3 c3,.bool s4,.slice a4 n4 c4]),.int d,.is (.agg #[.bool s5,.slice a5 n5 c5]),.int p4,.int (p3*p4),.num z] [0,1,2,3,4,5,6,7,8,9,10,11,12,13,14,15,16,17,18] (by kernel_rfl) (by kernel_rfl) (by kernel_rfl) (by kernel_rfl) (by kernel_rfl) (by kernel_rfl) (by intro f;simp only[laid,List.foldl_cons,List.foldl_nil,List.getElem?_toArray,K9,K8,Option.bind_some,Act.put,List.setIfInBounds_toArray,List.set_cons_zero,List.set_cons_succ];rfl) ?_ ?_
  ·intro i o him ho f wi hki hdep
   have q2_0:=(hB1.kept hki).cell 0 rfl
   have q2_1:=(hB1.kept hki).cell 1 rfl
   have q2_2:=(hB1.kept hki).cell 2 rfl
   have q2_3:=(hB1.kept hki).cell 3 rfl
   have q3_0:=(hB2.kept hki).cell 0 rfl
   have q3_1:=(hB2.kept hki).cell 1 rfl
   have q3_2:=(hB2.kept hki).cell 2 rfl
   have q3_3:=(hB2.kept hki).cell 3 rfl
   have q5_0:=(B5.kept hki).cell 0 rfl
   have q5_1:=(B5.kept hki).cell 1 rfl
   have q6_0:=(B6.kept hki).cell 0 rfl
   have q6_1:=(B6.kept hki).cell 1 rfl
   rcases i with _|_|_|_|_|_|_|_|_|_|_|_|_|_|_|_|_|_|_|i
   ·cases so ho
    refine ae.value (.pointer (some ⟨w.heap.size,0,none⟩)) ?_ (aa rfl)
    go_simp
   ·cases so ho
    have d0:=hdep ⟨0,.data⟩ (by simp) rfl
    simp only[af,K9] at d0
    refine ae.value (.agg #[.bool s1,.slice a1 n1 c1]) ?_ (aa rfl)
    go_simp
   ·cases so ho
    refine ae.value (.agg #[.bool s5,.slice a5 n5 c5]) ?_ (aa rfl)
    go_simp
   ·cases so ho
    have d1:=hdep ⟨1,.data⟩ (by simp) rfl
    have d2:=hdep ⟨2,.data⟩ (by simp) rfl
    simp only[af,K9,K8] at d1 d2
    refine ae.call 157 #[.agg #[.bool s1,.slice a1 n1 c1],.agg #[.bool s5,.slice a5 n5 c5]] (by go_simp) ((S1.out _ _ wi (hx1.kept hki) (hg1.kept hki)).mono ?_)
    rintro e w7 ⟨v,rfl,hv,hk7⟩
    exact⟨v,rfl,hv,hk7,trivial⟩
   ·cases so ho
    refine ae.value (.pointer (some ⟨w.heap.size+1,0,none⟩)) ?_ (aa rfl)
    go_simp
   ·cases so ho
    have d4:=hdep ⟨4,.data⟩ (by simp) rfl
    simp only[af,K9,K8] at d4
    refine ae.value (.agg #[.bool s3,.slice a3 n3 c3]) ?_ (aa rfl)
    go_simp
   ·cases so ho
    refine ae.value (.agg #[.bool s6,.slice a6 n6 c6]) ?_ (aa rfl)
    go_simp
   ·cases so ho
    have d5:=hdep ⟨5,.data⟩ (by simp) rfl
    have d6:=hdep ⟨6,.data⟩ (by simp) rfl
    simp only[af,K9,K8] at d5 d6
    refine ae.call 157 #[.agg #[.bool s3,.slice a3 n3 c3],.agg #[.bool s6,.slice a6 n6 c6]] (by go_simp) ((S2.out _ _ wi (hy1.kept hki) (hg2.kept hki)).mono ?_)
    rintro e w7 ⟨v,rfl,hv,hk7⟩
    exact⟨v,rfl,hv,hk7,trivial⟩
   ·cases so ho
    have d3:=hdep ⟨3,.data⟩ (by simp) rfl
    have d7:=hdep ⟨7,.data⟩ (by simp) rfl
    simp only[af,K9,K8] at d3 d7
    refine ae.call 81 #[f 3,f 7] (by go_simp) ((M1.out _ _ wi d3 d7).mono ?_)
    rintro e w7 ⟨v,rfl,hv,hk7⟩
    exact⟨v,rfl,hv,hk7,trivial⟩
   ·cases so ho
    refine ae.value (.agg #[.bool s1,.slice a1 n1 c1,.bool s2,.slice a2 n2 c2]) ?_ (aa rfl)
    go_simp
   ·cases so ho
    have d9:=hdep ⟨9,.data⟩ (by simp) rfl
    simp only[af,K9,K8] at d9
    refine ae.call 73 #[.agg #[.bool s1,.slice a1 n1 c1,.bool s2,.slice a2 n2 c2]] (by go_simp) ((MB1.out _ wi (hx.kept hki)).mono ?_)
    rintro e w7 ⟨v,rfl,hv,hk7⟩
    exact⟨v,rfl,hv,hk7,trivial⟩
   ·cases so ho
    refine ae.value (.agg #[.bool s6,.slice a6 n6 c6]) ?_ (aa rfl)
    go_simp
   ·cases so ho
    have d10:=hdep ⟨10,.data⟩ (by simp) rfl
    have d11:=hdep ⟨11,.data⟩ (by simp) rfl
    simp only[af,K9,K8] at d10 d11
    refine ae.call 157 #[f 10,.agg #[.bool s6,.slice a6 n6 c6]] (by go_simp) ((S3.out _ _ wi d10 (hg2.kept hki)).mono ?_)
    rintro e w7 ⟨v,rfl,hv,hk7⟩
    exact⟨v,rfl,hv,hk7,trivial⟩
   ·cases so ho
    refine ae.value (.agg #[.bool s3,.slice a3 n3 c3,.bool s4,.slice a4 n4 c4]) ?_ (aa rfl)
    go_simp
   ·cases so ho
    have d13:=hdep ⟨13,.data⟩ (by simp) rfl
    simp only[af,K9,K8] at d13
    refine ae.call 73 #[.agg #[.bool s3,.slice a3 n3 c3,.bool s4,.slice a4 n4 c4]] (by go_simp) ((MB2.out _ wi (hy.kept hki)).mono ?_)
    rintro e w7 ⟨v,rfl,hv,hk7⟩
    exact⟨v,rfl,hv,hk7,trivial⟩
   ·cases so ho
    refine ae.value (.agg #[.bool s5,.slice a5 n5 c5]) ?_ (aa rfl)
    go_simp
   ·cases so ho
    have d14:=hdep ⟨14,.data⟩ (by simp) rfl
    have d15:=hdep ⟨15,.data⟩ (by simp) rfl
    simp only[af,K9,K8] at d14 d15
    refine ae.call 157 #[f 14,.agg #[.bool s5,.slice a5 n5 c5]] (by go_simp) ((S4.out _ _ wi d14 (hg1.kept hki)).mono ?_)
    rintro e w7 ⟨v,rfl,hv,hk7⟩
    exact⟨v,rfl,hv,hk7,trivial⟩
   ·cases so ho
    have d12:=hdep ⟨12,.data⟩ (by simp) rfl
    have d16:=hdep ⟨16,.data⟩ (by simp) rfl
    simp only[af,K9,K8] at d12 d16
    refine ae.call 81 #[f 12,f 16] (by go_simp) ((M2.out _ _ wi d12 d16).mono ?_)
    rintro e w7 ⟨v,rfl,hv,hk7⟩
    exact⟨v,rfl,hv,hk7,trivial⟩
   ·cases so ho
    have d8:=hdep ⟨8,.data⟩ (by simp) rfl
    have d17:=hdep ⟨17,.data⟩ (by simp) rfl
    simp only[af,K9,K8] at d8 d17
    obtain⟨sx0,ax0,nx0,cx0,ex0⟩:=aO d8
    rw[ex0] at d8
    obtain⟨sx1,ax1,nx1,cx1,ex1⟩:=aO d17
    rw[ex1] at d17
    refine ae.value (.agg #[.bool sx0,.slice ax0 nx0 cx0,.bool sx1,.slice ax1 nx1 cx1]) ?_ ⟨HX.out wi _ _ _ _ _ _ _ _ d8 d17,Kept.rfl' _,trivial⟩
    simp only[ex0,ex1]
    go_simp
   ·omega
  ·intro f wi hki hall hap
   have hk:=Kept.comp _ _ _ hk hki
   have hB1:=hB1.kept hki
   have hB2:=hB2.kept hki
   have B5:=B5.kept hki
   have B6:=B6.kept hki
   have hg1:=hg1.kept hki
   have hg2:=hg2.kept hki
   have hx:=hx.kept hki
   have hx1:=hx1.kept hki
   have hy:=hy.kept hki
   have hy1:=hy1.kept hki
   have hB:=hB.kept hki
   have hv:=hall 18 (by decide)
   simp only[af,K9,K8] at hv
   obtain⟨s7,a7,n7,c7,s8,a8,n8,c8,e7⟩:=dL hv
   rw[e7] at hv
   clear hall hap
   simp only[List.drop_succ_cons,List.drop_zero]
   rw[e7]
   have r0:=hB.cell 0 rfl
   have r1:=hB.cell 1 rfl
   have r2:=hB.cell 2 rfl
   have r3:=hB.cell 3 rfl
   have f0:=hB.free 0
   have f1:=hB.free 1
   have f2:=hB.free 2
   have f3:=hB.free 3
   clear MB1 MB2 MD1 MD2 S1 S2 S3 S4 M1 M2 HX hx hy hx1 hy1 hg1 hg2 hB1 hB2 B5 B6
   go_wp2
   obtain⟨rB,rv,rk⟩:=GS (w:=w) hB (by omega) hk hv
   have p0:=rB.cell 0 rfl
   have p1:=rB.cell 1 rfl
   have p2:=rB.cell 2 rfl
   have p3:=rB.cell 3 rfl
   exact bodyPost_ret (v:=.agg #[.bool s7,.slice a7 n7 c7,.bool s8,.slice a8 n8 c8]) (by simp[results,Tryz.results75,go_sem,p0,p1,p2,p3]) rfl ⟨_,rfl,rv,rk⟩
end Go.Proofs.YtjbcmmaniphkkaaGreatDoor.E
