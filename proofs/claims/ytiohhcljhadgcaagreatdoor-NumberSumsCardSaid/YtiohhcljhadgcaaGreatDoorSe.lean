import Derived.Test.YtiohhcljhadgcaaGreatDoorSd
set_option linter.unusedSectionVars false
set_option linter.unusedVariables false
set_option linter.unusedSimpArgs false
set_option maxRecDepth 100000
set_option maxHeartbeats 2000000
namespace Go.Proofs.YtiohhcljhadgcaaGreatDoor.E
open Go.RowKit LimbNum
structure Late (b : Nat) (t : TypeId) (cs0 cs : List Value) (w w' : World) : Prop where
 os:w'.os=w.os
 tape:w'.tape=w.tape
 output:w'.output=w.output
 size:w.heap.size≤w'.heap.size
 block:∀ k,k<w.heap.size→k≠b→w'.heap[k]?=w.heap[k]?
 stays:Blk w b t cs→Blk w' b t cs
 goes:Blk w b t cs0→Blk w' b t cs0∨Blk w' b t cs
theorem Late.rfl' {b:Nat} {t:TypeId} {cs0 cs:List Value} (w:World):Late b t cs0 cs w w:=⟨rfl,rfl,rfl,Nat.le_refl _,fun _ _ _=>rfl,id,.inl⟩
theorem Late.comp {b:Nat} {t:TypeId} {cs0 cs:List Value} (u v w:World) (h1:Late b t cs0 cs u v) (h2:Late b t cs0 cs v w):Late b t cs0 cs u w:=
 ⟨h2.os.trans h1.os,h2.tape.trans h1.tape,h2.output.trans h1.output,Nat.le_trans h1.size h2.size,fun k hk hb=>(h2.block k (Nat.lt_of_lt_of_le hk h1.size) hb).trans (h1.block k hk hb),
  fun h=>h2.stays (h1.stays h),fun h=>by
   rcases h1.goes h with h|h
   ·exact h2.goes h
   ·exact .inr (h2.stays h)⟩
theorem Kept.late {b:Nat} {t:TypeId} {cs0 cs:List Value} {w w':World} (k:Kept w w'):Late b t cs0 cs w w':=
 ⟨k.os,k.tape,k.output,k.size,fun i hi _=>k.block i hi,fun h=>h.kept k,fun h=>.inl (h.kept k)⟩
theorem Late.gZ {b:Nat} {t:TypeId} {cs0 cs:List Value} {w w':World} (h:Late b t cs0 cs w.drew w'):Late b t cs0 cs w w':=
 Late.comp w w.drew w' (Kept.late (Below.drew (Below.refl _ _))) h
theorem Late.blk {b:Nat} {t:TypeId} {cs0 cs:List Value} {w w':World} (h:Late b t cs0 cs w w') {g:Nat} {t':TypeId} {ds:List Value} (hB:Blk w g t' ds) (hne:g≠b):Blk w' g t' ds:=(h.block g hB.lt hne).trans hB
theorem Late.lim {b:Nat} {t:TypeId} {cs0 cs:List Value} {w w':World} {l:Value} {m:Nat} (h:Late b t cs0 cs w w') (hB:Blk w b t cs0) (hc:∀ v,v∈cs0→∀ n:Int,v≠.int .u64 n) (hl:Lim w l m):Lim w' l m:=by
 obtain⟨a,c,rfl,hc',hr⟩:=hl
 refine ⟨a,c,rfl,hc',?_⟩
 rcases hr with hr|⟨b',off,rfl,hb,hcell⟩
 ·exact .inl hr
 ·refine .inr ⟨b',off,rfl,Nat.lt_of_lt_of_le hb h.size,fun i hi=>?_⟩
  by_cases hbb:b'=b
  ·exfalso
   subst hbb
   have h1:=hcell i hi
   unfold World.cell? at h1
   rw[hB] at h1
   simp only[Option.isSome_none,Bool.false_eq_true,if_false,List.getElem?_toArray] at h1
   exact hc _ (List.mem_of_getElem? h1) _ rfl
  ·rw[World.cell?_of_block (w:=w) (h.block b' hb hbb)]
   exact hcell i hi
theorem Late.ex {b:Nat} {t:TypeId} {cs0 cs:List Value} {w w':World} {v:Value} {x:Rat} (h:Late b t cs0 cs w w') (hB:Blk w b t cs0) (hc:∀ v,v∈cs0→∀ n:Int,v≠.int .u64 n) (hv:Ex w v x):Ex w' v x:=by
 have hw:∀ u n,Whole w u n→Whole w' u n:=fun u n ⟨l,he,hl⟩=>⟨l,he,h.lim hB hc hl⟩
 obtain⟨s1,a1,n1,c1,s2,a2,n2,c2,rfl,h1,h2⟩:=hv
 exact⟨_,_,_,_,_,_,_,_,rfl,hw _ _ h1,h2.imp (hw _ _) fun h=>⟨h.1,hw _ _ h.2⟩⟩
theorem Late.kept {b:Nat} {t:TypeId} {cs0 cs:List Value} {w0 w w':World} (h:Late b t cs0 cs w w') (hk:Kept w0 w) (hb:w0.heap.size≤b):Kept w0 w':=
 ⟨h.os.trans hk.os,h.tape.trans hk.tape,h.output.trans hk.output,Nat.le_trans hk.size h.size,fun k hk'=>(h.block k (Nat.lt_of_lt_of_le hk' hk.size) (by omega)).trans (hk.block k hk')⟩
inductive LSpec where
 | is (v:Value)
 | row (n:Nat) (t:TypeId) (cs:List Value)
 | stored
def dM (b:Nat) (t:TypeId) (cs:List Value) (s:Option LSpec) (v:Value) (w:World):Prop:=
 match s with
 | some (.is u)=>v=u
 | some (.row n t' ds)=>∃ g,g≠b∧v=.slice (some ⟨g,0,none⟩) n n∧Blk w g t' ds
 | some .stored=>Blk w b t cs
 | _=>True
theorem dM.late {b:Nat} {t:TypeId} {cs0 cs:List Value} (s:Option LSpec) (v:Value) (w w':World) (h:dM b t cs s v w) (k:Late b t cs0 cs w w'):dM b t cs s v w':=by
 unfold dM at *
 split
 ·exact h
 ·obtain⟨g,h1,h2,h3⟩:=h
  exact⟨g,h1,h2,k.blk h3 h1⟩
 ·exact k.stays h
 ·trivial
theorem iX {b:Nat} {t:TypeId} {cs0 cs:List Value} {u v:Value} {w:World} (h:v=u):dM b t cs (some (.is u)) v w∧Late b t cs0 cs w w:=⟨h,Late.rfl' _⟩
theorem pe {P:Program} {ops:Array Oper} {Q:Exit→Act→World→Prop} {id:Nat} {a0:Act} {w0:World} (b:Nat) (t:TypeId) (cs0 cs:List Value) (m:Nat) (specs:List LSpec) (rs:List Nat) {A:(Nat→Value)→Act} (hm:P.follows .mixedOrders=true)
  (hmn:Nat.ble m ops.size=true) (hrs:List.range m=rs) (hp:(fX ops m a0.tmps.size&&Plain ops m)=true) (hw:ff .any ops m=true) (ht:kS .any ops m=true) (hA:∀ f,laid ops f a0 rs=A f)
  (step:∀ (i:Nat) (o:Oper),i<m→ops[i]?=some o→∀ (f:Nat→Value) (w:World),Late b t cs0 cs w0 w→(∀ e∈o.after,Region.binds .any e=true→dM b t cs specs[e.on]? (f e.on) w) →
   ae P (A f).eval o w fun v w'=>dM b t cs specs[i]? v w'∧Late b t cs0 cs w w')
  (fin:∀ (f:Nat→Value) (w:World),Late b t cs0 cs w0 w→(∀ i,i<m→dM b t cs specs[i]? (f i) w)→wpList P ops Q (ops.toList.drop m) (A f) w) :
  (Code.region id ops true).wp P Q a0 w0:=by
 rw[Bool.and_eq_true] at hp
 refine fW hm (Late b t cs0 cs) Late.rfl' Late.comp (fun i v w=>dM b t cs specs[i]? v w) (fun _=>dM.late _) m (Nat.le_of_ble_eq_true hmn) hp.1 hw ht
  (fun i o him ho f w hk hd=>?_) (fun f w hk h1=>by rw[hrs,hA];exact fin f w (Late.gZ hk) h1)
 rw[hrs,hA]
 refine Or.inl ⟨?_,step i o him ho f w (Late.gZ hk) hd⟩
 have h1:=List.all_eq_true.1 hp.2 i (List.mem_range.2 him)
 simp only[ho,Option.isNone_iff_eq_none] at h1
 simp only[Region.wanted,h1]
theorem ae.skip {P:Program} {ρ:Operand→Value} {o:Oper} {w:World} {T:Value→World→Prop} (w':World)
  (h:(execOp ρ o).run P w=.ok .skip w') (hT:T undef w'):ae P ρ o w T:=by
 unfold ae;rw[h];exact hT
theorem Gw {w:World} {b:Nat} {t:TypeId} {c0 c1 c2 c3 d0 d1 d2 d3:Value} (h:Blk w b t [c0,c1,c2,c3]∨Blk w b t [d0,d1,d2,d3]) :
  Blk ((((w.setCell ⟨b,0,none⟩ d0).setCell ⟨b,1,none⟩ d1).setCell ⟨b,2,none⟩ d2).setCell ⟨b,3,none⟩ d3) b t [d0,d1,d2,d3] ∧
  Late b t [c0,c1,c2,c3] [d0,d1,d2,d3] w ((((w.setCell ⟨b,0,none⟩ d0).setCell ⟨b,1,none⟩ d1).setCell ⟨b,2,none⟩ d2).setCell ⟨b,3,none⟩ d3):=by
 have hB:Blk ((((w.setCell ⟨b,0,none⟩ d0).setCell ⟨b,1,none⟩ d1).setCell ⟨b,2,none⟩ d2).setCell ⟨b,3,none⟩ d3) b t [d0,d1,d2,d3]:=by
  rcases h with h|h
  ·exact Blk.jK h _ _ _ _
  ·exact Blk.jK h _ _ _ _
 exact⟨hB,rfl,rfl,rfl,by simp[World.setCell],fun k _ hk=>ky w b d0 d1 d2 d3 k hk,fun _=>hB,fun _=>.inr hB⟩
end Go.Proofs.YtiohhcljhadgcaaGreatDoor.E
namespace Go.Proofs.YtiohhcljhadgcaaGreatDoor.E
open Go.RowKit LimbNum
open DigNum (chs ag bL aF az al aD bD iD bp aY nd cH aH aC aG bM bw Bd)
def bh (a b:Nat):Nat:=if a=0 then b else a
theorem vN (g c a b:Nat) (w:World) (h0:w.cell? ⟨g,0,none⟩=some (.int .i64 (a:Int))) (h1:w.cell? ⟨g,1,none⟩=some (.int .i64 (b:Int))) :
  Calls Tryz.prog 125 #[.slice (some ⟨g,0,none⟩) 2 c] w fun e w'=>e=.returned (.int .i64 ((bh a b:Nat):Int))∧Kept w w':=by
 have HR:Hid ((a≠0→bh a b=a)∧(a=0→bh a b=b)):=Lib.hid ⟨fun h=>by unfold bh;rw[if_neg h],fun h=>by unfold bh;rw[if_pos h]⟩
 generalize bh a b=r at *
 go_enter Tryz.func125,Tryz.ntmps125
 go_wp2
 go_loopw [7] (fun i wr=>∃ k:Nat,i=.int .i64 k∧k≤2∧Hid (1≤k→a=0)∧Hid (2≤k→b=0)∧∃ q,wr=w.drewN q) (fun i _=>2-(intOf i).toNat)
 case atStart=>exact⟨0,rfl,by omega,Lib.hid fun h=>absurd h (by decide),Lib.hid fun h=>absurd h (by decide),0,rfl⟩
 case round=>
  obtain⟨k,rfl,hk,ha,hb,q,rfl⟩:=hrel
  have hcase:k=0∨k=1∨k=2:=by omega
  rcases hcase with rfl|rfl|rfl
  ·by_cases haz:a=0
   ·have hai:((a:Int) != 0)=false:=by simp[haz]
    have hai2:((a:Int)=0):=by omega
    have Ha:=Lib.hid haz
    clear haz
    go_wp2
    go_roundw
    case rel=>exact⟨1,rfl,by omega,Lib.hid fun _=>Ha.out,Lib.hid fun h=>absurd h (by decide),_,rfl⟩
    case measure=>simp[intOf]
   ·have hai:((a:Int) != 0)=true:=by rw[bne_iff_ne];omega
    have hai2:¬((a:Int)=0):=by omega
    have HE:=Lib.hid (HR.out.1 haz)
    clear haz HR
    go_wp2
    go_ret
    exact⟨congrArg (fun n:Nat=>Ending.returned (Value.int .i64 (n:Int))) HE.out.symm,ak (Below.refl _ _) _⟩
  ·have Ha:=Lib.hid (ha.out (by decide))
   have HE:=Lib.hid (HR.out.2 Ha.out)
   by_cases haz:b=0
   ·have hai:((b:Int) != 0)=false:=by simp[haz]
    have hai2:((b:Int)=0):=by omega
    have Hb:=Lib.hid haz
    clear haz
    go_wp2
    go_roundw
    case rel=>exact⟨2,rfl,by omega,Lib.hid fun _=>Ha.out,Lib.hid fun _=>Hb.out,_,rfl⟩
    case measure=>simp[intOf]
   ·have hai:((b:Int) != 0)=true:=by rw[bne_iff_ne];omega
    have hai2:¬((b:Int)=0):=by omega
    clear haz HR
    go_wp2
    go_ret
    exact⟨congrArg (fun n:Nat=>Ending.returned (Value.int .i64 (n:Int))) HE.out.symm,ak (Below.refl _ _) _⟩
  ·have HE:=Lib.hid ((HR.out.2 (ha.out (by decide))).trans (hb.out (by decide)))
   clear HR ha hb
   go_wp2
   go_ret
   exact⟨congrArg (fun n:Nat=>Ending.returned (Value.int .i64 (n:Int))) HE.out.symm,ak (Below.refl _ _) _⟩
theorem lY {s:ByteArray} {w w':World} {v:Value} {b:Nat} {t:TypeId} (h:Read s w v) (hB:Blk w b t cN) (hs:w.heap.size≤w'.heap.size) (ho:∀ k,k≠b→w'.heap[k]?=w.heap[k]?):Read s w' v:=
 ⟨h.1,fun x h1 h2=>l9 (h.2 x h1 h2) hB fb hs ho⟩
theorem cZ (s t:ByteArray) (w:World) (hs:s.size≤1000000) (ht:t.size≤1000000) :
  Calls Tryz.prog 105 #[.string s,.string t] w fun e w'=>∃ v1 v2,e=.returned (.tuple #[v1,v2,.int .i64 ((bh (bw (chs s)) (bw (chs t)):Nat):Int)])∧Read s w' v1∧Read t w' v2∧Kept w w':=by
 have HP1:=Lib.hid fun w'=>jk s w' hs
 have HP2:=Lib.hid fun w'=>jk t w' ht
 generalize bw (chs s)=z1 at *
 generalize bw (chs t)=z2 at *
 obtain⟨hk,hB1,hB2⟩:=aL w cN cN 128 128
 clear hs ht
 go_enter Tryz.func105,Tryz.ntmps105
 go_wp2_with fail
 generalize (w.alloc (.cells cN.toArray _)).alloc (.cells cN.toArray _)=w2 at *
 refine (HP1.out _).mono ?_
 rintro e w3 ⟨v1,rfl,hr1,hk3⟩
 have hk:=Kept.comp _ _ _ hk hk3
 have hB1:=hB1.kept hk3
 have hB2:=hB2.kept hk3
 obtain⟨s1,a1,n1,c1,s2,a2,n2,c2,rfl⟩:=hr1.1
 have lt7:=hB1.lt
 have kn:=aj w3 (.cells ([.bool s1,.slice a1 n1 c1,.bool s2,.slice a2 n2 c2]).toArray 128)
 have B7:=aA w3 128 [.bool s1,.slice a1 n1 c1,.bool s2,.slice a2 n2 c2]
 clear HP1 hk3
 go_wp2_with fail
 have hk:=Kept.comp _ _ _ hk kn
 have hB1:=hB1.kept kn
 have hB2:=hB2.kept kn
 have hr1:=hr1.kept kn
 generalize w3.alloc (.cells [.bool s1,.slice a1 n1 c1,.bool s2,.slice a2 n2 c2].toArray _)=w4 at *
 generalize w3.heap.size=g7 at *
 clear kn
 refine (HP2.out _).mono ?_
 rintro e w5 ⟨v2,rfl,hr2,hk3⟩
 have hk:=Kept.comp _ _ _ hk hk3
 have hB1:=hB1.kept hk3
 have hB2:=hB2.kept hk3
 have B7:=B7.kept hk3
 have hr1:=hr1.kept hk3
 obtain⟨s3,a3,n3,c3,s4,a4,n4,c4,rfl⟩:=hr2.1
 have lt9:=hB1.lt
 have kn:=aj w5 (.cells ([.bool s3,.slice a3 n3 c3,.bool s4,.slice a4 n4 c4]).toArray 128)
 have B9:=aA w5 128 [.bool s3,.slice a3 n3 c3,.bool s4,.slice a4 n4 c4]
 clear HP2 hk3
 go_wp2_with fail
 have hk:=Kept.comp _ _ _ hk kn
 have hB1:=hB1.kept kn
 have hB2:=hB2.kept kn
 have B7:=B7.kept kn
 have hr1:=hr1.kept kn
 have hr2:=hr2.kept kn
 generalize w5.alloc (.cells [.bool s3,.slice a3 n3 c3,.bool s4,.slice a4 n4 c4].toArray _)=w6 at *
 generalize w5.heap.size=g9 at *
 clear kn
 refine pe w.heap.size 128 cN [.bool s1,.slice a1 n1 c1,.bool s2,.slice a2 n2 c2] 7 [.is (.agg #[.bool s1,.slice a1 n1 c1,.bool s2,.slice a2 n2 c2]),.is (.agg #[.bool s3,.slice a3 n3 c3,.bool s4,.slice a4 n4 c4]),.is (.int .i64 (z1:Int)),.is (.int .i64 (z2:Int)),.row 2 26 [.int .i64 (z1:Int),.int .i64 (z2:Int)],.is (.int .i64 ((bh z1 z2:Nat):Int)),.stored] [0,1,2,3,4,5,6] (by kernel_rfl) (by kernel_rfl) (by kernel_rfl) (by kernel_rfl) (by kernel_rfl) (by kernel_rfl) (by intro f;simp only[laid,List.foldl_cons,List.foldl_nil,List.getElem?_toArray,List.getElem?_cons_zero,List.getElem?_cons_succ,Option.bind_some,Act.put,List.setIfInBounds_toArray,List.set_cons_zero,List.set_cons_succ];rfl) ?_ ?_
 ·intro i o him ho f wi hki hdep
  have q0:=(hki.blk B7 (by omega)).cell 0 rfl
  have qq0:=(hki.blk B9 (by omega)).cell 0 rfl
  have q1:=(hki.blk B7 (by omega)).cell 1 rfl
  have qq1:=(hki.blk B9 (by omega)).cell 1 rfl
  have q2:=(hki.blk B7 (by omega)).cell 2 rfl
  have qq2:=(hki.blk B9 (by omega)).cell 2 rfl
  have q3:=(hki.blk B7 (by omega)).cell 3 rfl
  have qq3:=(hki.blk B9 (by omega)).cell 3 rfl
  rcases i with _|_|_|_|_|_|_|i
  ·cases so ho
   refine ae.value (.agg #[.bool s1,.slice a1 n1 c1,.bool s2,.slice a2 n2 c2]) ?_ (iX rfl)
   go_simp
  ·cases so ho
   refine ae.value (.agg #[.bool s3,.slice a3 n3 c3,.bool s4,.slice a4 n4 c4]) ?_ (iX rfl)
   go_simp
  ·cases so ho
   refine ae.value (.int .i64 (z1:Int)) ?_ (iX rfl)
   go_simp
  ·cases so ho
   refine ae.value (.int .i64 (z2:Int)) ?_ (iX rfl)
   go_simp
  ·cases so ho
   have d2:=hdep ⟨2,.data⟩ (by simp) rfl
   have d3:=hdep ⟨3,.data⟩ (by simp) rfl
   simp only[dM,List.getElem?_cons_zero,List.getElem?_cons_succ] at d2 d3
   refine E.ae.to (.slice (some ⟨wi.heap.size,0,none⟩) 2 2) (wi.alloc (.cells ([.int .i64 (z1:Int),.int .i64 (z2:Int)]).toArray 26)) ?_ ⟨⟨wi.heap.size,by have:=hki.size;have:=hB1.lt;omega,rfl,aA _ _ _⟩,Kept.late (aj _ _)⟩
   go_simp
  ·cases so ho
   have d4:=hdep ⟨4,.data⟩ (by simp) rfl
   simp only[dM,List.getElem?_cons_zero,List.getElem?_cons_succ] at d4
   obtain⟨gb,hgb,e4,hb4⟩:=d4
   refine ae.call 125 #[f 4] (by go_simp) ?_
   rw[e4]
   refine (vN gb 2 z1 z2 wi (hb4.cell 0 rfl) (hb4.cell 1 rfl)).mono ?_
   rintro e w7 ⟨rfl,hk7⟩
   exact⟨_,rfl,rfl,Kept.late hk7⟩
  ·cases so ho
   have d0:=hdep ⟨0,.data⟩ (by simp) rfl
   simp only[dM,List.getElem?_cons_zero] at d0
   have hb0:=hki.goes hB1
   have lf0:wi.frozen? ⟨w.heap.size,0,none⟩=false:=by rcases hb0 with h|h<;>exact h.free 0
   have lf1:wi.frozen? ⟨w.heap.size,1,none⟩=false:=by rcases hb0 with h|h<;>exact h.free 1
   have lf2:wi.frozen? ⟨w.heap.size,2,none⟩=false:=by rcases hb0 with h|h<;>exact h.free 2
   have lf3:wi.frozen? ⟨w.heap.size,3,none⟩=false:=by rcases hb0 with h|h<;>exact h.free 3
   obtain⟨y0,lc0⟩:∃ y,wi.cell? ⟨w.heap.size,0,none⟩=some y:=by rcases hb0 with h|h<;>exact⟨_,h.cell 0 rfl⟩
   obtain⟨y1,lc1⟩:∃ y,wi.cell? ⟨w.heap.size,1,none⟩=some y:=by rcases hb0 with h|h<;>exact⟨_,h.cell 1 rfl⟩
   obtain⟨y2,lc2⟩:∃ y,wi.cell? ⟨w.heap.size,2,none⟩=some y:=by rcases hb0 with h|h<;>exact⟨_,h.cell 2 rfl⟩
   obtain⟨y3,lc3⟩:∃ y,wi.cell? ⟨w.heap.size,3,none⟩=some y:=by rcases hb0 with h|h<;>exact⟨_,h.cell 3 rfl⟩
   refine ae.skip ((((wi.setCell ⟨w.heap.size,0,none⟩ (.bool s1)).setCell ⟨w.heap.size,1,none⟩ (.slice a1 n1 c1)).setCell ⟨w.heap.size,2,none⟩ (.bool s2)).setCell ⟨w.heap.size,3,none⟩ (.slice a2 n2 c2)) ?_ (Gw hb0)
   simp only[d0]
   go_simp
  ·omega
 ·intro f wi hki hall
  have he:=hall 5 (by decide)
  have e1:=hall 1 (by decide)
  have C1:=hall 6 (by decide)
  simp only[dM,List.getElem?_cons_zero,List.getElem?_cons_succ] at he e1 C1
  clear hall
  simp only[List.drop_succ_cons,List.drop_zero]
  rw[he,e1]
  have C2:=hki.blk hB2 (by omega)
  have hr1:Read s wi _:=⟨hr1.1,fun x h1 h2=>hki.ex hB1 fb (hr1.2 x h1 h2)⟩
  have hr2:Read t wi _:=⟨hr2.1,fun x h1 h2=>hki.ex hB1 fb (hr2.2 x h1 h2)⟩
  have hk:=hki.kept hk (Nat.le_refl _)
  have u0:=C2.cell 0 rfl
  have u1:=C2.cell 1 rfl
  have u2:=C2.cell 2 rfl
  have u3:=C2.cell 3 rfl
  have g0:=C2.free 0
  have g1:=C2.free 1
  have g2:=C2.free 2
  have g3:=C2.free 3
  clear B7 B9 hki hB1 hB2
  go_wp2
  generalize wi=wj at *
  have D2:=Blk.jK C2 (.bool s3) (.slice a3 n3 c3) (.bool s4) (.slice a4 n4 c4)
  have o2:=ky wj (w.heap.size+1) (.bool s3) (.slice a3 n3 c3) (.bool s4) (.slice a4 n4 c4)
  have D1:=(o2 w.heap.size (by omega)).trans C1
  have hr1:=lY (w':=(((wj.setCell ⟨w.heap.size+1,0,none⟩ (.bool s3)).setCell ⟨w.heap.size+1,1,none⟩ (.slice a3 n3 c3)).setCell ⟨w.heap.size+1,2,none⟩ (.bool s4)).setCell ⟨w.heap.size+1,3,none⟩ (.slice a4 n4 c4)) hr1 C2 (by simp[World.setCell]) o2
  have hr2:=lY (w':=(((wj.setCell ⟨w.heap.size+1,0,none⟩ (.bool s3)).setCell ⟨w.heap.size+1,1,none⟩ (.slice a3 n3 c3)).setCell ⟨w.heap.size+1,2,none⟩ (.bool s4)).setCell ⟨w.heap.size+1,3,none⟩ (.slice a4 n4 c4)) hr2 C2 (by simp[World.setCell]) o2
  have hk:=gi hk (Nat.le_succ w.heap.size) (.bool s3) (.slice a3 n3 c3) (.bool s4) (.slice a4 n4 c4)
  have p0:=Blk.cell D1 0 rfl
  have p1:=Blk.cell D1 1 rfl
  have p2:=Blk.cell D1 2 rfl
  have p3:=Blk.cell D1 3 rfl
  have q0:=D2.cell 0 rfl
  have q1:=D2.cell 1 rfl
  have q2:=D2.cell 2 rfl
  have q3:=D2.cell 3 rfl
  exact bodyPost_ret (v:=.tuple #[.agg #[.bool s1,.slice a1 n1 c1,.bool s2,.slice a2 n2 c2],.agg #[.bool s3,.slice a3 n3 c3,.bool s4,.slice a4 n4 c4],.int .i64 ((bh z1 z2:Nat):Int)]) (by simp[results,Tryz.results105,go_sem,p0,p1,p2,p3,q0,q1,q2,q3]) rfl ⟨_,_,rfl,hr1,hr2,hk⟩
end Go.Proofs.YtiohhcljhadgcaaGreatDoor.E
