import Derived.Test.YtnjcdpfibmckmaaGreatDoorRows
import Derived.Test.YtnjcdpfibmckmaaGreatDoorCards
import Derived.Test.YtnjcdpfibmckmaaGreatDoorTie
import Derived.WalkKit
import Derived.ProofKit
import Derived.OpenShut
import Derived.LaidMore
import Derived.Lay
import Derived.SevenTiedAt
import Derived.Test.YtnjcdpfibmckmaaGreatDoorSy5
import Derived.Test.YtnjcdpfibmckmaaGreatDoorLaidS
set_option linter.unusedSectionVars false
set_option linter.unusedVariables false
set_option linter.unusedSimpArgs false
set_option maxRecDepth 100000
namespace Go.Proofs.YtnjcdpfibmckmaaGreatDoor
open Go.ChangeShapes Go.WideShapes Go.ChangeAt Go.RowKit
section
variable {H : Type} {enc : TypeId × Value → H} {P : Program} {w : World} {base : Nat} {sp : Nat → Bool} {held : Bool}
theorem rQ {cs:Array Value} {a b:Value} (hl:cs.toList.length=2) (h0:(cs.toList.drop 0).take 1=[a]) (h1:(cs.toList.drop 1).take 1=[b]):cs = #[a,b]:=by
 obtain⟨l⟩:=cs
 simp only at hl h0 h1
 match l,hl with
 | [x,y],_=>
  simp only[List.drop_zero,List.take_succ_cons,List.take_zero,List.cons.injEq,and_true,List.drop_succ_cons] at h0 h1
  rw[h0,h1]
theorem pG {r:Go.Reach} {b0:Nat} {t:TypeId} {f0 f1:Field} {v:Value} {d:DataW H} {ps:List MemPlace} (ht:P.underlying t=some (.struct #[f0,f1])) (h0:P.underlying f0.type=some .string) (h1:P.underlying f1.type=some .string)
  (k0:P.cellsOf f0.type=1) (k1:P.cellsOf f1.type=1) (kt:P.cellsOf t=2) (o0:f0.offset=0) (o1:f1.offset=1) (hval:Value.okWide P w r b0 t v) (hd:DataW.Trod enc P w base sp held t v d ps) :
  ∃ s0 s1:ByteArray,v=.agg #[.string s0,.string s1]∧d=.agg [.lit (.string s0.data.toList),.lit (.string s1.data.toList)]∧ps=[]∧s0.size≤maxLen∧s1.size≤maxLen:=by
 obtain⟨cs,rfl,hsz⟩:=okWide_struct ht hval
 obtain⟨fuel,hf⟩:=hd
 obtain⟨y0,y1,n,hx,hl,g0,g1⟩:=trod_struct2 ht hf
 rw[o0,k0] at g0
 rw[o1,k1] at g1
 rw[kt] at hl
 obtain⟨s0,e0,rfl,z0⟩:=DataW.trod_string h0 g0
 obtain⟨s1,e1,rfl,z1⟩:=DataW.trod_string h1 g1
 obtain rfl:=rQ hl e0 e1
 cases hx
 exact⟨s0,s1,rfl,rfl,rfl,z0,z1⟩
theorem qf {t:TypeId} {f0 f1:Field} {s0 s1:ByteArray} (ht:P.underlying t=some (.struct #[f0,f1])) (h0:P.underlying f0.type=some .string) (h1:P.underlying f1.type=some .string)
  (k0:P.cellsOf f0.type=1) (k1:P.cellsOf f1.type=1) (kt:P.cellsOf t=2) (o0:f0.offset=0) (o1:f1.offset=1) (z0:s0.size≤maxLen) (z1:s1.size≤maxLen) :
  DataW.Trod enc P w base sp held t (.agg #[.string s0,.string s1]) (.agg [.lit (.string s0.data.toList),.lit (.string s1.data.toList)]) []:=
 ⟨2,trod_struct2_mk (y0:=(.lit (.string s0.data.toList),[])) (y1:=(.lit (.string s1.data.toList),[])) ht (by rw[kt];rfl) (by rw[o0,k0];simp[Value.cells,DataW.trod,h0,z0]) (by rw[o1,k1];simp[Value.cells,DataW.trod,h1,z1])⟩
theorem xh {r:Go.Reach} {b0:Nat} {t:TypeId} {f0 f1:Field} {k:IntKind} {v:Value} {d:DataW H} {ps:List MemPlace} (ht:P.underlying t=some (.struct #[f0,f1])) (h0:P.underlying f0.type=some (.int k)) (h1:P.underlying f1.type=some (.int k))
  (k0:P.cellsOf f0.type=1) (k1:P.cellsOf f1.type=1) (kt:P.cellsOf t=2) (o0:f0.offset=0) (o1:f1.offset=1) (hval:Value.okWide P w r b0 t v) (hd:DataW.Trod enc P w base sp held t v d ps) :
  ∃ x y:Int,v=.agg #[.int k x,.int k y]∧d=.agg [.lit (.int k x),.lit (.int k y)]∧ps=[]∧(Lit.int k x).wf=true∧(Lit.int k y).wf=true:=by
 obtain⟨cs,rfl,hsz⟩:=okWide_struct ht hval
 obtain⟨fuel,hf⟩:=hd
 obtain⟨y0,y1,n,hx,hl,g0,g1⟩:=trod_struct2 ht hf
 rw[o0,k0] at g0
 rw[o1,k1] at g1
 rw[kt] at hl
 obtain⟨s0,e0,rfl,z0⟩:=DataW.trod_int h0 g0
 obtain⟨s1,e1,rfl,z1⟩:=DataW.trod_int h1 g1
 obtain rfl:=rQ hl e0 e1
 cases hx
 exact⟨s0,s1,rfl,rfl,rfl,z0,z1⟩
theorem xC {t:TypeId} {f0 f1:Field} {k:IntKind} {x y:Int} (ht:P.underlying t=some (.struct #[f0,f1])) (h0:P.underlying f0.type=some (.int k)) (h1:P.underlying f1.type=some (.int k))
  (k0:P.cellsOf f0.type=1) (k1:P.cellsOf f1.type=1) (kt:P.cellsOf t=2) (o0:f0.offset=0) (o1:f1.offset=1) (z0:(Lit.int k x).wf=true) (z1:(Lit.int k y).wf=true) :
  DataW.Trod enc P w base sp held t (.agg #[.int k x,.int k y]) (.agg [.lit (.int k x),.lit (.int k y)]) []:=
 ⟨2,trod_struct2_mk (y0:=(.lit (.int k x),[])) (y1:=(.lit (.int k y),[])) ht (by rw[kt];rfl) (by rw[o0,k0];simp[Value.cells,DataW.trod,h0,z0]) (by rw[o1,k1];simp[Value.cells,DataW.trod,h1,z1])⟩
end
theorem tV {x:Int} (h:(Lit.int .u8 x).wf=true):∃ n:Nat,x=(n:Int)∧n≤255:=by
 have h1:0≤x∧x≤255:=by
  simp only[Lit.wf,IntKind.min,IntKind.max,IntKind.signed,IntKind.bits] at h
  simpa using h
 exact⟨x.toNat,by omega,by omega⟩
theorem uU:ownKnob Tryz.prog.godebug=none:=by kernel_rfl
theorem pg (os:Os) (started:os.Started) (H:Type) (enc:TypeId × Value→H) :
  ReturnsInHanded {} Tryz.checked os 4 .any (fun w args=>(Rows.numberEnclosesSpec.pre enc Tryz.prog Tryz.f4 Rows.numberEnclosesRow.domain false w args∧laidMetH Tryz.prog Rows.numberEnclosesRow.laid w)∧sizedMet enc Tryz.prog Tryz.f4 (OpenSpec.ofChange Rows.numberEnclosesSpec) false w args)
   (Rows.numberEnclosesSpec.post enc Tryz.prog Tryz.f4 false true false false):=by
 refine returnsInHanded_of_change_and (C:=Tryz.checked) (X:=fun w _=>laidMetH Tryz.prog Rows.numberEnclosesRow.laid w) (fun _ _ _ hh h=>h.of_heap hh) uU started (by kernel_rfl) Tryz.func4
  (ChangeSpec.witness_shaped (enc:=enc) (C:=Tryz.checked) (os:=os) (X:=fun w _=>laidMetH Tryz.prog Rows.numberEnclosesRow.laid w) false (World.laidAll Tryz.prog os Rows.numberEnclosesRow.laid) #[.agg #[.string (ByteArray.mk #[]),.string (ByteArray.mk #[])],.agg #[.string (ByteArray.mk #[]),.string (ByteArray.mk #[])],.agg #[.int .u8 0,.int .u8 0]] 8 (World.laidAll_os _ _ _)
   (World.shaped_of_ZipB (by kernel_rfl) (by kernel_rfl)) (by kernel_rfl) (by kernel_rfl) (by kernel_rfl)
   (by rw[MakeChecks.laidMetH_plain _ _ _ (by kernel_rfl)];exact laidMet_laidAll _ (by kernel_rfl) (by kernel_rfl))) ?_
 intro W base args ds gs before hval0 hW _ _ hL _
 have hval:∀ (j:Nat) t v,Tryz.f4.params[j]?=some t→args[j]?=some v→Value.okWide Tryz.prog W .any base t v:=hval0
 have hW':=hW
 obtain⟨p,q,hA0,hV,rfl,hfz,hnd⟩:=hW
 have hA:DataW.TrodAll enc Tryz.prog W 0 (fun _=>true) true Tryz.f4.params.toList args.toList ds p:=hA0
 rw[Tryz.params4] at hA hval
 obtain⟨v0,vs0,d0,ds0,p0,q0,hargs,rfl,rfl,h0,r0⟩:=trodAll_cons hA
 obtain⟨v1,vs1,d1,ds1,p1,q1,rfl,rfl,rfl,h1,r1⟩:=trodAll_cons r0
 obtain⟨v2,vs2,d2,ds2,p2,q2,rfl,rfl,rfl,h2,r2⟩:=trodAll_cons r1
 obtain⟨rfl,rfl,rfl⟩:=trodAll_nil r2
 obtain rfl:args = #[v0,v1,v2]:=by cases args;simp_all
 obtain⟨rfl,rfl⟩:=trodVars_none hV
 obtain⟨s0,s1,rfl,rfl,rfl,w0,w1⟩:=pG Tryz.underlying36 (by kernel_rfl) (by kernel_rfl) (by kernel_rfl) (by kernel_rfl) (by kernel_rfl) rfl rfl (hval 0 36 v0 rfl rfl) h0
 obtain⟨s2,s3,rfl,rfl,rfl,w2,w3⟩:=pG Tryz.underlying36 (by kernel_rfl) (by kernel_rfl) (by kernel_rfl) (by kernel_rfl) (by kernel_rfl) rfl rfl (hval 1 36 v1 rfl rfl) h1
 obtain⟨x,y,rfl,rfl,rfl,wx,wy⟩:=xh (k:=.u8) Tryz.underlying38 (by kernel_rfl) (by kernel_rfl) (by kernel_rfl) (by kernel_rfl) (by kernel_rfl) rfl rfl (hval 2 38 v2 rfl rfl) h2
 obtain⟨x,rfl,hx⟩:=tV wx
 obtain⟨y,rfl,hy⟩:=tV wy
 clear hA0 hval0
 simp only[List.append_nil] at hW'
 refine (Go.Sx.Seat.sv s0 s1 s2 s3 (by have:=w0;simp only[maxLen] at this;omega) (by have:=w1;simp only[maxLen] at this;omega) (by have:=w2;simp only[maxLen] at this;omega) (by have:=w3;simp only[maxLen] at this;omega) x y hx hy W (Go.Sx.Seat.Fz hL)).mono fun e W' ⟨he,hg⟩=>?_
 subst he
 exact⟨_,rfl,_,_,_,[],[]++[],[],hW',(trodAll_cons_mk (shut_bool Tryz.underlying4 _) trodAll_mk0),(trodAll_cons_mk (qf Tryz.underlying36 (by kernel_rfl) (by kernel_rfl) (by kernel_rfl) (by kernel_rfl) (by kernel_rfl) rfl rfl w0 w1) (trodAll_cons_mk (qf Tryz.underlying36 (by kernel_rfl) (by kernel_rfl) (by kernel_rfl) (by kernel_rfl) (by kernel_rfl) rfl rfl w2 w3) (trodAll_cons_mk (xC (k:=.u8) Tryz.underlying38 (by kernel_rfl) (by kernel_rfl) (by kernel_rfl) (by kernel_rfl) (by kernel_rfl) rfl rfl wx wy) trodAll_mk0))),rfl,hg.frame _,fun h=>by cases h⟩
end Go.Proofs.YtnjcdpfibmckmaaGreatDoor
