import Derived.Test.YtjbcmmaniphkkaaGreatDoorRows
import Derived.Test.YtjbcmmaniphkkaaGreatDoorCards
import Derived.Test.YtjbcmmaniphkkaaGreatDoorTie
import Derived.WalkKit
import Derived.ProofKit
import Derived.OpenShut
import Derived.LaidMore
import Derived.Lay
import Derived.SevenTiedAt
import Derived.Test.YtjbcmmaniphkkaaGreatDoorSy5
import Derived.Test.YtjbcmmaniphkkaaGreatDoorLaidS
set_option linter.unusedSectionVars false
set_option linter.unusedVariables false
set_option linter.unusedSimpArgs false
set_option maxRecDepth 100000
namespace Go.Proofs.YtjbcmmaniphkkaaGreatDoor
open Go.ChangeShapes Go.WideShapes Go.ChangeAt Go.RowKit
section
variable {H : Type} {enc : TypeId × Value → H} {P : Program} {w : World} {base : Nat} {sp : Nat → Bool} {held : Bool}
theorem wA {l:List Value} {a b:Value} (hl:l.length=2) (h0:(l.drop 0).take 1=[a]) (h1:(l.drop 1).take 1=[b]):l=[a,b]:=by
 match l,hl with
 | [x,y],_=>
  simp only[List.drop_zero,List.take_succ_cons,List.take_zero,List.cons.injEq,and_true,List.drop_succ_cons] at h0 h1
  rw[h0,h1]
theorem xn {cs:Array Value} {a b c d:Value} (hl:cs.toList.length=4) (h0:(cs.toList.drop 0).take 2=[a,b]) (h1:(cs.toList.drop 2).take 2=[c,d]):cs = #[a,b,c,d]:=by
 obtain⟨l⟩:=cs
 simp only at hl h0 h1
 match l,hl with
 | [x,y,z,t],_=>
  simp only[List.drop_zero,List.take_succ_cons,List.take_zero,List.cons.injEq,and_true,List.drop_succ_cons] at h0 h1
  rw[h0.1,h0.2,h1.1,h1.2]
theorem qc {r:Go.Reach} {b0:Nat} {t u:TypeId} {f0 f1 g0 g1:Field} {v:Value} {d:DataW H} {ps:List MemPlace} (ht:P.underlying t=some (.struct #[f0,f1])) (e0:f0.type=u) (e1:f1.type=u) (hu:P.underlying u=some (.struct #[g0,g1])) (h0:P.underlying g0.type=some .string) (h1:P.underlying g1.type=some .string)
  (k0:P.cellsOf g0.type=1) (k1:P.cellsOf g1.type=1) (ku:P.cellsOf u=2) (kt:P.cellsOf t=4) (o0:f0.offset=0) (o1:f1.offset=2) (q0:g0.offset=0) (q1:g1.offset=1) (hval:Value.okWide P w r b0 t v) (hd:DataW.Trod enc P w base sp held t v d ps) :
  ∃ s0 s1 s2 s3:ByteArray,v=.agg #[.string s0,.string s1,.string s2,.string s3]∧d=.agg [.agg [.lit (.string s0.data.toList),.lit (.string s1.data.toList)],.agg [.lit (.string s2.data.toList),.lit (.string s3.data.toList)]]∧ps=[]∧s0.size≤maxLen∧s1.size≤maxLen∧s2.size≤maxLen∧s3.size≤maxLen:=by
 obtain⟨cs,rfl,hsz⟩:=okWide_struct ht hval
 obtain⟨fuel,hf⟩:=hd
 obtain⟨y0,y1,m,hx,hl,a0,a1⟩:=trod_struct2 ht hf
 rw[e0,o0,ku] at a0
 rw[e1,o1,ku] at a1
 rw[kt] at hl
 obtain⟨z0,z1,m0,hx0,hl0,b0,b1⟩:=trod_struct2 hu a0
 obtain⟨z2,z3,m1,hx1,hl1,b2,b3⟩:=trod_struct2 hu a1
 rw[q0,k0] at b0 b2
 rw[q1,k1] at b1 b3
 rw[ku] at hl0 hl1
 obtain⟨s0,c0,rfl,w0⟩:=DataW.trod_string h0 b0
 obtain⟨s1,c1,rfl,w1⟩:=DataW.trod_string h1 b1
 obtain⟨s2,c2,rfl,w2⟩:=DataW.trod_string h0 b2
 obtain⟨s3,c3,rfl,w3⟩:=DataW.trod_string h1 b3
 obtain rfl:=xn hl (wA hl0 c0 c1) (wA hl1 c2 c3)
 subst hx0
 subst hx1
 cases hx
 exact⟨s0,s1,s2,s3,rfl,rfl,rfl,w0,w1,w2,w3⟩
theorem qG {t u:TypeId} {f0 f1 g0 g1:Field} {s0 s1 s2 s3:ByteArray} (ht:P.underlying t=some (.struct #[f0,f1])) (e0:f0.type=u) (e1:f1.type=u) (hu:P.underlying u=some (.struct #[g0,g1])) (h0:P.underlying g0.type=some .string) (h1:P.underlying g1.type=some .string)
  (k0:P.cellsOf g0.type=1) (k1:P.cellsOf g1.type=1) (ku:P.cellsOf u=2) (kt:P.cellsOf t=4) (o0:f0.offset=0) (o1:f1.offset=2) (q0:g0.offset=0) (q1:g1.offset=1) (w0:s0.size≤maxLen) (w1:s1.size≤maxLen) (w2:s2.size≤maxLen) (w3:s3.size≤maxLen) :
  DataW.Trod enc P w base sp held t (.agg #[.string s0,.string s1,.string s2,.string s3]) (.agg [.agg [.lit (.string s0.data.toList),.lit (.string s1.data.toList)],.agg [.lit (.string s2.data.toList),.lit (.string s3.data.toList)]]) []:=by
 have key:∀ x y,(x.size≤maxLen)→(y.size≤maxLen)→DataW.trod enc P w base sp held 2 u [.string x,.string y]=some (.agg [.lit (.string x.data.toList),.lit (.string y.data.toList)],[]):=fun x y hx hy=>
  trod_struct2_mk (y0:=(.lit (.string x.data.toList),[])) (y1:=(.lit (.string y.data.toList),[])) hu (by rw[ku];rfl) (by rw[q0,k0];simp[DataW.trod,h0,hx]) (by rw[q1,k1];simp[DataW.trod,h1,hy])
 exact⟨3,trod_struct2_mk (y0:=(.agg [.lit (.string s0.data.toList),.lit (.string s1.data.toList)],[])) (y1:=(.agg [.lit (.string s2.data.toList),.lit (.string s3.data.toList)],[])) ht (by rw[kt];rfl) (by rw[e0,o0,ku];exact key s0 s1 w0 w1) (by rw[e1,o1,ku];exact key s2 s3 w2 w3)⟩
end
theorem DN:ownKnob Tryz.prog.godebug=none:=by kernel_rfl
theorem vt (os:Os) (started:os.Started) (H:Type) (enc:TypeId × Value→H) :
  ReturnsInHanded {} Tryz.checked os 4 .any (fun w args=>(Rows.numberBoxesSpec.pre enc Tryz.prog Tryz.f4 Rows.numberBoxesRow.domain false w args∧laidMetH Tryz.prog Rows.numberBoxesRow.laid w)∧sizedMet enc Tryz.prog Tryz.f4 (OpenSpec.ofChange Rows.numberBoxesSpec) false w args)
   (Rows.numberBoxesSpec.post enc Tryz.prog Tryz.f4 false true false false):=by
 refine returnsInHanded_of_change_and (C:=Tryz.checked) (X:=fun w _=>laidMetH Tryz.prog Rows.numberBoxesRow.laid w) (fun _ _ _ hh h=>h.of_heap hh) DN started (by kernel_rfl) Tryz.func4
  (ChangeSpec.witness_shaped (enc:=enc) (C:=Tryz.checked) (os:=os) (X:=fun w _=>laidMetH Tryz.prog Rows.numberBoxesRow.laid w) false (World.laidAll Tryz.prog os Rows.numberBoxesRow.laid) #[.agg #[.string (ByteArray.mk #[]),.string (ByteArray.mk #[]),.string (ByteArray.mk #[]),.string (ByteArray.mk #[])],.agg #[.string (ByteArray.mk #[]),.string (ByteArray.mk #[]),.string (ByteArray.mk #[]),.string (ByteArray.mk #[])]] 8 (World.laidAll_os _ _ _)
   (World.shaped_of_ZipB (by kernel_rfl) (by kernel_rfl)) (by kernel_rfl) (by kernel_rfl) (by kernel_rfl)
   (by rw[MakeChecks.laidMetH_plain _ _ _ (by kernel_rfl)];exact laidMet_laidAll _ (by kernel_rfl) (by kernel_rfl))) ?_
 intro W base args ds gs before hval0 hW _ _ hL _
 have hval:∀ (j:Nat) t v,Tryz.f4.params[j]?=some t→args[j]?=some v→Value.okWide Tryz.prog W .any base t v:=hval0
 have hW':=hW
 obtain⟨p,q,hA0,hV,rfl,hfz,hnd⟩:=hW
 have hA:DataW.TrodAll enc Tryz.prog W 0 (fun _=>true) true Tryz.f4.params.toList args.toList ds p:=hA0
 rw[Tryz.params4] at hA hval
 obtain⟨v0,vs0,d0,ds0,p0,q0,hargs,rfl,rfl,h0,r0⟩:=trodAll_cons hA
 obtain⟨v1,vs1,d1,ds1,p1,q1,rfl,rfl,rfl,h1,r1⟩:=trodAll_cons r0
 obtain⟨rfl,rfl,rfl⟩:=trodAll_nil r1
 obtain rfl:args = #[v0,v1]:=by cases args;simp_all
 obtain⟨rfl,rfl⟩:=trodVars_none hV
 obtain⟨s0,s1,s2,s3,rfl,rfl,rfl,w0,w1,w2,w3⟩:=qc Tryz.underlying50 rfl rfl Tryz.underlying24 (by kernel_rfl) (by kernel_rfl) (by kernel_rfl) (by kernel_rfl) (by kernel_rfl) (by kernel_rfl) rfl rfl rfl rfl (hval 0 50 v0 rfl rfl) h0
 obtain⟨s4,s5,s6,s7,rfl,rfl,rfl,w4,w5,w6,w7⟩:=qc Tryz.underlying50 rfl rfl Tryz.underlying24 (by kernel_rfl) (by kernel_rfl) (by kernel_rfl) (by kernel_rfl) (by kernel_rfl) (by kernel_rfl) rfl rfl rfl rfl (hval 1 50 v1 rfl rfl) h1
 clear hA0 hval0
 simp only[List.append_nil] at hW'
 have hsz:∀ x∈[s0,s1,s2,s3,s4,s5,s6,s7],x.size≤9223372036854775807:=by
  simp only[maxLen] at w0 w1 w2 w3 w4 w5 w6 w7
  intro x hx
  simp only[List.mem_cons,List.not_mem_nil,or_false] at hx
  rcases hx with rfl|rfl|rfl|rfl|rfl|rfl|rfl|rfl<;>omega
 refine (Go.Sx.Seat.Ac s0 s1 s2 s3 s4 s5 s6 s7 hsz W (Go.Sx.Seat.Hw hL)).mono fun e W' ⟨he,hg⟩=>?_
 subst he
 exact⟨_,rfl,_,_,_,[],[]++[],[],hW',(trodAll_cons_mk (shut_bool Tryz.underlying4 _) trodAll_mk0),(trodAll_cons_mk (qG Tryz.underlying50 rfl rfl Tryz.underlying24 (by kernel_rfl) (by kernel_rfl) (by kernel_rfl) (by kernel_rfl) (by kernel_rfl) (by kernel_rfl) rfl rfl rfl rfl w0 w1 w2 w3) (trodAll_cons_mk (qG Tryz.underlying50 rfl rfl Tryz.underlying24 (by kernel_rfl) (by kernel_rfl) (by kernel_rfl) (by kernel_rfl) (by kernel_rfl) (by kernel_rfl) rfl rfl rfl rfl w4 w5 w6 w7) trodAll_mk0)),rfl,hg.frame _,fun h=>by cases h⟩
end Go.Proofs.YtjbcmmaniphkkaaGreatDoor
