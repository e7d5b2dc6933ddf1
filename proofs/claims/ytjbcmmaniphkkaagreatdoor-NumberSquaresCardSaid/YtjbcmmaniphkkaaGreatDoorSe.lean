import Derived.Test.YtjbcmmaniphkkaaGreatDoorSd
set_option linter.unusedSectionVars false
set_option linter.unusedVariables false
set_option linter.unusedSimpArgs false
namespace Go.Proofs.YtjbcmmaniphkkaaGreatDoor.E
open Go.RowKit LimbNum
structure Late (b : Nat) (t : TypeId) (cs0 cs : List Value) (w w' : World) : Prop where
 os:w'.os=w.os
 tape:w'.tape=w.tape
 output:w'.output=w.output
 size:w.heap.size≤w'.heap.size
 block:∀ k,k<w.heap.size→k≠b→w'.heap[k]?=w.heap[k]?
 stays:Blk w b t cs→Blk w' b t cs
 goes:Blk w b t cs0→Blk w' b t cs0∨Blk w' b t cs
theorem Late.rfl' {b:Nat} {t:TypeId} {cs0 cs:List Value} (w:World):Late b t cs0 cs w w:=⟨rfl,rfl,rfl,K6 _,fun _ _ _=>rfl,id,.inl⟩
theorem Late.comp {b:Nat} {t:TypeId} {cs0 cs:List Value} (u v w:World) (h1:Late b t cs0 cs u v) (h2:Late b t cs0 cs v w):Late b t cs0 cs u w:=
 ⟨h2.os.trans h1.os,h2.tape.trans h1.tape,h2.output.trans h1.output,Nat.le_trans h1.size h2.size,fun k hk hb=>(h2.block k (Nat.lt_of_lt_of_le hk h1.size) hb).trans (h1.block k hk hb),
  fun h=>h2.stays (h1.stays h),fun h=>by
   rcases h1.goes h with h|h
   ·exact h2.goes h
   ·exact .inr (h2.stays h)⟩
theorem Kept.late {b:Nat} {t:TypeId} {cs0 cs:List Value} {w w':World} (k:Kept w w'):Late b t cs0 cs w w':=
 ⟨k.os,k.tape,k.output,k.size,fun i hi _=>k.block i hi,fun h=>h.kept k,fun h=>.inl (h.kept k)⟩
theorem Late.lj {b:Nat} {t:TypeId} {cs0 cs:List Value} {w w':World} (h:Late b t cs0 cs w.drew w'):Late b t cs0 cs w w':=
 Late.comp w w.drew w' (Kept.late (Below.drew (Below.refl _ _))) h
theorem Late.blk {b:Nat} {t:TypeId} {cs0 cs:List Value} {w w':World} (h:Late b t cs0 cs w w') {g:Nat} {t':TypeId} {ds:List Value} (hB:Blk w g t' ds) (hne:g≠b):Blk w' g t' ds:=(h.block g hB.lt hne).trans hB
theorem Late.lim {b:Nat} {t:TypeId} {cs0 cs:List Value} {w w':World} {l:Value} {m:Nat} (h:Late b t cs0 cs w w') (hB:Blk w b t cs0) (hc:∀ v,v∈cs0→∀ n:Int,v≠.int .u64 n) (hl:Lim w l m):Lim w' l m:=by
 obtain⟨a,c,rfl,hc',hr⟩:=hl
 refine ⟨a,c,rfl,hc',?_⟩
 rcases hr with hr|⟨b',off,rfl,hb,hcell⟩
 ·exact .inl hr
 ·refine .inr ⟨b',off,rfl,Nat.lt_of_lt_of_le hb h.size,fun i hi=>?_⟩
  by_cases hbb:b'=b
  ·exfalso
   subst hbb
   have h1:=hcell i hi
   unfold World.cell? at h1
   rw[hB] at h1
   simp only[Option.isSome_none,Bool.false_eq_true,if_false,List.getElem?_toArray] at h1
   exact hc _ (List.mem_of_getElem? h1) _ rfl
  ·rw[World.cell?_of_block (w:=w) (h.block b' hb hbb)]
   exact hcell i hi
theorem Late.ex {b:Nat} {t:TypeId} {cs0 cs:List Value} {w w':World} {v:Value} {x:Rat} (h:Late b t cs0 cs w w') (hB:Blk w b t cs0) (hc:∀ v,v∈cs0→∀ n:Int,v≠.int .u64 n) (hv:Ex w v x):Ex w' v x:=by
 have hw:∀ u n,Whole w u n→Whole w' u n:=fun u n ⟨l,he,hl⟩=>⟨l,he,h.lim hB hc hl⟩
 obtain⟨s1,a1,n1,c1,s2,a2,n2,c2,rfl,h1,h2⟩:=hv
 exact⟨_,_,_,_,_,_,_,_,rfl,hw _ _ h1,h2.imp (hw _ _) fun h=>⟨h.1,hw _ _ h.2⟩⟩
theorem Late.kept {b:Nat} {t:TypeId} {cs0 cs:List Value} {w0 w w':World} (h:Late b t cs0 cs w w') (hk:Kept w0 w) (hb:w0.heap.size≤b):Kept w0 w':=
 ⟨h.os.trans hk.os,h.tape.trans hk.tape,h.output.trans hk.output,Nat.le_trans hk.size h.size,fun k hk'=>(h.block k (Nat.lt_of_lt_of_le hk' hk.size) (by omega)).trans (hk.block k hk')⟩
inductive LSpec where
 | is (v:Value)
 | row (n:Nat) (t:TypeId) (cs:List Value)
 | stored
def sQ (b:Nat) (t:TypeId) (cs:List Value) (s:Option LSpec) (v:Value) (w:World):Prop:=
 match s with
 | some (.is u)=>v=u
 | some (.row n t' ds)=>∃ g,g≠b∧v=.slice (some ⟨g,0,none⟩) n n∧Blk w g t' ds
 | some .stored=>Blk w b t cs
 | _=>True
theorem sQ.late {b:Nat} {t:TypeId} {cs0 cs:List Value} (s:Option LSpec) (v:Value) (w w':World) (h:sQ b t cs s v w) (k:Late b t cs0 cs w w'):sQ b t cs s v w':=by
 unfold sQ at *
 split
 ·exact h
 ·obtain⟨g,h1,h2,h3⟩:=h
  exact⟨g,h1,h2,k.blk h3 h1⟩
 ·exact k.stays h
 ·trivial
theorem ae.skip {P:Program} {ρ:Operand→Value} {o:Oper} {w:World} {T:Value→World→Prop} (w':World)
  (h:(execOp ρ o).run P w=.ok .skip w') (hT:T undef w'):ae P ρ o w T:=by
 unfold ae;rw[h];exact hT
end Go.Proofs.YtjbcmmaniphkkaaGreatDoor.E
namespace Go.Proofs.YtjbcmmaniphkkaaGreatDoor.E
open Go.RowKit LimbNum
open DigNum (chs ah bP aH aC aq aE bG jt bB bh nd cN aN aG aL fO cX Bd)
end Go.Proofs.YtjbcmmaniphkkaaGreatDoor.E
namespace Go.Proofs.YtjbcmmaniphkkaaGreatDoor.E
open Go.RowKit LimbNum
open DigNum (chs ah aq aE bB bh nd aN aG fO cX Bd)
theorem Bn {s:ByteArray} {x:Rat} {k:Nat} (h:aG s x) (hb:Bd x k):s.size≤2*k+2:=by rw[h.size];exact DigNum.gC hb
theorem Ey {s:ByteArray} {x:Rat} (h:aG s x) (hb:Bd x 600):cX (chs s)=0:=by rw[show chs s=DigNum.cg x from h];exact DigNum.gS hb
end Go.Proofs.YtjbcmmaniphkkaaGreatDoor.E
