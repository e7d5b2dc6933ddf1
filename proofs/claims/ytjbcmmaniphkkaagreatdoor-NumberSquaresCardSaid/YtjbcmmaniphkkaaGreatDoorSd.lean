import Derived.Test.YtjbcmmaniphkkaaGreatDoorSc
set_option linter.unusedSectionVars false
set_option linter.unusedVariables false
set_option linter.unusedSimpArgs false
set_option maxRecDepth 100000
set_option maxHeartbeats 4000000
namespace Go.Proofs.YtjbcmmaniphkkaaGreatDoor.E
open Go.RowKit LimbNum Go.Sort
open DigNum (chs ah bP aH aC aq aE bG jt bB bh nd cN aN aL gX fN kM)
theorem sE {ps:List ByteArray} {n:Nat} (h:ps.length=n):Lib.strsOf (fun i=>ps.getD i (ByteArray.mk #[])) n=ps.map (·.data.toList):=by
 subst h
 unfold Lib.strsOf
 refine List.ext_getElem (by simp) fun i h1 h2=>?_
 have h3:i<ps.length:=by simpa using h1
 rw[List.getElem_map,List.getElem_map,List.getElem_range]
 show (ps.getD i (ByteArray.mk #[])).data.toList=_
 rw[List.getD_eq_getElem?_getD,List.getElem?_eq_getElem h3]
 rfl
theorem sq {w:World} {g n q:Nat} {ps:List ByteArray} (h:ps.length=n) (hc:∀ i,i<n→w.cell? ⟨g,0+i,none⟩=some (.string (ps.getD i (ByteArray.mk #[])))) :
  ∀ (j:Nat) x,ps.reverse[j]?=some x→((w.drewN q).setCells g 0 (List.map encStr (Lib.strsOf (fun i=>ps.getD i (ByteArray.mk #[])) n).reverse)).cell? ⟨g,0+j,none⟩=some (.string x):=by
 intro j x hx
 have hj:j<ps.reverse.length:=(List.getElem?_eq_some_iff.1 hx).1
 have hl:(List.map encStr (Lib.strsOf (fun i=>ps.getD i (ByteArray.mk #[])) n).reverse).length=n:=by rw[List.length_map,List.length_reverse,sE h,List.length_map,h]
 have hjn:j<n:=by rw[←h];simpa using hj
 have hx2:ps.reverse[j]=x:=(List.getElem?_eq_some_iff.1 hx).2
 have e:List.map encStr (Lib.strsOf (fun i=>ps.getD i (ByteArray.mk #[])) n).reverse=ps.reverse.map Value.string:=by
  rw[sE h,←List.map_reverse,List.map_map]
  rfl
 rw[World.cell?_setCells_in g _ 0 (w.drewN q) (fun i hi=>by rw[hl] at hi;rw[World.cell?_drewN,hc i hi];rfl) j (by rw[hl];exact hjn)]
 refine congrArg some ?_
 have e3:=List.getElem_of_eq e (show j<_ from by rw[hl];exact hjn)
 rw[e3,List.getElem_map,hx2]
theorem gM (b:Nat):∀ (vs:List Value) (o:Nat) (w:World),(w.setCells b o vs).heap.size=w.heap.size
 | [],_,_=>rfl
 | v::r,o,w=>by rw[World.setCells,gM b r];simp[World.setCell]
theorem fI {B b:Nat} {w0:World}:∀ {w:World},Below B w0 w→B≤b→∀ (vs:List Value) (o:Nat),Below B w0 (w.setCells b o vs)
 | _,h,_,[],_=>h
 | w,h,hb,v::r,o=>by
  rw[World.setCells]
  exact fI (Below.setCell (p:=⟨b,o,none⟩) h hb v) hb r (o+1)
theorem Below.CJ {B:Nat} {a w:World} (h:Below B a w) (q:Nat):Below B a (w.drewN q):=al h q
theorem uT (xs:List ByteArray):chs (ByteArray.mk (Lib.join (xs.map (·.data.toList)) (ByteArray.mk #[]).data.toList).toArray)=(xs.map chs).flatten:=by
 rw[wS]
 show List.map UInt8.toNat (List.intercalate [] (xs.map (·.data.toList)))=_
 rw[DigNum.AD,List.map_flatten,List.map_map];rfl
theorem sa {w w':World} {g k c x:Nat} {row:Option Nat} (h:Lim w (.slice (some ⟨g,0,none⟩) k c) x) (hg:w.grownBy w' row) (hne:some g≠row):Lim w' (.slice (some ⟨g,0,none⟩) k c) x:=by
 obtain⟨a,c',he,hc,hr⟩:=h
 simp only[Value.slice.injEq] at he
 obtain⟨rfl,rfl,rfl⟩:=he
 refine ⟨_,_,rfl,hc,?_⟩
 rcases hr with ⟨h1,_⟩|⟨b,off,h1,hb,hcell⟩
 ·cases h1
 ·simp only[K5,Addr.mk.injEq,and_true] at h1
  obtain⟨rfl,rfl⟩:=h1
  exact .inr ⟨g,0,rfl,Nat.lt_of_lt_of_le hb hg.size,fun i hi=>by
   rw[World.cell?_of_block (w:=w) (hg.block g hb hne)];exact hcell i hi⟩
theorem Ce (v:Value) (n:Int) (w:World) (h:Whole w v n) (hn0:n≠0) (hs:size n.natAbs≤1000000) (ht:TB w) :
  Calls Tryz.prog 229 #[v] w fun e w'=>∃ t:ByteArray,e=.returned (.string t)∧aN t n∧Kept w w':=by
 obtain⟨i0,hi,hz0,hz1,hz2⟩:=info_parts Tryz.uO
 obtain⟨l,rfl,hl⟩:=h
 have hN:0<n.natAbs:=by omega
 have HI:Hid (∀ t:ByteArray,chs t=(if decide (n<0)=true then [45] else [])++bh n.natAbs→aN t n):=K7 fun t ht=>ht
 have hlt:=lt_size n.natAbs
 rw[show LimbNum.B=2^64 from rfl,←Nat.pow_mul] at hlt
 have hnd:nd n.natAbs≤64*size n.natAbs+1:=(DigNum.eo (by omega)).2 (Nat.lt_of_lt_of_le hlt (Nat.le_trans (Nat.pow_le_pow_right (by decide) (Nat.le_succ _)) (Nat.pow_le_pow_left (by decide) _)))
 have hsp:0<size n.natAbs:=size_pos.2 (by omega)
 generalize n.natAbs=N at *
 generalize decide (n<0)=b at *
 obtain⟨m,hm⟩:∃ m,64*size N=m:=⟨_,rfl⟩
 rw[hm] at hlt hnd
 have hm2:m≤64000000:=by omega
 obtain⟨a1,c1,rfl,hac⟩:=id hl
 have hk1:=ak w (.cells #[.bool b,.slice a1 (size N) c1] 95)
 have hB:=aJ w 95 [Value.bool b,.slice a1 (size N) c1]
 have hl:=hl.kept hk1
 have Ht:=K7 (ht.kept hk1)
 have HFew:=K7 fun x k (h1:0<x) (h2:x*2^k≤N)=>Aq hlt h1 h2
 have HDS:=K7 fun va x w' (h:Lim w' va x) (hx:x≤N)=>mO va x 10000000000000000000 w' h (Nat.le_trans (aK hx) (by omega)) (by decide) (by decide)
 have HFU:=K7 fun u w' (hu:u<10000000000000000000) (h:TB w')=>pa u w' (Nat.lt_trans hu (by decide)) h
 have HRp:=K7 fun (c:Nat) w' (hc:c≤19)=>Go.Proofs.Tryz.strings_Repeat (ByteArray.mk #[48]) c w' (by omega) (by show 1*c≤_;omega)
 have Hz:=K7 fun (y:Nat)=>(size_pos (m:=y))
 have Hstep:=K7 fun x v x2 ps p=>@kM x v x2 N ps p
 change Calls _ _ #[.agg #[.bool b,.slice a1 (size N) c1]] w _
 have hHN:=K7 hN
 have hnz:¬((size N:Int)=0):=by omega
 have hnzb:((size N:Int)==0)=false:=by rw[beq_eq_false_iff_ne];exact hnz
 have HLn:=K7 (show (bh N).length≤64000001 by rw[DigNum.aD];omega)
 have hNle:=K7 (K6 N)
 clear hlt hnd hs ht hac hn0 hm
 generalize hz:size N=z at *
 have Hzz:=K7 hz
 clear hz
 have q0:=hB.cell 0 rfl
 have q1:=hB.cell 1 rfl
 go_enter Tryz.func229,Tryz.ntmps229
 go_wp2_with fail
 generalize w.alloc (.cells #[.bool b,.slice a1 z c1] 95)=w2 at *
 generalize hG0:w2.heap.size=G at *
 have hG:=K7 hG0
 have hwG:w.heap.size<G:=by rw[←hG0];exact hB.lt
 clear hG0 q0 q1
 go_loopw [3,4,5,6] (fun p r _ _ wr=>∃ (k x:Nat) (ps:List ByteArray),Lim wr r x∧wr.ownsRow G 9 1 p k (ps.map Value.string)∧Hid (x=0→bh N=gX ps)∧Hid (0<x→bh N=bh x++gX ps)∧Hid (0<x→x*2^k≤N)∧Hid (x≤N)∧k≤m∧Below G w2 wr) (fun _ r _ _ wr=>numOf wr r)
 case atStart=>exact⟨0,N,[],hl,⟨rfl,.inl ⟨rfl,rfl⟩⟩,K7 fun h=>absurd h (by have:=hHN.out;omega),K7 fun _=>by simp[gX],K7 fun _=>by simp,hNle,Nat.zero_le _,Below.refl _ _⟩
 case round=>
  clear hl
  obtain⟨k,x,ps,hL,hown,hJ0,hJ,hpow,hxN,hkm,hbel⟩:=hrel
  have hkr:Kept w2 wr:=by unfold Kept;rw[hG.out];exact hbel
  by_cases hx0:x=0
  ·subst hx0
   have hJ:=K7 (hJ0.out rfl)
   obtain⟨a2,c2,rfl,_⟩:=id hL
   have hBr:=hB.kept hkr
   have q0:=hBr.cell 0 rfl
   have q1:=hBr.cell 1 rfl
   have hlen0:1≤(bh N).length:=by rw[DigNum.aD];exact DigNum.gL _
   have hk0:1≤k:=by
    rcases Nat.eq_zero_or_pos k with h|h
    ·subst h
     have h2:ps.length=0:=by have:=hown.1;simpa using this
     rw[hJ.out,List.length_eq_zero_iff.1 h2] at hlen0
     simp[gX] at hlen0
    ·exact h
   rw[show size 0=0 from rfl]
   have hsize:=hbel.size
   rw[hG.out] at hsize
   clear hL hJ0 hpow hxN hlen0 hkr hBr HDS HFU HRp HFew Hstep Hz
   cases b
   ·have HT:Hid (((ps.reverse.map chs).flatten)=(if false=true then [45] else [])++bh N):=K7 (by rw[hJ.out];rfl)
    have Hlen:=K7 (show ((if false=true then [45] else [])++bh N).length≤140737488355328 by have:=HLn.out;simp;omega)
    have HSI:=K7 fun t ht=>HI.out t ht
    generalize wr=w6 at *
    obtain⟨g,c,rfl,hg,hnc,hgl,hpl,hcells,hfr⟩:=qk hown (by omega)
    have HRv:=K7 (Go.Proofs.Tryz.slices_Reverse_string_cells g 0 (k) c (fun i=>(ps).getD i (ByteArray.mk #[])) w6 (by omega) hcells hfr)
    have Hcells:=K7 hcells
    have Hpl:=K7 hpl
    clear hcells hfr hown hpl
    go_wp2_with fail
    refine HRv.out.mono ?_
    rintro e w7 ⟨rfl,q,rfl⟩
    have hc7:=sq (q:=q) Hpl.out Hcells.out
    have hb7:=fI (Below.CJ hbel q) hg (List.map encStr (Lib.strsOf (fun i=>(ps).getD i (ByteArray.mk #[])) (k)).reverse) 0
    have hs7:((w6.drewN q).setCells g 0 (List.map encStr (Lib.strsOf (fun i=>(ps).getD i (ByteArray.mk #[])) (k)).reverse)).heap.size=w6.heap.size:=by rw[gM];rfl
    generalize (w6.drewN q).setCells g 0 (List.map encStr (Lib.strsOf (fun i=>(ps).getD i (ByteArray.mk #[])) (k)).reverse)=w8 at *
    have hjl:=uT (ps).reverse
    have HJ:=K7 (Go.Proofs.Tryz.strings_Join g 0 c (ps).reverse (ByteArray.mk #[]) w8 hc7 (by omega) (by rw[List.length_reverse,Hpl.out];omega) (by rw[List.length_reverse,Hpl.out];omega) (by rw[←List.length_map (f:=UInt8.toNat),show List.map UInt8.toNat _=_ from hjl,HT.out];exact Hlen.out))
    rw[List.length_reverse,Hpl.out] at HJ
    have hkw:=K7 (Kept.comp _ _ _ hk1 (show Kept w2 w8 from by unfold Kept;rw[hG.out];exact hb7))
    clear HRv Hcells hc7 hb7 hs7 hbel
    go_wp2_with fail
    refine HJ.out.mono ?_
    rintro e w9 ⟨rfl,hk9⟩
    have hkw:=K7 (Kept.comp _ _ _ hkw.out hk9)
    have HS:=K7 (hjl.trans HT.out)
    clear HJ hk9 hjl
    generalize Lib.join (List.map (fun x=>x.data.toList) (ps).reverse) (ByteArray.mk #[]).data.toList=jj at *
    go_wp2
    go_ret
    exact⟨_,rfl,HI.out _ (by have:=HS.out;simpa using this),hkw.out⟩
   ·have HT:Hid ((((ps++[ByteArray.mk #[45]]).reverse.map chs).flatten)=(if true=true then [45] else [])++bh N):=K7 (by
     have:=fN ps (ByteArray.mk #[45])
     rw[show (((ps++[ByteArray.mk #[45]]).reverse.map chs).flatten)=gX (ps++[ByteArray.mk #[45]]) from rfl,this,hJ.out];rfl)
    have Hlen:=K7 (show ((if true=true then [45] else [])++bh N).length≤140737488355328 by have:=HLn.out;simp;omega)
    go_wp2_with (at_builtin;refine wpList_append_own _ rfl _ _ 277 rfl G 9 i0 (.string (ByteArray.mk #[])) 1 16 Tryz.underlying277 hi hz0 hz1 hz2 rfl (by decide) _ _ _ rfl (hown.alloc _) ⟨_,0,none⟩ 1 1 [.string (ByteArray.mk #[45])] rfl rfl (D.cG _ _ _) (fun x hx=>by simp at hx;subst hx;rfl) (by unfold maxLen;omega) (by omega) (by simp;omega) ?_;intro v' w6 hown6 hgrow6 hnil6)
    have R:w6.ownsRow G 9 1 v' (k+1) ((ps++[(ByteArray.mk #[45])]).map Value.string)∧Below G w2 w6:=
     ⟨by rw[List.map_append];exact hown6,(hbel.alloc hsize _).grown hgrow6 (by simp;omega) (fun q hq=>(hown.lt q hq).1)⟩
    have hown:=R.1
    have hbel:=R.2
    clear R hown6 hgrow6 hnil6
    obtain⟨g,c,rfl,hg,hnc,hgl,hpl,hcells,hfr⟩:=qk hown (by omega)
    have HRv:=K7 (Go.Proofs.Tryz.slices_Reverse_string_cells g 0 (k+1) c (fun i=>(ps++[ByteArray.mk #[45]]).getD i (ByteArray.mk #[])) w6 (by omega) hcells hfr)
    have Hcells:=K7 hcells
    have Hpl:=K7 hpl
    clear hcells hfr hown hpl
    go_wp2_with fail
    refine HRv.out.mono ?_
    rintro e w7 ⟨rfl,q,rfl⟩
    have hc7:=sq (q:=q) Hpl.out Hcells.out
    have hb7:=fI (Below.CJ hbel q) hg (List.map encStr (Lib.strsOf (fun i=>(ps++[ByteArray.mk #[45]]).getD i (ByteArray.mk #[])) (k+1)).reverse) 0
    have hs7:((w6.drewN q).setCells g 0 (List.map encStr (Lib.strsOf (fun i=>(ps++[ByteArray.mk #[45]]).getD i (ByteArray.mk #[])) (k+1)).reverse)).heap.size=w6.heap.size:=by rw[gM];rfl
    generalize (w6.drewN q).setCells g 0 (List.map encStr (Lib.strsOf (fun i=>(ps++[ByteArray.mk #[45]]).getD i (ByteArray.mk #[])) (k+1)).reverse)=w8 at *
    have hjl:=uT (ps++[ByteArray.mk #[45]]).reverse
    have HJ:=K7 (Go.Proofs.Tryz.strings_Join g 0 c (ps++[ByteArray.mk #[45]]).reverse (ByteArray.mk #[]) w8 hc7 (by omega) (by rw[List.length_reverse,Hpl.out];omega) (by rw[List.length_reverse,Hpl.out];omega) (by rw[←List.length_map (f:=UInt8.toNat),show List.map UInt8.toNat _=_ from hjl,HT.out];exact Hlen.out))
    rw[List.length_reverse,Hpl.out] at HJ
    have hkw:=K7 (Kept.comp _ _ _ hk1 (show Kept w2 w8 from by unfold Kept;rw[hG.out];exact hb7))
    clear HRv Hcells hc7 hb7 hs7 hbel
    go_wp2_with fail
    refine HJ.out.mono ?_
    rintro e w9 ⟨rfl,hk9⟩
    have hkw:=K7 (Kept.comp _ _ _ hkw.out hk9)
    have HS:=K7 (hjl.trans HT.out)
    clear HJ hk9 hjl
    generalize Lib.join (List.map (fun x=>x.data.toList) (ps++[ByteArray.mk #[45]]).reverse) (ByteArray.mk #[]).data.toList=jj at *
    go_wp2
    go_ret
    exact⟨_,rfl,HI.out _ (by have:=HS.out;simpa using this),hkw.out⟩
  ·have hxp:0<x:=by omega
   have hkm2:=HFew.out x k hxp (hpow.out hxp)
   have HDv:=K7 (HDS.out _ x _ hL hxN.out)
   have hv:x%10000000000000000000<10000000000000000000:=Nat.mod_lt _ (by decide)
   have hdm:=Nat.div_add_mod x 10000000000000000000
   have hlt2:x/10000000000000000000<x:=Nat.div_lt_self hxp (by decide)
   have hp2:x/10000000000000000000*2^(k+1)≤N:=by
    refine Nat.le_trans ?_ (hpow.out hxp)
    rw[Nat.pow_succ,Nat.mul_comm (2^k),←Nat.mul_assoc]
    exact Nat.mul_le_mul_right _ (by omega)
   have hsx:=(Hz.out x).2 (by omega)
   have hnum:=K7 (ct hL)
   have Hlt2:=K7 hlt2
   have Hx2:=K7 (Nat.le_trans (Nat.le_of_lt hlt2) hxN.out)
   have Hp2:=K7 hp2
   have Hst:=K7 fun p=>Hstep.out x (x%10000000000000000000) (x/10000000000000000000) ps p (by rw[Nat.mul_comm];exact hdm.symm) hv (hJ.out hxp)
   have HFv:=K7 fun w' h=>HFU.out _ w' hv h
   have hvn:nd (x%10000000000000000000)≤19:=(DigNum.eo (by decide)).2 hv
   have Hpad:=K7 (DigNum.Ds (show x%10000000000000000000<10^19 from hv))
   obtain⟨a2,c2,rfl,_⟩:=id hL
   clear hJ0 hJ hpow hxN hv hdm hlt2 hp2 HDS HFU HFew Hstep hL
   generalize hv0:x%10000000000000000000=v at *
   generalize hx2:x/10000000000000000000=x2 at *
   clear hv0 hx2
   generalize size x=sx at *
   go_wp2_with fail
   have hpb:=K7 fun q hq=>(hown.lt q hq).2
   refine HDv.out.mono ?_
   rintro e wd ⟨r2,rfl,hr2,hkd,k3,c3,rfl⟩
   generalize wr.heap.size=gr at *
   have hown:=D.eK hown hkd
   have hbel:Below G w2 wd:=by rw[←hG.out];exact Kept.comp _ _ _ hkr hkd
   have hkr:=Kept.comp _ _ _ hkr hkd
   clear HDv hkd
   go_wp2_with fail
   refine (HFv.out _ (Ht.out.kept hkr)).mono ?_
   rintro e wf ⟨t,rfl,htd,hkf⟩
   have hown:=D.eK hown hkf
   have hr2:=hr2.kept hkf
   have hbel:Below G w2 wf:=by rw[←hG.out];exact Kept.comp _ _ _ hkr hkf
   have hkr:=Kept.comp _ _ _ hkr hkf
   have hts:t.size=nd v:=by rw[←ah,htd,DigNum.aD]
   have Htd:=K7 htd
   clear HFv hkf htd
   obtain rfl:k3=size x2:=by
    obtain⟨_,_,he,_⟩:=hr2
    simp only[Value.slice.injEq] at he
    exact he.2.1
   by_cases hx2:x2=0
   ·subst hx2
    rw[show size 0=0 from rfl]
    have hst:=K7 ((Hst.out t).2 rfl Htd.out)
    have hn2:=K7 (ct hr2)
    have hr3:=K7 hr2
    have hsize:=hbel.size
    rw[hG.out] at hsize
    clear Hst Htd hr2 hts
    go_wp2_with (at_builtin;refine wpList_append_own _ rfl _ _ 277 rfl G 9 i0 (.string (ByteArray.mk #[])) 1 16 Tryz.underlying277 hi hz0 hz1 hz2 rfl (by decide) _ _ _ rfl (hown.alloc _) ⟨_,0,none⟩ 1 1 [.string t] rfl rfl (D.cG _ _ _) (fun x hx=>by simp at hx;subst hx;rfl) (by unfold maxLen;omega) (by omega) (by simp;omega) ?_;intro v' w6 hown6 hgrow6 hnil6)
    have R:w6.ownsRow G 9 1 v' (k+1) ((ps++[t]).map Value.string)∧Below G w2 w6:=
     ⟨by rw[List.map_append];exact hown6,(hbel.alloc hsize _).grown hgrow6 (by simp;omega) (fun q hq=>(hown.lt q hq).1)⟩
    have hr6:=K7 (sa (hr3.out.kept (ak _ _)) hgrow6 (fun h=>absurd (hpb.out gr h.symm) (Nat.lt_irrefl _)))
    clear hown6 hnil6 hown hbel
    go_wp2
    go_roundw
    case rel=>exact⟨k+1,0,ps++[t],hr6.out,R.1,K7 fun _=>hst.out,K7 fun h=>absurd h (Nat.lt_irrefl 0),K7 fun h=>absurd h (Nat.lt_irrefl 0),K7 (Nat.zero_le _),by omega,R.2⟩
    case measure=>exact Nat.lt_of_le_of_lt (Nat.le_of_eq (ct hr6.out)) (by rw[hnum.out];exact Hlt2.out)
   ·have hsx2:=(Hz.out x2).2 (by omega)
    have x1:IntKind.i64.wrap (19-(t.size:Int))=((19-t.size:Nat):Int):=by rw[IntWalk.i64_in _ (by omega)];omega
    have HRq:=K7 fun w'=>HRp.out (19-t.size) w' (by omega)
    have hr3:=K7 hr2
    have Hts:=K7 hts
    generalize hq:19-t.size=q at *
    have Hq:=K7 hq
    generalize size x2=s2 at *
    have htz:t.size≤19:=by omega
    clear hr2 hq hts
    go_wp2_with fail
    refine (HRq.out _).mono ?_
    rintro e wg ⟨rfl,hkg⟩
    have hown:=D.eK hown hkg
    have hr3:=K7 (hr3.out.kept hkg)
    have hbel:Below G w2 wg:=by rw[←hG.out];exact Kept.comp _ _ _ hkr hkg
    have hrz:=vN q
    change chs (ByteArray.mk (Lib.repeatL (ByteArray.mk #[48]).data.toList q).toArray)=_ at hrz
    generalize ByteArray.mk (Lib.repeatL (ByteArray.mk #[48]).data.toList q).toArray=rp at *
    have hrs:rp.size=q:=by rw[←ah,hrz,List.length_replicate]
    have hpt:chs (rp++t)=cN v 19:=by rw[aH,hrz,Htd.out,Hpad.out,←Hq.out,Hts.out]
    have hst:=K7 ((Hst.out (rp++t)).1 (by omega) hpt)
    have hsize:=hbel.size
    rw[hG.out] at hsize
    have hq19:q≤19:=by rw[←Hq.out];omega
    clear Hst Htd HRq hkg hrz hpt
    go_wp2_with (at_builtin;refine wpList_append_own _ rfl _ _ 277 rfl G 9 i0 (.string (ByteArray.mk #[])) 1 16 Tryz.underlying277 hi hz0 hz1 hz2 rfl (by decide) _ _ _ rfl (hown.alloc _) ⟨_,0,none⟩ 1 1 [.string (rp++t)] rfl rfl (D.cG _ _ _) (fun x hx=>by simp at hx;subst hx;rfl) (by unfold maxLen;omega) (by omega) (by simp;omega) ?_;intro v' w6 hown6 hgrow6 hnil6)
    have R:w6.ownsRow G 9 1 v' (k+1) ((ps++[(rp++t)]).map Value.string)∧Below G w2 w6:=
     ⟨by rw[List.map_append];exact hown6,(hbel.alloc hsize _).grown hgrow6 (by simp;omega) (fun q hq=>(hown.lt q hq).1)⟩
    have hr6:=K7 (sa (hr3.out.kept (ak _ _)) hgrow6 (fun h=>absurd (hpb.out gr h.symm) (Nat.lt_irrefl _)))
    clear hown6 hnil6 hown hbel
    go_wp2
    go_roundw
    case rel=>exact⟨k+1,x2,ps++[rp++t],hr6.out,R.1,K7 fun h=>absurd h hx2,K7 fun _=>hst.out,K7 fun _=>Hp2.out,Hx2,by omega,R.2⟩
    case measure=>exact Nat.lt_of_le_of_lt (Nat.le_of_eq (ct hr6.out)) (by rw[hnum.out];exact Hlt2.out)
theorem Cd (v:Value) (n:Int) (w:World) (h:Whole w v n) (hs:size n.natAbs≤1000000) (ht:TB w) :
  Calls Tryz.prog 229 #[v] w fun e w'=>∃ t:ByteArray,e=.returned (.string t)∧aN t n∧Kept w w':=by
 by_cases h0:n=0
 ·subst h0;exact zP v w h
 ·exact Ce v n w h h0 hs ht
end Go.Proofs.YtjbcmmaniphkkaaGreatDoor.E
namespace Go.Proofs.YtjbcmmaniphkkaaGreatDoor.E
open Go.RowKit LimbNum
open DigNum (chs ah bP aH aC aq aE bG jt bB bh nd cN aN aG aL fO Bd)
theorem vo:10^600≤2^1994:=by decide +kernel
theorem Cy {n k:Nat} (hk:10^600≤2^k) (h:k<bj n):¬nd n≤600:=by
 intro h2
 have h3:=(DigNum.eo (by decide)).1 h2
 have h4:2^k≤n:=by
  unfold bj at h
  split at h
  ·exact absurd h (Nat.not_lt_zero _)
  ·rename_i h0
   exact (Nat.le_log2 h0).1 (by omega)
 exact absurd (Nat.lt_of_lt_of_le h3 (Nat.le_trans hk h4)) (Nat.lt_irrefl _)
theorem uq {n:Nat} (h:1994<bj n):¬nd n≤600:=Cy (k:=1994) vo h
theorem nR (v:Value) (n:Int) (w:World) (h:Whole w v n) (hs:size n.natAbs≤1000000) (ht:TB w) :
  Calls Tryz.prog 187 #[v] w fun e w'=>∃ t:ByteArray,e=.returned (.tuple #[.string t,.bool (decide (nd n.natAbs≤600))])∧(nd n.natAbs≤600→aN t n)∧Kept w w':=by
 have HB:=K7 fun w' h=>kx v n w' h (by omega)
 have HT:=K7 fun w' h ht=>Cd v n w' h hs ht
 have hbd:=@uq n.natAbs
 have Hsz:=K7 fun (t:ByteArray) (h:aN t n)=>(show (aE (chs t)).length=nd n.natAbs by rw[(qD h).1,DigNum.aD])
 generalize bj n.natAbs=b at *
 generalize nd n.natAbs=d at *
 obtain⟨s1,a1,n1,c1,rfl⟩:=aO h
 have hk:=ak w (.cells ([.bool s1,.slice a1 n1 c1]).toArray 95)
 have hB:=aJ w 95 [.bool s1,.slice a1 n1 c1]
 have h:=h.kept hk
 have ht:=ht.kept hk
 have q0:=hB.cell 0 rfl
 have q1:=hB.cell 1 rfl
 by_cases hb:1994<b
 ·have hd:=hbd hb
  have hbi:((b:Int)>1994):=by omega
  rw[decide_eq_false hd]
  have HV:=K7 fun (t:ByteArray)=>(show d≤600→aN t n from fun h=>absurd h hd)
  clear hbd hd HT Hsz hs hb
  go_enter Tryz.func187,Tryz.ntmps187
  go_wp2_with fail
  generalize w.alloc (.cells [.bool s1,.slice a1 n1 c1].toArray _)=w2 at *
  refine (HB.out _ h).mono ?_
  rintro e w3 ⟨rfl,hk3⟩
  have hk:=Kept.comp _ _ _ hk hk3
  clear HB hk3 q0 q1
  go_wp2
  exact bodyPost_ret (v:=.tuple #[.string (ByteArray.mk #[]),.bool false]) (by simp[results,Tryz.results187,go_sem]) rfl ⟨_,rfl,HV.out _,hk⟩
 ·have hbi:¬((b:Int)>1994):=by omega
  clear hbd hs hb
  go_enter Tryz.func187,Tryz.ntmps187
  go_wp2_with fail
  generalize w.alloc (.cells [.bool s1,.slice a1 n1 c1].toArray _)=w2 at *
  refine (HB.out _ h).mono ?_
  rintro e w3 ⟨rfl,hk3⟩
  have hk:=Kept.comp _ _ _ hk hk3
  have hB:=hB.kept hk3
  have h:=h.kept hk3
  have ht:=ht.kept hk3
  have q0:=hB.cell 0 rfl
  have q1:=hB.cell 1 rfl
  clear HB hk3
  go_wp2_with fail
  refine (HT.out _ h ht).mono ?_
  rintro e w4 ⟨t,rfl,hst,hk4⟩
  have hk:=Kept.comp _ _ _ hk hk4
  have hl:=Hsz.out t hst
  have HTr:=K7 fun w'=>ud t w'
  have HS:=K7 hst
  clear HT hk4 Hsz hst h ht hB q0 q1
  go_wp2_with fail
  refine (HTr.out _).mono ?_
  rintro e w5 ⟨u,rfl,hu,rfl⟩
  have hus:u.size=d:=by rw[←ah,hu,hl]
  have hdi:decide ((u.size:Int)≤600)=decide (d≤600):=by rw[hus];congr 1;rw[eq_iff_iff];omega
  clear HTr hu hl hus
  go_wp2
  exact bodyPost_ret (v:=.tuple #[.string t,.bool (decide (d≤600))]) (by simp[results,Tryz.results187,go_sem];first|done|omega|(rw[←hdi])) rfl ⟨_,rfl,fun _=>HS.out,hk⟩
theorem DR {u:ByteArray} {d:Nat} (h:aN u (d:Int)):(u.toList==[49])=decide (d=1):=by
 have h1:chs u=bh d:=by rw[←DigNum.di];exact h
 rw[cE,h1]
 have e:bh d=List.map UInt8.toNat [49]↔d=1:=by
  constructor
  ·intro h2
   exact DigNum.eW (h2.trans DigNum.jr.symm)
  ·rintro rfl;exact DigNum.jr
 by_cases hd:d=1
 ·rw[decide_eq_true hd,decide_eq_true (e.2 hd)]
 ·rw[decide_eq_false hd,decide_eq_false fun h=>hd (e.1 h)]
theorem BY (v:Value) (x:Rat) (k:Nat) (w:World) (h:Ex w v x) (hb:Bd x k) (hk:k≤1000000) (ht:TB w) :
  Calls Tryz.prog 121 #[v] w fun e w'=>∃ t:ByteArray,e=.returned (.tuple #[.string t,.int .i64 ((fO x:Nat):Int)])∧(fO x=0→aG t x)∧(fO x≠0→t=ByteArray.mk #[])∧Kept w w':=by
 have HB:=K7 fun v w' (h:Ex w' v x)=>fu v x k w' h hb hk
 have HL1:=K7 fun v w' (h:Whole w' v x.num) ht=>nR v x.num w' h (Nat.le_trans (aX hb.1) hk) ht
 have HL2:=K7 fun v w' (h:Whole w' v (x.den:Int)) ht=>nR v x.den w' h (Nat.le_trans (aX (DigNum.fo hb.2)) hk) ht
 rw[Int.natAbs_natCast] at HL2
 have HZ:Hid (nd x.num.natAbs≤600→nd x.den≤600→fO x=0):=K7 fun h1 h2=>by unfold fO;rw[if_pos ⟨h1,h2⟩]
 have HZ2:Hid (¬(nd x.num.natAbs≤600∧nd x.den≤600)→fO x=4):=K7 fun h1=>by unfold fO;rw[if_neg h1]
 have HW:=K7 fun (t:ByteArray) (h:aN t x.num) h1=>DigNum.qE h h1
 have HJ:=K7 fun (t u:ByteArray) (h:aN t x.num) (h2:aN u (x.den:Int)) h1=>DigNum.sw h h2 h1
 have HO:=K7 fun (u:ByteArray) (h:aN u (x.den:Int))=>DR h
 have HS1:=K7 fun (t:ByteArray) (h:aN t x.num) (h1:nd x.num.natAbs≤600)=>(show t.size≤1000 by rw[h.size,DigNum.bw];split<;>omega)
 have HS2:=K7 fun (t:ByteArray) (h:aN t (x.den:Int)) (h1:nd x.den≤600)=>(show t.size≤1000 by rw[h.size,DigNum.bw,Int.natAbs_natCast];split<;>omega)
 obtain⟨Z,hZ⟩:∃ Z,fO x=Z:=⟨_,rfl⟩
 rw[hZ] at HZ HZ2 ⊢
 obtain⟨s1,a1,n1,c1,s2,a2,n2,c2,rfl⟩:=dL h
 clear hZ hb hk
 have hk:=ak w (.cells ([.bool s1,.slice a1 n1 c1,.bool s2,.slice a2 n2 c2]).toArray 97)
 have hB:=aJ w 97 [.bool s1,.slice a1 n1 c1,.bool s2,.slice a2 n2 c2]
 have h:=h.kept hk
 have ht:=ht.kept hk
 have h1:=h.both.1
 have q0:=hB.cell 0 rfl
 have q1:=hB.cell 1 rfl
 have q2:=hB.cell 2 rfl
 have q3:=hB.cell 3 rfl
 generalize nd x.num.natAbs=d1 at *
 generalize nd x.den=d2 at *
 go_enter Tryz.func121,Tryz.ntmps121
 go_wp2_with fail
 generalize w.alloc (.cells [.bool s1,.slice a1 n1 c1,.bool s2,.slice a2 n2 c2].toArray _)=w2 at *
 refine (HL1.out _ _ h1 ht).mono ?_
 rintro e w3 ⟨t,rfl,hst,hk3⟩
 have hk:=Kept.comp _ _ _ hk hk3
 have hB:=hB.kept hk3
 have h:=h.kept hk3
 have ht:=ht.kept hk3
 have q0:=hB.cell 0 rfl
 have q1:=hB.cell 1 rfl
 have q2:=hB.cell 2 rfl
 have q3:=hB.cell 3 rfl
 have HST:=K7 hst
 clear HL1 hk3 h1 hst
 go_wp2_with fail
 refine (HB.out _ _ h).mono ?_
 rintro e w4 ⟨vb,rfl,hvb,hk3⟩
 have hk:=Kept.comp _ _ _ hk hk3
 have ht:=ht.kept hk3
 clear HB hk3 h hB q0 q1 q2 q3
 go_wp2_with fail
 refine (HL2.out _ _ hvb ht).mono ?_
 rintro e w5 ⟨u,rfl,hsu,hk3⟩
 have hk:=Kept.comp _ _ _ hk hk3
 have HSU:=K7 hsu
 clear HL2 hk3 hvb hsu ht
 by_cases g1:d1≤600
 ·rw[decide_eq_true g1]
  have hst:=HST.out g1
  by_cases g2:d2≤600
  ·rw[decide_eq_true g2]
   have hsu:=HSU.out g2
   have h0:=K7 (HZ.out g1 g2)
   have ho:=HO.out u hsu
   have z1:=HS1.out t hst g1
   have z2:=HS2.out u hsu g2
   by_cases hd:x.den=1
   ·rw[decide_eq_true hd] at ho
    have HR:=K7 (HW.out t hst hd)
    clear HST HSU HZ HZ2 HW HJ HO HS1 HS2 hst hsu hd g1 g2
    go_wp2
    exact bodyPost_ret (v:=.tuple #[.string t,.int .i64 0]) (by simp[results,Tryz.results121,go_sem]) rfl ⟨_,congrArg (fun n:Nat=>Ending.returned (.tuple #[.string t,.int .i64 (n:Int)])) h0.out.symm,fun _=>HR.out,fun h=>absurd h0.out h,hk⟩
   ·rw[decide_eq_false hd] at ho
    have HR:=K7 (HJ.out t u hst hsu hd)
    have z3:(t++ByteArray.mk #[47]).size=t.size+1:=by rw[ByteArray.size_append];rfl
    clear HST HSU HZ HZ2 HW HJ HO HS1 HS2 hst hsu hd g1 g2
    go_wp2
    exact bodyPost_ret (v:=.tuple #[.string (t++ByteArray.mk #[47]++u),.int .i64 0]) (by simp[results,Tryz.results121,go_sem]) rfl ⟨_,congrArg (fun n:Nat=>Ending.returned (.tuple #[.string (t++ByteArray.mk #[47]++u),.int .i64 (n:Int)])) h0.out.symm,fun _=>HR.out,fun h=>absurd h0.out h,hk⟩
  ·rw[decide_eq_false g2]
   have h0:=K7 (HZ2.out fun h=>g2 h.2)
   clear HST HSU HZ HZ2 HW HJ HO HS1 HS2 hst g1 g2
   go_wp2
   exact bodyPost_ret (v:=.tuple #[.string (ByteArray.mk #[]),.int .i64 4]) (by simp[results,Tryz.results121,go_sem]) rfl ⟨_,congrArg (fun n:Nat=>Ending.returned (.tuple #[.string (ByteArray.mk #[]),.int .i64 (n:Int)])) h0.out.symm,fun h=>absurd h (by rw[h0.out];decide),fun _=>rfl,hk⟩
 ·rw[decide_eq_false g1]
  have h0:=K7 (HZ2.out fun h=>g1 h.1)
  clear HST HSU HZ HZ2 HW HJ HO HS1 HS2 g1
  generalize decide (d2≤600)=f2 at *
  go_wp2
  exact bodyPost_ret (v:=.tuple #[.string (ByteArray.mk #[]),.int .i64 4]) (by simp[results,Tryz.results121,go_sem]) rfl ⟨_,congrArg (fun n:Nat=>Ending.returned (.tuple #[.string (ByteArray.mk #[]),.int .i64 (n:Int)])) h0.out.symm,fun h=>absurd h (by rw[h0.out];decide),fun _=>rfl,hk⟩
end Go.Proofs.YtjbcmmaniphkkaaGreatDoor.E
