import Derived.Laws.Entries
import GoSem.Instr.MapUpdate
import GoSem.Instr.MakeMap
import Derived.Test.YtjbcmmaniphkkaaGreatDoorSx2
set_option linter.unusedSectionVars false
set_option linter.unusedVariables false
set_option linter.unusedSimpArgs false
namespace Go.Sx
open LimbNum
variable [Unk] [Glob]
section
variable {P : Program} {E : Env} {ρ : Operand → AV} {st : Hp} {o : Oper} {β : Type} {k : AV → Hp → Option β} {r : β}
theorem wY {b:Option Nat} {c:Hp→Option β} (h:CK st b c=some r) :
  ∃ st1,c st1=some r∧st1.nx=st.nx∧(∀ i,some i≠b→st1.h.get i=st.h.get i)∧(∀ i,some i=b→st1.h.get i=none)∧Heaps st st1:=by
 unfold CK at h
 cases b with
 | none=>exact⟨st,h,rfl,fun _ _=>rfl,fun i hi=>(by cases hi),Heaps.rfl' _⟩
 | some b=>
  simp only at h
  split at h
  ·obtain⟨t',h1,h2,h3⟩:=Tr.dy _ _ _ _ _ _ h
   rw[aT] at h1
   exact⟨⟨t',st.nx,Nat.min st.lo b⟩,h1,rfl,fun i hi=>h3 i fun e=>hi (by rw[e]),fun i hi=>(by cases hi;exact h2),dX h3 rfl rfl fun _=>.inl h2⟩
  ·cases h
theorem vR {w:World} {rb o:Nat} {c:Array Value} {e:TypeId} {vs:List Value} (hb:w.heap[rb]?=some (.cells c e (0,0))) (hl:o+vs.length≤c.size) :
  Laid w rb o vs (w.setRow rb (c.toList.take o++vs++c.toList.drop (o+vs.length)).toArray):=by
 refine ⟨by simp[World.setRow],⟨rfl,rfl,rfl⟩,fun k hk=>setRow_other w rb k _ hk,fun c' e' h=>?_⟩
 rw[hb] at h;cases h
 refine ⟨_,setRow_heap w rb c _ e _ hb,by simp;omega,fun j=>?_⟩
 rw[List.getElem?_toArray,List.append_assoc,List.getElem?_append]
 have hto:(c.toList.take o).length=o:=by simp;omega
 rw[hto]
 split
 ·rw[if_neg (by omega),List.getElem?_take,if_pos (by omega),Array.getElem?_toList]
 ·rw[List.getElem?_append]
  split
  ·rw[if_pos (by omega)]
  ·rw[if_neg (by omega),List.getElem?_drop,Array.getElem?_toList]
   congr 1
   omega
theorem iC {a:Act} {w:World} {args:Array Operand} {argTypes:Array TypeId} {t:TypeId} {x y:Operand} {v:Value} {w':World} (ho:o.op=.call { callee:=.builtin .append,args,argTypes }) (ht:argTypes.toList=[t,t]) (hx:args.toList=[x,y])
  (h:(Builtin.append_ #[t,t] o.type #[a.eval x,a.eval y]).run P w=.ok v w'):(execOp a.eval o).run P w=.ok (.value v) w':=by
 have e1:argTypes = #[t,t]:=Array.ext' (by simpa using ht)
 have e2:args = #[x,y]:=Array.ext' (by simpa using hx)
 subst e1 e2
 simp[execOp,ho,resolve,invoke,builtin,h]
theorem uh {a:Act} {m:Nm} {w:World} {t:TypeId} {x y:Operand} {i2:TypeInfo} {e ty:TypeId} {te:TyI} {b:Option Nat} {n:Nat} {cs cs':List AV} (h2:P.underlying t=some (.slice e)) (g1:P.info? e=some i2)
  (hvx:RV m w (ρ x) (a.eval x)) (hvy:RV m w (ρ y) (a.eval y)) (hrow:rowOf st (ρ x) te.size=some (b,n,cs)) (hel:gj st (ρ y) te.size=some (0,cs')) :
  (Builtin.append_ #[t,t] ty #[a.eval x,a.eval y]).run P w=.ok (a.eval x) w:=by
 have hy:∃ base len cap,a.eval y=.slice base len cap∧len=0:=by
  unfold gj at hel
  split at hel
  ·rw[‹ρ y=_›,RV] at hvy;exact⟨_,_,_,hvy,rfl⟩
  ·split at hel
   ·split at hel
    ·simp only[K5,Prod.mk.injEq] at hel
     rw[‹ρ y=_›,RV] at hvy
     obtain⟨rb,cap,_,hvy,_⟩:=hvy
     exact⟨_,_,_,hvy,hel.1⟩
    ·cases hel
   ·cases hel
  ·cases hel
 obtain⟨base,len,cap,hy,rfl⟩:=hy
 have hx':∃ base n cap,a.eval x=.slice base n cap∧n≤cap:=by
  unfold rowOf at hrow
  split at hrow
  ·rw[‹ρ x=_›,RV] at hvx;exact⟨_,_,_,hvx,K6 _⟩
  ·rw[‹ρ x=_›,RV] at hvx
   obtain⟨rb,cap,_,hvx,hle,_⟩:=hvx
   exact⟨_,_,_,hvx,hle⟩
  ·cases hrow
 obtain⟨base',n1,cap',hx',hle⟩:=hx'
 have hfc:(Builtin.firstCells i2.size 0 (.slice base 0 cap)).run P w=.ok #[] w:=by
  cases base<;>simp[Builtin.firstCells,loadCells,loadCellsFrom]
 rw[hx',hy]
 cases base'<;>simp[Builtin.append_,run_underlying h2,bR g1,Builtin.lenOf,hle,hfc,storeCells]
theorem zS {args:Array Operand} {argTypes:Array TypeId} {t:TypeId} {x y:Operand} {ti te:TyI} (ho:o.op=.call { callee:=.builtin .append,args,argTypes }) (hat:argTypes.toList=[t,t]) (hax:args.toList=[x,y])
  (ht:TyOK P t ti) (hk:ti.kind=.slice) (hte:TyOK P ti.elem te) (h:sR st (ρ x) (ρ y) te k=some r) :
  ∃ av st',k av st'=some r∧gP P ρ st o av st':=by
 obtain⟨i,d,z,h1,h2,h3,h4,h5,h6,h7,h8,h9,h10,_⟩:=ht.ex
 obtain⟨i2,d2,z2,g1,g2,g3,g4,g5,g6,_⟩:=hte.ex
 obtain rfl:=h10 hk
 have hin:∀ u,u=x∨u=y→u∈o.op.operands:=fun u hu=>by
  simp only[ho,Op.operands,Call.operands]
  refine Array.mem_append.2 (.inr ?_)
  rw[←Array.mem_toList_iff,hax]
  simpa using hu
 unfold sR at h
 split at h
 ·rename_i b n cs n' cs' hrow hel
  split at h
  ·rename_i hc
   obtain⟨c1,c2,c3,c4⟩:=hc
   split at h
   ·rename_i hn0
    subst hn0
    refine ⟨_,st,h,cq (Heaps.rfl' _) fun a m w hO hs hf=>?_⟩
    have hvx:=hO x (hin x (.inl rfl))
    exact⟨_,w,m,.inl (iC ho hat hax (uh h2 g1 hvx (hO y (hin y (.inr rfl))) hrow hel)),hvx,hs,To.rfl',fun _ _=>rfl⟩
   ·rename_i hn0
    split at h
    ·rename_i hcell
     simp only[bS,aT] at h
     obtain⟨st1,d1,d2,d3,d4,d5⟩:=wY h
     obtain⟨st',s1,s2,s3,s4,s5,s6⟩:=fz d1
     have hbytes:∀ q:Nat,q≤65536→q*i2.bytes≤140737488355328:=fun q hq=>by
      have:=Nat.mul_le_mul hq (show i2.bytes≤65536 by omega)
      omega
     refine ⟨_,st',s1,cq (d5.comp (dV s4 s5 s6)) fun a m w hO hs hf=>?_⟩
     have hvx:=hO x (hin x (.inl rfl))
     have hvy:=hO y (hin y (.inr rfl))
     obtain⟨ad,cp,vs',ey,hvs',hl',hmem⟩:=CP hs hvy hel hn0
     have h1c:=JG hvs' hcell.1
     have hnv':=xF hvs' hcell.1
     unfold rowOf at hrow
     split at hrow
     ·
      simp only[K5,Prod.mk.injEq] at hrow
      obtain⟨rfl,rfl,rfl⟩:=hrow
      rw[‹ρ x=_›,RV] at hvx
      have hr:=run_append_nil (P:=P) w t o.type ti.elem i2 z2 h2 g1 g3 ad n' cp vs' (by rw[hl',g4]) hmem (by omega) (by omega) (by have:=hbytes n' (by omega);omega)
      simp only[List.nil_append,Nat.zero_add] at s2 s3 ⊢
      obtain⟨m',q1,q2,q3,q4⟩:=pC (e:=ti.elem) (z:=z2) (cap:=grownCap w n' 0 ti.elem) (st1:=st1) hs hf (fun b c hb=>by rw[←d3 b (by simp)];exact hb) d2 g6 c2 hcell.2 hvs' hnv' hl' (grownCap_ge w n' 0 _) (jv s2) s3 s4 s5 _ rfl
      exact⟨_,_,m',.inl (iC ho hat hax (by rw[hvx,ey];exact hr)),q1,q2,q3,q4⟩
     ·rename_i b' off len e he
      split at hrow
      ·rename_i cells0 hcells
       split at hrow
       ·rename_i hcc
        simp only[K5,Prod.mk.injEq] at hrow
        obtain⟨rfl,rfl,hcs⟩:=hrow
        obtain⟨rfl,rfl,hcl0⟩:=hcc
        rw[he,RV] at hvx
        obtain⟨rb,cap,hm,ex,hle,hroom⟩:=hvx
        obtain⟨hA,hAd⟩:∃ hA:Hf,hA=fun i=>if i=b' then some (cells0.take (len*te.size)) else st.h.get i:=⟨_,rfl⟩
        have hA1:hA b'=some (cells0.take (len*te.size)):=by rw[hAd];simp
        have hA2:∀ i,i≠b'→hA i=st.h.get i:=fun i hi=>by rw[hAd];simp[hi]
        obtain⟨hs2,ht2⟩:=hs.shrink (bT hcells).1 (bT hcells).2 hA1 hA2
        have hAM:=uS (bT hcells).2 (len*te.size)
        have hcl:(cells0.take (len*te.size)).length=len*te.size:=by rw[List.length_take];omega
        rw[hcs] at hA1 hAM hcl
        clear hcells hcs
        obtain⟨cells,hcx⟩:∃ c,c=cs:=⟨_,rfl⟩
        subst hcx
        obtain⟨c,ety,q2,q3,q4,q5⟩:=hs2.blk b' cells rb hA1 hAM hm
        have hroom':=hroom
        obtain⟨cr,er,fr,r1,r2⟩:=hroom'
        rw[q2] at r1;cases r1
        have hsub:∀ x c,st1.h.get x=some c→st.h.get x=some c:=fun x c hx=>by
         by_cases hxb:some x=some b'
         ·rw[d4 x hxb] at hx;cases hx
         ·rw[←d3 x hxb];exact hx
        by_cases hfit:len+n'≤cap
        ·
         have hmul:(len+n')*te.size≤cap*te.size:=Nat.mul_le_mul_right _ hfit
         have hadd:(len+n')*te.size=len*te.size+n'*te.size:=Nat.add_mul _ _ _
         have hr:(Builtin.append_ #[t,t] o.type #[a.eval x,a.eval y]).run P w=.ok (.slice (some ⟨rb,0,none⟩) (len+n') cap) (w.setRow rb (c.toList.take (len*te.size)++vs'++c.toList.drop (len*te.size+vs'.length)).toArray):=by
          have hf:=run_firstCells_some (P:=P) w te.size n' ad n' cp vs' hl' hmem
          have hst:=run_storeCells_at P rb (len*te.size) ety vs' 0 c w q2 (by rw[hl'];omega) h1c
          simp only[Nat.add_zero] at hst
          rw[ex,ey]
          simp[Builtin.append_,run_underlying h2,bR g1,←g4,Builtin.lenOf,hfit,hf,cR,hst]
         have hL:=vR (vs:=vs') (o:=len*te.size) q2 (by rw[hl'];omega)
         have hlen':=hvs'.length
         obtain⟨tl,tl1,tl2,tl3⟩:∃ tl:Hf,tl b'=some (cells++cs')∧(∀ i,i≠b'→tl i=st.h.get i)∧(∀ i,i≠b'→tl i=hA i):=⟨fun i=>if i=b' then some (cells++cs') else st.h.get i,by simp,fun i hi'=>by simp[hi'],fun i hi'=>by rw[hA2 i hi'];simp[hi']⟩
         obtain⟨a1,a2'⟩:=hs2.laid (cells':=cells++cs') (n:=0+cap*te.size) hm hA1 hAM tl1 tl3 hvs' (fun x hx=>List.all_eq_true.1 hcell.1 x hx) hL (by rw[List.length_append,hcl,hlen',hl'];omega) hroom (fun j=>by
          rw[List.getElem?_append,←hcl]
          split
          ·rw[if_neg (by omega)]
          ·split
           ·rfl
           ·rw[List.getElem?_eq_none (by omega),List.getElem?_eq_none (by omega)])
         have a2:=ht2.comp a2'
         have hnx:m st1.nx=none:=hf _ (by omega) (by omega)
         have hbn:b'≠st1.nx:=fun h=>by rw[←h,hm] at hnx;cases hnx
         obtain⟨b1,b2⟩:=a1.rename (h':=st'.h.get) hnx hm tl1 s3 (by rw[s4 b' hbn];exact d4 b' rfl) (fun i hi1 hi2=>by rw[s4 i hi1,d3 i (by simpa using hi2),tl2 i hi2])
         refine ⟨_,_,_,.inl (iC ho hat hax hr),?_,b1,a2.comp b2,fun x hx=>if_neg (by omega)⟩
         rw[RV]
         exact⟨rb,cap,by simp,rfl,hfit,(hroom.keep a2.grow).keep b2.grow⟩
        ·
         have hold:RVs m w cells (c.toList.take cells.length):=RVs.eH (by simp;omega) fun i av ha=>by
          have hil:=(List.getElem?_eq_some_iff.1 ha).1
          rw[List.getElem?_take,if_pos hil,Array.getElem?_toList]
          exact q4 i av ha
         have holdm:∀ j u,(c.toList.take cells.length)[j]?=some u→w.cell? ((⟨rb,0,none⟩:Addr).add j)=some u:=fun j u hu=>by
          rw[cR,Nat.zero_add]
          unfold World.cell?
          rw[q2]
          rw[List.getElem?_take] at hu
          split at hu
          ·simpa using hu
          ·cases hu
         have hr:=run_append_grow (P:=P) w t o.type ti.elem i2 z2 h2 g1 g3 ⟨rb,0,none⟩ len cap (c.toList.take cells.length) (by simp only[List.length_take,Array.length_toList,←g4];omega) holdm ad n' cp vs' (by rw[hl',g4]) hmem (by omega) (by omega)
          (growslice_fits (by omega) (hbytes _ c3))
         obtain⟨m',u1,u2,u3,u4⟩:=pC (e:=ti.elem) (z:=z2) (cap:=grownCap w (len+n') cap ti.elem) (n:=len+n') (st1:=st1) hs hf hsub d2 g6 c2 hcell.2 (hold.append hvs') (fun u hu=>by
          rcases List.mem_append.1 hu with hu|hu
          ·intro q hq
           obtain⟨j,hj,he'⟩:=List.getElem_of_mem hu
           have:c[j]?=some u:=by
            have hj':j<cells.length∧j<c.size:=by simpa [Nat.lt_min] using hj
            rw[List.getElem_take,Array.getElem_toList] at he'
            rw[←he',Array.getElem?_eq_getElem hj'.2]
           exact q5 j q (hq ▸ this)
          ·exact hnv' u hu) (by rw[List.length_append,hl',←hold.length,hcl,Nat.add_mul]) (grownCap_ge w _ _ _) (jv s2) s3 s4 s5 ((c.toList.take cells.length).toArray++vs'.toArray++Builtin.zeroCells z2.cells (grownCap w (len+n') cap ti.elem-(len+n'))) (by simp)
         exact⟨_,_,m',.inl (iC ho hat hax (by rw[ex,ey];exact hr)),u1,u2,u3,u4⟩
       ·cases hrow
      ·cases hrow
     ·cases hrow
    ·cases h
  ·cases h
 ·cases h
theorem nw {w:World} (t u ty e:TypeId) (i:TypeInfo) (z:Value) (ik kk:IntKind) (ht:P.underlying t=some (.slice e)) (hu:P.underlying u=some (.int ik)) (hi:P.info? e=some i) (hz:i.zero=some z)
  (n:Nat) (h0:0<n) (hn:n≤65536) (hb:n*i.bytes≤281474976710656) (hs:i.size≠0) :
  (Builtin.append_ #[t,u] ty #[.slice none 0 0,.int kk n]).run P w =
   .ok (.slice (some ⟨w.heap.size,0,none⟩) n (grownCap w n 0 e)) (w.drew.alloc (.cells (Builtin.zeroCells z.cells n++Builtin.zeroCells z.cells (grownCap w n 0 e-n)) e)):=by
 have hn0:n≠0:=by omega
 have h63':¬(9223372036854775807<(n:Int)):=by omega
 have h48':¬(281474976710656<Builtin.nextslicecap n 0*i.bytes):=by rw[nextslicecap_zero h0];omega
 have hw:IntKind.i64.wrap (n:Int)=n:=by
  unfold IntKind.wrap
  have e:(n:Int)%(2^IntKind.i64.bits:Int)=n:=by
   show (n:Int)%18446744073709551616=n
   omega
  simp only[e]
  rw[if_neg]
  rw[Bool.and_eq_true,decide_eq_true_iff]
  show ¬(_∧(n:Int) ≥ 9223372036854775808)
  omega
 have hneg:¬((n:Int)<0):=by omega
 have hbi:¬(281474976710656<(n:Int)*(i.bytes:Int)):=by
  have:((n*i.bytes:Nat):Int)≤281474976710656:=by omega
  rw[Int.natCast_mul] at this
  omega
 have hns:n*i.size≠0:=Nat.mul_ne_zero hn0 hs
 simp[Builtin.append_,run_underlying ht,run_underlying hu,sizeOf,typeInfo,zeroValue,hi,hz,Builtin.lenOf,Builtin.firstCells,asInt,asIntOf,hw,hneg,hbi,hn0,h63',h48',hns,Question.forced,newRow,grownCap]
theorem wK {args:Array Operand} {argTypes:Array TypeId} {t t':TypeId} {x y:Operand} {ti ti' te:TyI} {ik:IntKind} {n:Int} (ho:o.op=.call { callee:=.builtin .append,args,argTypes }) (hat:argTypes.toList=[t,t']) (hax:args.toList=[x,y])
  (ht:TyOK P t ti) (hk:ti.kind=.slice) (ht':TyOK P t' ti') (hk':ti'.kind=.int) (hte:TyOK P ti.elem te) (hx:ρ x=.nils) (hy:ρ y=.int ik n)
  (hc:0<n∧n≤65536∧te.bytes≤65536∧te.size≠0∧te.zero.length=te.size∧te.zero.all AV.cell=true) (h:(nk st (jX te.zero n.toNat) fun _ st'=>k (.sl st.nx 0 n.toNat te.size) st')=some r) :
  ∃ av st',k av st'=some r∧gP P ρ st o av st':=by
 obtain⟨i,d,z,h1,h2,h3,h4,h5,h6,h7,h8,h9,h10,_⟩:=ht.ex
 obtain⟨i2,d2,z2,g1,g2,g3,g4,g5,g6,_⟩:=hte.ex
 obtain⟨i3,d3,z3,f1,f2,f3,_⟩:=ht'.ex
 obtain rfl:=h10 hk
 obtain rfl:=(ht'.more _ f2).1 hk'
 obtain⟨c1,c3,c4,c5,c6,c7⟩:=hc
 obtain⟨st',s1,s2,s3,s4,s5,s6⟩:=fz h
 have hin:∀ u,u=x∨u=y→u∈o.op.operands:=fun u hu=>by
  simp only[ho,Op.operands,Call.operands]
  refine Array.mem_append.2 (.inr ?_)
  rw[←Array.mem_toList_iff,hax]
  simpa using hu
 have hzl:z2.cells.size=te.size:=by rw[←c6,g6];simp
 have hzp:0<te.zero.length:=by omega
 obtain⟨N,rfl⟩:∃ N:Nat,n=(N:Int):=⟨n.toNat,by omega⟩
 rw[Int.toNat_natCast] at *
 refine ⟨_,st',s1,cq (dV s4 s5 s6) fun a m w hO hs hf=>?_⟩
 have hvx:=hO x (hin x (.inl rfl))
 have hvy:=hO y (hin y (.inr rfl))
 rw[hx,RV] at hvx
 rw[hy,RV] at hvy
 have hrow:RVs m w (jX te.zero N) (Builtin.zeroCells z2.cells N).toList:=qy (m:=m) (w:=w) g6 hzp N
 have hnou:∀ u∈(Builtin.zeroCells z2.cells N).toList,∀ q,u≠.int .u64 q:=fun u hu q=>by
  obtain⟨j,hj,he⟩:=List.getElem_of_mem hu
  have hjl:j<N*z2.cells.size:=by simpa [Builtin.zeroCells] using hj
  have hget:(Builtin.zeroCells z2.cells N)[j]?=some u:=by
   rw[←Array.getElem?_toList,List.getElem?_eq_getElem hj,he]
  unfold Builtin.zeroCells at hget
  rw[lT _ (by omega) _ _ hjl] at hget
  exact pZ (m:=m) (w:=w) (by rw[←g6];exact c7) _ (by rw[Array.mem_toList_iff];exact Array.mem_of_getElem? hget) q
 have hlen:(Builtin.zeroCells z2.cells N).toList.length=N*te.size:=by rw[Array.length_toList,size_zeroCells,hzl]
 obtain⟨m',q1,q2,q3,q4⟩:=pC (e:=ti.elem) (z:=z2) (cap:=grownCap w N 0 ti.elem) (st1:=st) hs hf (fun b c hb=>hb) rfl g6 c6 c7 hrow hnou hlen (grownCap_ge w N 0 _) (jv s2) s3 s4 s5 _ rfl
 have hbytes:N*i2.bytes≤281474976710656:=by
  have:=Nat.mul_le_mul (show N≤65536 by omega) (show i2.bytes≤65536 by omega)
  omega
 refine ⟨_,_,m',.inl ?_,q1,q2,q3,q4⟩
 have e1:argTypes = #[t,t']:=Array.ext' (by simpa using hat)
 have e2:args = #[x,y]:=Array.ext' (by simpa using hax)
 have hr:=nw (P:=P) (w:=w) t t' o.type ti.elem i2 z2 ti'.ik ik h2 f2 g1 g3 N (by omega) (by omega) hbytes (by omega)
 subst e1 e2
 simp[execOp,ho,resolve,invoke,builtin,hvx,hvy,hr]
end
end Go.Sx
namespace Go.Sx
open LimbNum
variable [Unk] [Glob]
section
variable {P : Program} {E : Env} {ρ : Operand → AV} {st : Hp} {o : Oper} {β : Type} {k : AV → Hp → Option β} {r : β}
theorem FR {args:Array Operand} {argTypes:Array TypeId} {t t':TypeId} {x y:Operand} {ti te:TyI} {b off n e n':Nat} {cs:List AV} (ho:o.op=.call { callee:=.builtin .copy,args,argTypes }) (hat:argTypes.toList=[t,t']) (hax:args.toList=[x,y])
  (ht:TyOK P t ti) (hk:ti.kind=.slice) (hte:TyOK P ti.elem te) (hx:ρ x=.sl b off n e) (hel:gj st (ρ y) te.size=some (n',cs)) (hsz:e=te.size∧te.size≠0)
  (h:(Bo st b off (cs.take (Nat.min n' n*te.size)) fun st=>k (.int .i64 ((Nat.min n' n:Nat):Int)) st)=some r) :
  ∃ av st',k av st'=some r∧gP P ρ st o av st':=by
 obtain⟨i,d,z,h1,h2,h3,h4,h5,h6,h7,h8,h9,h10,_⟩:=ht.ex
 obtain⟨i2,d2,z2,g1,g2,g3,g4,g5,g6,_⟩:=hte.ex
 obtain rfl:=h10 hk
 have e1:argTypes = #[t,t']:=Array.ext' (by simpa using hat)
 have e2:args = #[x,y]:=Array.ext' (by simpa using hax)
 subst e1 e2
 obtain⟨cells,st',s1,s2,s3,s4,s5,s6,s7,s8⟩:=sA h
 refine ⟨_,st',s4,cq (dX s6 s7 s8 fun hb=>by omega) fun a m w hO hs hf=>?_⟩
 have hvx:=hO x (by simp[ho,Op.operands,Call.operands])
 have hvy:=hO y (by simp[ho,Op.operands,Call.operands])
 rw[hx,RV] at hvx
 obtain⟨rb,cap,hm,hvx,hcap,hroom⟩:=hvx
 have hfirst:∃ vs,(Builtin.lenOf (a.eval y)).run P w=.ok n' w∧(Builtin.firstCells i2.size (Nat.min n' n) (a.eval y)).run P w=.ok vs.toArray w∧RVs m w (cs.take (Nat.min n' n*te.size)) vs:=by
  unfold gj at hel
  split at hel
  ·rename_i hy
   simp only[K5,Prod.mk.injEq] at hel
   obtain⟨rfl,rfl⟩:=hel
   rw[hy,RV] at hvy
   exact⟨[],by simp[hvy,Builtin.lenOf],by simp[hvy,Builtin.firstCells],by simp[RVs]⟩
  ·rename_i b' o' n'' e' hy
   split at hel
   ·rename_i cells' hb'
    split at hel
    ·rename_i hle
     simp only[K5,Prod.mk.injEq] at hel
     obtain⟨rfl,rfl⟩:=hel
     rw[hy,RV] at hvy
     obtain⟨rb',cap',hm',hvy,hcap',hroom'⟩:=hvy
     have hmin:Nat.min n'' n*te.size≤n''*te.size:=Nat.mul_le_mul_right _ (Nat.min_le_left _ _)
     obtain⟨vs,q1,q2,_⟩:=mV (P:=P) hs (bT hb') hm' (o:=o') (n:=Nat.min n'' n*te.size) (by omega)
     refine ⟨vs,by simp[hvy,Builtin.lenOf],by rw[hvy];simp only[Builtin.firstCells];rw[←g4];exact q1,?_⟩
     rw[List.take_take,Nat.min_eq_left hmin]
     exact q2
    ·cases hel
   ·cases hel
  ·cases hel
 obtain⟨vs,f1,f2,f3⟩:=hfirst
 obtain⟨w',q1,q2,q3⟩:=vS (P:=P) hs s1 hm s2.2 s3 s5 s6 f3
 refine ⟨.int .i64 ((Nat.min n' n:Nat):Int),w',m,.inl ?_,kW _ _ _ _,q2,q3,fun _ _=>rfl⟩
 simp[execOp,ho,resolve,invoke,builtin,Builtin.copy_,run_underlying h2,hvx,f1,bR g1,f2,q1,goInt]
end
end Go.Sx
namespace Go.Sx
open LimbNum
variable [Unk] [Glob]
section
variable {P : Program} {E : Env} {ρ : Operand → AV} {st : Hp} {o : Oper} {β : Type} {k : AV → Hp → Option β} {r : β}
theorem AU (h:DE st k=some r):∃ st',k (.mp st.nx) st'=some r∧st'.h.get st.nx=some [.tup []]∧(∀ i,i≠st.nx→st'.h.get i=st.h.get i)∧st'.nx=st.nx+1∧st'.lo=st.lo:=by
 unfold DE at h
 obtain⟨t',h1,h2,h3⟩:=Tr.dy _ _ _ _ _ _ h
 simp only[aT] at h1
 exact⟨⟨t',st.nx+1,st.lo⟩,h1,h2,h3,rfl,rfl⟩
theorem sC {b:Nat} {es:List AV} (h:Hj st b es k=some r):∃ st',k .dead st'=some r∧st'.h.get b=some [.tup es]∧(∀ i,i≠b→st'.h.get i=st.h.get i)∧st'.nx=st.nx∧st'.lo=Nat.min st.lo b:=by
 unfold Hj at h
 rw[bS] at h
 obtain⟨t',h1,h2,h3⟩:=Tr.dy _ _ _ _ _ _ h
 simp only[aT] at h1
 exact⟨⟨t',st.nx,Nat.min st.lo b⟩,h1,h2,h3,rfl,rfl⟩
theorem pO {t:TypeId} {rs:Option Operand} (ho:o.op=.makeMap t rs) (hr:∀ (a:Act) (m:Nm) (w:World),jZ m w ρ a o→(Instr.makeMap t (rs.map a.eval)).run P w=.ok (.map (some w.heap.size)) (w.alloc (.map #[] 0)))
  (h:DE st k=some r):∃ av st',k av st'=some r∧gP P ρ st o av st':=by
 obtain⟨st',s1,s2,s3,s4,s5⟩:=AU h
 refine ⟨_,st',s1,cq (dV s3 s4 s5) fun a m w hO hs hf=>?_⟩
 obtain⟨q1,q2⟩:=hs.JB (hf st.nx (K6 _) (by omega)) s2 s3 (.map #[] 0) (.inr (.inl ⟨[],[],#[],0,rfl,rfl,by simp[RVs]⟩))
 refine ⟨.map (some w.heap.size),_,_,.inl ?_,?_,q1,q2,fun b hb=>if_neg (by omega)⟩
 ·simp[execOp,ho,hr a m w hO]
 ·rw[RV];exact⟨w.heap.size,by simp,rfl⟩
theorem tt {t:TypeId} (a:Act) (w:World):(Instr.makeMap t ((none:Option Operand).map a.eval)).run P w=.ok (.map (some w.heap.size)) (w.alloc (.map #[] 0)):=by
 simp[Instr.makeMap,newObj,Sem.run,Bind.bind,Sem.bind]
theorem tv {t:TypeId} {x:Operand} {ti:TyI} {i:IntKind} {n:Int} (ht:TyOK P t ti) (hk:ti.kind=.map) (a:Act) (w:World) (hx:a.eval x=.int i n) :
  (Instr.makeMap t ((some x).map a.eval)).run P w=.ok (.map (some w.heap.size)) (w.alloc (.map #[] 0)):=by
 have h2:=ht.mapk hk
 simp[Instr.makeMap,run_underlying h2,hx,asInt,asIntOf,newObj,Sem.run]
def JQ (m:Nm) (w:World):Option (Nat × AV)→Option (Nat × Value)→Prop
 | none,none=>True
 | some (j,a),some (j',v)=>j=j'∧RV m w a v
 | _,_=>False
theorem qA {t:TypeId} {d:TypeDesc} (hd:P.underlying t=some d) {u v:Value} {b:Bool} (h:Instr.sameNow d u v=some b) (D:Nat) (w:World):(Op.equalIn (D+1) t u v).run P w=.ok b w:=by
 unfold Instr.sameNow at h
 split at h
 ·rename_i k a k' b'
  split at h
  ·subst_vars
   simp only[K5] at h
   subst h
   simp[Op.equalIn,run_underlying hd]
  ·cases h
 ·simp only[K5] at h
  subst h
  simp[Op.equalIn,run_underlying hd]
 ·simp only[K5] at h
  subst h
  simp[Op.equalIn,run_underlying hd]
 ·cases h
theorem yx (hty:∀ t ti,E.ty.get t=some ti→TyOK P t ti) {kt:TypeId} {d:TypeDesc} (hd:P.underlying kt=some d) {m:Nm} {w:World} {kk:AV} {kv:Value} (hk:RV m w kk kv) :
  ∀ (es:List AV) (en:List MapEntry) (i:Nat) (q:Option (Nat × AV)),RVs m w es (en.map pw)→lO (eqA E 8 kt) kk es i=some q →
   ∃ q',(Instr.findAsking kt kv en i).run P w=.ok q' w∧JQ m w q q'∧∀ p,Instr.findNow d kv en i=some p→p=q'
 | [],en,i,q,he,h=>by
  have:en=[]:=by
   have:=he.length
   simpa using this.symm
  subst this
  simp only[lO,K5] at h
  subst h
  exact⟨none,by simp[Instr.findAsking],trivial,fun p hp=>by simp only[Instr.findNow,K5] at hp;exact hp.symm⟩
 | e::es,[],i,q,he,h=>by
  have:=he.length
  simp at this
 | e::es,x::en,i,q,he,h=>by
  rw[List.map_cons,RVs] at he
  obtain⟨v,l,he1,he2,he3⟩:=he
  cases he1
  unfold lO at h
  split at h
  ·rename_i k' v'
   rw[RV] at he2
   obtain⟨l,hl1,hl2⟩:=he2
   obtain⟨rfl⟩:l=[x.key,x.val]:=by
    have:(#[x.key,x.val]:Array Value)=l.toArray:=by
     unfold pw at hl1
     exact Value.agg.inj hl1
    have:=congrArg Array.toList this
    simpa using this.symm
   rw[RVs] at hl2
   obtain⟨_,_,hh,hkey,hl3⟩:=hl2
   cases hh
   rw[RVs] at hl3
   obtain⟨_,_,hh,hval,_⟩:=hl3
   cases hh
   split at h
   ·rename_i hq
    have hr:=sV hty 8 kt kk k' true hq m w kv x.key hk hkey 10000 (by omega)
    simp only[K5] at h
    subst h
    refine ⟨some (i,x.val),?_,⟨rfl,hval⟩,fun p hp=>?_⟩
    ·simp[Instr.findAsking,jR hr]
    ·unfold Instr.findNow at hp
     split at hp
     ·simp only[K5] at hp;exact hp.symm
     ·rename_i hs
      have:=(qA hd hs 9999 w).symm.trans hr
      cases this
     ·cases hp
   ·rename_i hq
    have hr:=sV hty 8 kt kk k' false hq m w kv x.key hk hkey 10000 (by omega)
    obtain⟨q',h1,h2,h3⟩:=yx hty hd hk es en (i+1) q he3 h
    refine ⟨q',?_,h2,fun p hp=>?_⟩
    ·simp[Instr.findAsking,jR hr,h1]
    ·unfold Instr.findNow at hp
     split at hp
     ·rename_i hs
      have:=(qA hd hs 9999 w).symm.trans hr
      cases this
     ·exact h3 p hp
     ·cases hp
   ·cases h
  ·cases h
theorem kI (hty:∀ t ti,E.ty.get t=some ti→TyOK P t ti) {kt:TypeId} {d:TypeDesc} (hd:P.underlying kt=some d) {m:Nm} {w:World} {kk:AV} {kv:Value} (hk:RV m w kk kv) {es:List AV} {en:List MapEntry} {q:Option (Nat × AV)}
  (he:RVs m w es (en.map pw)) (h:lO (eqA E 8 kt) kk es 0=some q):∃ q',(Instr.findKey kt kv en).run P w=.ok q' w∧JQ m w q q':=by
 obtain⟨q',h1,h2,h3⟩:=yx hty hd hk es en 0 q he h
 refine ⟨q',?_,h2⟩
 unfold Instr.findKey
 simp only[Sem.run_bind,run_underlying hd,Result.andThen_ok]
 cases hf:Instr.findNow d kv en 0 with
 | none=>simpa using h1
 | some p=>rw[h3 p hf];simp
theorem py {α:Type} {w:World} {body:α→PUnit→Sem (ForInStep PUnit)}:∀ (l:List α),(∀ f∈l,(body f ⟨⟩).run P w=.ok (.yield ⟨⟩) w)→(forIn l ⟨⟩ body).run P w=.ok ⟨⟩ w
 | [],_=>by simp
 | f::l,h=>by
  rw[List.forIn_cons]
  simp only[Sem.run_bind,h f (by simp),Result.andThen_ok]
  exact py l fun g hg=>h g (by simp[hg])
theorem uK {α:Type} {w:World} {body:α→PUnit→Sem (ForInStep PUnit)} (l:List α) (h:∀ f∈l,(body f ⟨⟩).run P w=.ok (.yield ⟨⟩) w):((forIn l ⟨⟩ body).run P w).andThen (fun _ w'=>(pure ():Sem Unit).run P w')=.ok () w:=by
 rw[py l h]
 rfl
theorem xo (hty:∀ t ti,E.ty.get t=some ti→TyOK P t ti):∀ (d:Nat) (t:TypeId) (x:AV),xn E d t x=true→∀ (m:Nm) (w:World) (v:Value),RV m w x v→∀ (D:Nat) (em:Bool),d≤D→(Instr.checkKey em D t v).run P w=.ok () w
 | 0,t,x,h=>by cases h
 | d+1,t,x,h=>by
  intro m w v hv D em hD
  obtain⟨D,rfl⟩:∃ D',D=D'+1:=⟨D-1,by omega⟩
  rw[xn] at h
  split at h
  ·cases h
  ·rename_i ti hti
   have ht:=hty _ _ hti
   obtain⟨i,de,z,h1,h2,h3,h4,h5,h6,h7,h8,h9,h10,h11⟩:=ht.ex
   obtain⟨m1,m2,m3,m4⟩:=ht.more de h2
   split at h
   ·rename_i b hk
    obtain rfl:=m3 hk
    rw[RV] at hv;subst hv
    simp[Instr.checkKey,run_underlying h2]
   ·rename_i ik n hk
    obtain rfl:=m1 hk
    rw[RV] at hv;subst hv
    simp[Instr.checkKey,run_underlying h2]
   ·rename_i s hk
    obtain rfl:=h11 hk
    rw[RV] at hv;subst hv
    simp[Instr.checkKey,run_underlying h2]
   ·rename_i xs hk
    obtain⟨fs,rfl,hfs⟩:=h8 hk
    rw[RV] at hv
    obtain⟨vs,rfl,hvs⟩:=hv
    simp only[Instr.checkKey,Sem.run_bind,run_underlying h2,Result.andThen_ok]
    rw[←Array.forIn_toList]
    refine uK _ fun f hf=>?_
    have hff:=List.all_eq_true.1 h (df P f) (by rw[hfs];exact List.mem_map.2 ⟨f,hf,rfl⟩)
    split at hff
    ·cases hff
    ·rename_i hs
     obtain⟨j,e,e1,e2,_,_,_⟩:=gU (P:=P) (fd:=f) rfl hs
     have e3:(df P f).1=f.offset:=by simp only[df,e1,e2]
     have ety:(df P f).2.1=f.type:=by simp only[df,e1,e2]
     have e4:(df P f).2.2.1=j.size:=by simp only[df,e1,e2]
     have e5:(df P f).2.2.2=ly e:=by simp only[df,e1,e2]
     rw[e3,e4,e5,ety] at hff
     split at hff
     ·rename_i x' hpx
      obtain⟨u,p1,p2⟩:=tG e1 e2 rfl rfl hpx hvs
      have ih:=xo hty d f.type x' hff m w u p2 D em (by omega)
      by_cases hn : f.name = "_"
      ·simp[hn]
      ·simp[hn,p1,ih]
     ·cases hff
   ·cases h
theorem yv {a b:AV} (h:FZ a b=true):∀ (m m':Nm) (w w':World) (u v:Value),RV m w a u→RV m' w' b v→u=v∧∀ n,Instr.sameBits n u u=true:=by
 intro m m' w w' u v hu hv
 cases a<;>cases b<;>simp only[FZ,Bool.false_eq_true] at h
 ·rw[RV] at hu hv;subst hu hv
  have:=eq_of_beq h
  subst this
  exact⟨rfl,fun n=>by cases n<;>simp[Instr.sameBits]⟩
 ·rw[RV] at hu hv;subst hu hv
  simp only[Bool.and_eq_true,decide_eq_true_eq] at h
  obtain⟨rfl,rfl⟩:=h
  exact⟨rfl,fun n=>by cases n<;>simp[Instr.sameBits]⟩
 ·rw[RV] at hu hv;subst hu hv
  have:=eq_of_beq h
  subst this
  exact⟨rfl,fun n=>by cases n<;>simp[Instr.sameBits,beq_toListBytes]⟩
theorem yw:∀ (a b:List AV),Ga a b=true→∀ (m m':Nm) (w w':World) (us vs:List Value),RVs m w a us→RVs m' w' b vs→us=vs∧∀ n,((us.zip us).all fun (x,y)=>Instr.sameBits n x y)=true
 | [],[],_,m,m',w,w',us,vs,hu,hv=>by
  rw[RVs] at hu hv;subst hu hv
  exact⟨rfl,fun n=>rfl⟩
 | [],_::_,h,_,_,_,_,_,_,_,_=>by cases h
 | _::_,[],h,_,_,_,_,_,_,_,_=>by cases h
 | a::l,b::l',h,m,m',w,w',us,vs,hu,hv=>by
  simp only[Ga,Bool.and_eq_true] at h
  rw[RVs] at hu hv
  obtain⟨u,us,rfl,u1,u2⟩:=hu
  obtain⟨v,vs,rfl,v1,v2⟩:=hv
  obtain⟨rfl,q⟩:=yv h.1 m m' w w' u v u1 v1
  obtain⟨rfl,q'⟩:=yw l l' h.2 m m' w w' us vs u2 v2
  exact⟨rfl,fun n=>by simp only[List.zip_cons_cons,List.all_cons,q n,q' n,Bool.and_self]⟩
theorem Jh {a b:AV} (h:eqP a b=true) (m m':Nm) (w w':World) (u v:Value) (hu:RV m w a u) (hv:RV m' w' b v):u=v∧Instr.sameBits 10000 u v=true:=by
 unfold eqP at h
 split at h
 ·rw[RV] at hu hv
  obtain⟨us,rfl,hu⟩:=hu
  obtain⟨vs,rfl,hv⟩:=hv
  obtain⟨rfl,q⟩:=yw _ _ h m m' w w' us vs hu hv
  refine ⟨rfl,?_⟩
  show Instr.sameBits (9999+1) _ _=true
  simp only[Instr.sameBits,beq_self_eq_true,Bool.true_and]
  exact q 9999
 ·obtain⟨rfl,q⟩:=yv h m m' w w' u v hu hv
  exact⟨rfl,q 10000⟩
theorem fS {w:World} {rb:Nat} {en:Array MapEntry} {ck:Nat} (h:w.heap[rb]?=some (.map en ck)):(getObj rb).run P w=.ok (.map en ck) w:=by
 unfold getObj
 simp[Sem.run,h]
theorem qv {w:World} {rb:Nat} {en:Array MapEntry} {ck:Nat} (h:w.heap[rb]?=some (.map en ck)) (ob:Obj):(setObj rb ob).run P w=.ok () { w with heap:=w.heap.setIfInBounds rb ob }:=by
 unfold setObj
 simp[Sem.run,h]
theorem vt {m:Nm} {w:World} {st st':Hp} {b rb:Nat} {es es' l:List AV} {en en':Array MapEntry} {ck ck':Nat} (hs:RS m w st.h.get) (hb:st.h.get b=some (.tup es::l)) (hm:m b=some rb) (hw:w.heap[rb]?=some (.map en ck))
  (hget:st'.h.get b=some [.tup es']) (hoth:∀ i,i≠b→st'.h.get i=st.h.get i) (he:RVs m w es' (en'.toList.map pw)) :
  RS m { w with heap:=w.heap.setIfInBounds rb (.map en' ck') } st'.h.get∧To m st.h.get w m st'.h.get { w with heap:=w.heap.setIfInBounds rb (.map en' ck') }:=by
 have hlt:=eR hw
 have hself:(w.heap.setIfInBounds rb (.map en' ck'))[rb]?=some (.map en' ck'):=by simp[hlt]
 have hne:∀ k,k≠rb→(w.heap.setIfInBounds rb (.map en' ck'))[k]?=w.heap[k]?:=fun k hk=>by rw[Array.getElem?_setIfInBounds_ne (by omega)]
 have hg:Grow w { w with heap:=w.heap.setIfInBounds rb (.map en' ck') }:=⟨by simp,fun k c e f hk=>by
  by_cases hkr:k=rb
  ·subst hkr;rw[hw] at hk;cases hk
  ·exact⟨c,f,by show (w.heap.setIfInBounds rb _)[k]?=_;rw[hne k hkr];exact hk,rfl⟩⟩
 have hu:U64 w { w with heap:=w.heap.setIfInBounds rb (.map en' ck') }:=fun a n ha=>by
  unfold World.cell? at ha ⊢
  by_cases hab:a.block=rb
  ·rw[hab,hw] at ha
   simp at ha
  ·show (match (w.heap.setIfInBounds rb _)[a.block]? with|some (.cells c _ _)=>_|_=>_)=_
   rw[hne _ hab];exact ha
 have hdom:∀ x,st'.h.get x≠none→st.h.get x≠none:=fun x hx'=>by
  by_cases hxb:x=b
  ·subst hxb;rw[hb];simp
  ·rwa [←hoth x hxb]
 have hto:To m st.h.get w m st'.h.get { w with heap:=w.heap.setIfInBounds rb (.map en' ck') }:=
  ⟨Ext.rfl' _,hg,hu,⟨rfl,rfl,rfl⟩,fun k hk hn=>hne k fun hkr=>by subst hkr;exact hn b (by rw[hb];simp) hm,fun x y hx hmx=>.inr ⟨x,hdom x hx,hmx⟩⟩
 refine ⟨⟨fun x cs y hx hmx=>?_,fun x y z hx hy hmx hmy=>hs.inj x y z (hdom x hx) (hdom y hy) hmx hmy,hs.glob.to hto⟩,hto⟩
 by_cases hxb:x=b
 ·subst hxb
  rw[hget] at hx;cases hx
  rw[hm] at hmx;cases hmx
  exact⟨_,hself,.inr (.inl ⟨es',[],en',ck',rfl,rfl,hto.rvs he⟩)⟩
 ·rw[hoth x hxb] at hx
  obtain⟨ob,q2,q3⟩:=hs.obj x cs y hx hmx
  have hr:y≠rb:=fun hy=>hxb (hs.inj x b rb (by rw[hx];simp) (by rw[hb];simp) (hy ▸ hmx) hm)
  exact⟨ob,by show (w.heap.setIfInBounds rb _)[y]?=_;rw[hne y hr];exact q2,q3.to hto⟩
theorem sH (hty:∀ t ti,E.ty.get t=some ti→TyOK P t ti) {t:TypeId} {x y z:Operand} (ho:o.op=.mapUpdate t x y z∨o.op=.insert t x y z) (h:oX E st t (ρ x) (ρ y) (ρ z) k=some r) :
  ∃ av st',k av st'=some r∧gP P ρ st o av st':=by
 have hex:∀ (a:Act) (w:World),(execOp a.eval o).run P w=((Instr.mapUpdate t (a.eval x) (a.eval y) (a.eval z)).run P w).andThen fun _ w'=>.ok .skip w':=fun a w=>by
  rcases ho with ho|ho<;>simp[execOp,ho]
 have hops:∀ u,u=x∨u=y∨u=z→u∈o.op.operands:=fun u hu=>by
  rcases ho with ho|ho<;>(rw[ho];simp only[Op.operands];rcases hu with rfl|rfl|rfl<;>simp)
 unfold oX at h
 split at h
 ·rename_i ti b hti hx
  split at h
  ·rename_i hk
   have hmap:=(hty _ _ hti).mapk hk
   split at h
   ·rename_i es hes
    obtain⟨hlt,l,hb⟩:=fP hes
    split at h
    ·rename_i hkey
     have hkd:∃ d,P.underlying ti.len=some d:=by
      rw[xn] at hkey
      split at hkey
      ·cases hkey
      ·obtain⟨_,d,_,_,h2,_⟩:=(hty _ _ ‹_›).ex
       exact⟨d,h2⟩
     obtain⟨d,hd⟩:=hkd
     have common:∀ (a:Act) (m:Nm) (w:World),jZ m w ρ a o→RS m w st.h.get→∃ rb en ck,m b=some rb∧a.eval x=.map (some rb)∧w.heap[rb]?=some (.map en ck)∧RVs m w es (en.toList.map pw)∧(Instr.checkKey false 10000 ti.len (a.eval y)).run P w=.ok () w:=fun a m w hO hs=>by
      have hv:=hO x (hops x (.inl rfl))
      rw[hx,RV] at hv
      obtain⟨rb,hm,hv⟩:=hv
      obtain⟨en,ck,q1,q2⟩:=hs.mp b es l rb hb hm
      exact⟨rb,en,ck,hm,hv,q1,q2,xo hty 8 ti.len (ρ y) hkey m w _ (hO y (hops y (.inr (.inl rfl)))) 10000 false (by omega)⟩
     split at h
     ·rename_i hf
      obtain⟨st',s1,s2,s3,s4,s5⟩:=sC h
      refine ⟨_,st',s1,cq (dX s3 s4 s5 fun hb'=>by omega) fun a m w hO hs hfr=>?_⟩
      obtain⟨rb,en,ck,hm,hv,q1,q2,q3⟩:=common a m w hO hs
      have hky:=hO y (hops y (.inr (.inl rfl)))
      have hkz:=hO z (hops z (.inr (.inr rfl)))
      obtain⟨q',f1,f2⟩:=kI hty hd hky q2 hf
      cases q' with
      | some p=>cases f2
      | none=>
       obtain⟨g1,g2⟩:=vt (ck':=ck+1) (en':=en.push { key:=a.eval y,val:=a.eval z,born:=ck }) hs hb hm q1 s2 s3 (by
        rw[Array.toList_push,List.map_append]
        refine q2.append ?_
        rw[List.map_cons,List.map_nil,RVs]
        refine ⟨_,[],rfl,?_,by rw[RVs]⟩
        rw[RV]
        exact⟨[a.eval y,a.eval z],rfl,by rw[RVs];exact⟨_,_,rfl,hky,by rw[RVs];exact⟨_,_,rfl,hkz,by rw[RVs]⟩⟩⟩)
       refine ⟨undef,_,m,.inr ⟨?_,rfl⟩,me _ _ _,g1,g2,fun _ _=>rfl⟩
       rw[hex]
       simp[Instr.mapUpdate,run_underlying hmap,hv,fS q1,q3,f1,qv q1]
     ·rename_i i v hf
      split at h
      ·rename_i k' v' hn
       split at h
       ·rename_i hp
        obtain⟨st',s1,s2,s3,s4,s5⟩:=sC h
        refine ⟨_,st',s1,cq (dX s3 s4 s5 fun hb'=>by omega) fun a m w hO hs hfr=>?_⟩
        obtain⟨rb,en,ck,hm,hv,q1,q2,q3⟩:=common a m w hO hs
        have hky:=hO y (hops y (.inr (.inl rfl)))
        have hkz:=hO z (hops z (.inr (.inr rfl)))
        obtain⟨q',f1,f2⟩:=kI hty hd hky q2 hf
        cases q' with
        | none=>cases f2
        | some p=>
         obtain⟨j,pv⟩:=p
         obtain⟨rfl,f3⟩:=f2
         rw[kS] at hn
         obtain⟨ev,e1,e2⟩:=q2.get hn
         rw[List.getElem?_map] at e1
         cases hen:en.toList[i]? with
         | none=>rw[hen] at e1;cases e1
         | some ent=>
          rw[hen] at e1
          simp only[Option.map_some,K5] at e1
          subst e1
          have hen':en[i]?=some ent:=by rw[←Array.getElem?_toList];exact hen
          rw[RV] at e2
          obtain⟨l2,hl1,hl2⟩:=e2
          obtain⟨rfl⟩:l2=[ent.key,ent.val]:=by
           have:(#[ent.key,ent.val]:Array Value)=l2.toArray:=by
            unfold pw at hl1
            exact Value.agg.inj hl1
           have:=congrArg Array.toList this
           simpa using this.symm
          rw[RVs] at hl2
          obtain⟨_,_,hh,hkey',_⟩:=hl2
          cases hh
          obtain⟨hsame1,hsame2⟩:=Jh hp m m w w _ _ hkey' hky
          have hstay:(Instr.keyThatStays ent.key (a.eval y)).run P w=.ok (a.eval y) w:=by simp[Instr.keyThatStays,hsame2]
          obtain⟨g1,g2⟩:=vt (ck':=ck) (en':=en.modify i fun e=>{ e with key:=a.eval y,val:=a.eval z }) hs hb hm q1 s2 s3 (by
           have:(en.modify i fun e=>{ e with key:=a.eval y,val:=a.eval z }).toList.map pw=(en.toList.map pw).set i (.agg #[a.eval y,a.eval z]):=by
            apply List.ext_getElem?
            intro j
            rw[List.getElem?_map,Array.getElem?_toList,Array.getElem?_modify,List.getElem?_set,List.getElem?_map,Array.getElem?_toList]
            by_cases hij:i=j
            ·subst hij
             have hil:i<en.size:=(Array.getElem?_eq_some_iff.1 hen').1
             simp[hen',pw,hil]
            ·simp[hij]
           rw[this]
           refine q2.set i ?_
           rw[RV]
           exact⟨[a.eval y,a.eval z],rfl,by rw[RVs];exact⟨_,_,rfl,hky,by rw[RVs];exact⟨_,_,rfl,hkz,by rw[RVs]⟩⟩⟩)
          refine ⟨undef,_,m,.inr ⟨?_,rfl⟩,me _ _ _,g1,g2,fun _ _=>rfl⟩
          rw[hex]
          simp[Instr.mapUpdate,run_underlying hmap,hv,fS q1,q3,f1,qv q1,hen',hstay]
       ·cases h
      ·cases h
     ·cases h
    ·cases h
   ·cases h
  ·cases h
 ·cases h
theorem sn (b:Nat) (h:Hf):only (some b) h b=h b:=by simp[only]
theorem IF {te:TyI} {t:TypeId} {i:TypeInfo} {z:Value} {za:AV} (ht:TyOK P t te) (h1:P.info? t=some i) (h3:i.zero=some z) (hz:Fj te=some za) (m:Nm) (w:World):RV m w za z:=by
 obtain⟨i',d,z',g1,g2,g3,g4,g5,g6,g7,_⟩:=ht.ex
 rw[h1] at g1;cases g1
 rw[h3] at g3;cases g3
 have hzf:=ht.zform i z h1 h3
 have hcells:RVs m w te.zero z.cells.toList:=by
  rw[g6]
  exact RVs.eH (by simp) fun j a ha=>by
   rw[List.getElem?_map] at ha
   cases hj:z.cells.toList[j]? with
   | none=>rw[hj] at ha;cases ha
   | some v=>
    rw[hj] at ha
    simp only[Option.map_some,K5] at ha
    subst ha
    exact⟨v,rfl,jT m w v⟩
 unfold Fj at hz
 split at hz
 ·rename_i hag
  cases hz
  rw[hzf.1 hag,RV]
  exact⟨z.cells.toList,by simp,hcells⟩
 ·rename_i v hag hzv
  cases hz
  rw[hzv,hzf.2 hag,RVs] at hcells
  obtain⟨v',l,e1,e2,_⟩:=hcells
  simp only[List.cons.injEq] at e1
  rw[e1.1];exact e2
 ·cases hz
theorem AQ (hty:∀ t ti,E.ty.get t=some ti→TyOK P t ti) {t:TypeId} {x y:Operand} {ok:Bool} (ho:o.op=.lookup t x y ok) (h:yK E st t (ρ x) (ρ y) ok k=some r) :
  ∃ av,k av st=some r∧aY P ρ st.h.get o av:=by
 unfold yK at h
 split at h
 ·rename_i ti hti
  split at h
  ·rename_i hk
   have hmap:=(hty _ _ hti).mapk hk
   split at h
   ·rename_i es hes
    split at h
    ·rename_i hkey
     have hkd:∃ d,P.underlying ti.len=some d:=by
      rw[xn] at hkey
      split at hkey
      ·cases hkey
      ·obtain⟨_,d,_,_,h2,_⟩:=(hty _ _ ‹_›).ex
       exact⟨d,h2⟩
     obtain⟨d,hd⟩:=hkd
     have common:∀ (a:Act) (m:Nm) (w:World),jZ m w ρ a o→RS m w (only (ie ρ o) st.h.get)→∀ q,lO (eqA E 8 ti.len) (ρ y) es 0=some q →
       ∃ q',JQ m w q q'∧∀ c:Value × Bool,(match q' with|some (_,v)=>pure (v,true)|none=>(do pure (←zeroValue ti.elem,false)):Sem (Value × Bool)).run P w=.ok c w →
        (execOp a.eval o).run P w=.ok (.value (if ok then .tuple #[c.1,.bool c.2] else c.1)) w:=by
      intro a m w hO hs q hq
      have hv:=hO x (by simp[ho,Op.operands])
      have hky:=hO y (by simp[ho,Op.operands])
      have hck:∀ em,(Instr.checkKey em 10000 ti.len (a.eval y)).run P w=.ok () w:=fun em=>xo hty 8 ti.len (ρ y) hkey m w _ hky 10000 em (by omega)
      split at hes
      ·rename_i b hx
       obtain⟨hlt,l,hb⟩:=fP hes
       have hrd:ie ρ o=some b:=by unfold ie;rw[ho];simp only[hx]
       rw[hrd] at hs
       rw[hx,RV] at hv
       obtain⟨rb,hm,hv⟩:=hv
       obtain⟨en,ck,q1,q2⟩:=hs.mp b es l rb (by rw[sn];exact hb) hm
       obtain⟨q',f1,f2⟩:=kI hty hd hky q2 hq
       refine ⟨q',f2,fun c hc=>?_⟩
       cases q' with
       | none=>
        simp only at hc
        simp only[execOp,ho,Sem.run_bind,Instr.lookup,run_underlying hmap,Result.andThen_ok,hv,fS q1,Sem.run_pure,hck,f1]
        simp only[Sem.run_bind,Sem.run_pure] at hc
        cases hz:(zeroValue ti.elem).run P w with
        | ok z w'=>
         rw[hz] at hc
         simp only[Result.andThen_ok,Result.ok.injEq] at hc
         obtain⟨rfl,rfl⟩:=hc
         simp
        | halt hh w'=>rw[hz] at hc;simp[Result.andThen] at hc
       | some p=>
        obtain⟨j,v⟩:=p
        simp only[Sem.run_pure,Result.ok.injEq,and_true] at hc
        subst hc
        simp[execOp,ho,Instr.lookup,run_underlying hmap,hv,fS q1,hck,f1]
      ·rename_i hx
       cases hes
       rw[hx,RV] at hv
       simp only[lO,K5] at hq
       subst hq
       have f1:(Instr.findKey ti.len (a.eval y) []).run P w=.ok none w:=by simp[Instr.findKey,run_underlying hd,Instr.findNow]
       refine ⟨none,trivial,fun c hc=>?_⟩
       simp only at hc
       simp only[execOp,ho,Sem.run_bind,Instr.lookup,run_underlying hmap,Result.andThen_ok,hv,Sem.run_pure,hck,f1]
       simp only[Sem.run_bind,Sem.run_pure] at hc
       cases hz:(zeroValue ti.elem).run P w with
       | ok z w'=>
        rw[hz] at hc
        simp only[Result.andThen_ok,Result.ok.injEq] at hc
        obtain⟨rfl,rfl⟩:=hc
        simp
       | halt hh w'=>rw[hz] at hc;simp[Result.andThen] at hc
      ·cases hes
     split at h
     ·rename_i hf
      split at h
      ·rename_i te hte
       split at h
       ·rename_i z hz
        obtain⟨i2,d2,z2,g1,g2,g3,_⟩:=(hty _ _ hte).ex
        have hzv:=fun m w=>IF (hty _ _ hte) g1 g3 hz m w
        split at h
        ·refine ⟨_,h,fun a m w hO hs=>?_⟩
         obtain⟨q',f1,f2⟩:=common a m w hO hs none hf
         cases q' with
         | some p=>cases f1
         | none=>
          refine ⟨_,f2 (z2,false) (by simp[qw g1 g3]),?_⟩
          simp only[if_true]
          rw[RV]
          exact⟨[z2,.bool false],rfl,by rw[RVs];exact⟨_,_,rfl,hzv m w,by rw[RVs];exact⟨_,_,rfl,ft _ _ _,by rw[RVs]⟩⟩⟩
        ·refine ⟨_,h,fun a m w hO hs=>?_⟩
         obtain⟨q',f1,f2⟩:=common a m w hO hs none hf
         cases q' with
         | some p=>cases f1
         | none=>exact⟨_,f2 (z2,false) (by simp[qw g1 g3]),hzv m w⟩
       ·cases h
      ·cases h
     ·rename_i i v hf
      split at h
      ·refine ⟨_,h,fun a m w hO hs=>?_⟩
       obtain⟨q',f1,f2⟩:=common a m w hO hs _ hf
       cases q' with
       | none=>cases f1
       | some p=>
        obtain⟨j,v'⟩:=p
        refine ⟨_,f2 (v',true) (by simp),?_⟩
        simp only[if_true]
        rw[RV]
        exact⟨[v',.bool true],rfl,by rw[RVs];exact⟨_,_,rfl,f1.2,by rw[RVs];exact⟨_,_,rfl,ft _ _ _,by rw[RVs]⟩⟩⟩
      ·refine ⟨_,h,fun a m w hO hs=>?_⟩
       obtain⟨q',f1,f2⟩:=common a m w hO hs _ hf
       cases q' with
       | none=>cases f1
       | some p=>
        obtain⟨j,v'⟩:=p
        exact⟨_,f2 (v',true) (by simp),f1.2⟩
     ·cases h
    ·cases h
   ·cases h
  ·cases h
 ·cases h
theorem Jt {t:TypeId} {x:Operand} {ti:TyI} {b:Nat} {es:List AV} {args:Array Operand} {argTypes:Array TypeId} (ho:o.op=.call { callee:=.builtin .len,args,argTypes }) (ht:TyOK P t ti)
  (ha:argTypes[0]?=some t) (hx:args[0]?=some x) (hk:ti.kind=.map) (hv:ρ x=.mp b) (hes:sd st b=some es):aY P ρ st.h.get o (.int .i64 ((es.length:Nat):Int)):=by
 have hmap:=ht.mapk hk
 obtain⟨hlt,l,hb⟩:=fP hes
 have hrd:ie ρ o=some b:=by unfold ie;rw[ho];simp only[hx,hv]
 intro a m w hO hs
 have hev:=hO x (by simp only[ho,Op.operands,Call.operands];exact Array.mem_append.2 (.inr (Array.mem_of_getElem? hx)))
 rw[hv,RV] at hev
 obtain⟨rb,hm,hev⟩:=hev
 rw[hrd] at hs
 obtain⟨en,ck,q1,q2⟩:=hs.mp b es l rb (by rw[sn];exact hb) hm
 have hlen:es.length=en.size:=by
  have:=q2.length
  simpa using this
 refine ⟨.int .i64 ((es.length:Nat):Int),?_,by rw[RV]⟩
 simp[execOp,ho,resolve,invoke,builtin,Builtin.len_,ha,hx,run_underlying hmap,hev,goInt,fS q1,hlen]
theorem Dk {t:TypeId} {x:Operand} {ti:TyI} {args:Array Operand} {argTypes:Array TypeId} (ho:o.op=.call { callee:=.builtin .len,args,argTypes }) (ht:TyOK P t ti)
  (ha:argTypes[0]?=some t) (hx:args[0]?=some x) (hk:ti.kind=.map) (hv:ρ x=.nilm):aY P ρ st.h.get o (.int .i64 0):=by
 have hmap:=ht.mapk hk
 intro a m w hO hs
 have hev:=hO x (by simp only[ho,Op.operands,Call.operands];exact Array.mem_append.2 (.inr (Array.mem_of_getElem? hx)))
 rw[hv,RV] at hev
 refine ⟨.int .i64 0,?_,by rw[RV]⟩
 simp[execOp,ho,resolve,invoke,builtin,Builtin.len_,ha,hx,run_underlying hmap,hev,goInt]
theorem GA {t:TypeId} {x:Operand} {ti:TyI} {n:Nat} {args:Array Operand} {argTypes:Array TypeId} (ho:o.op=.call { callee:=.builtin .len,args,argTypes }) (ht:TyOK P t ti)
  (ha:argTypes[0]?=some t) (hx:args[0]?=some x) (hk:ti.kind=.slice) (hv:ρ x=.big n):aY P ρ st.h.get o (.int .i64 ((szL n:Nat):Int)):=by
 obtain⟨i1,d,z,h1,h2,h3,h4,h5,h6,h7,h8,h9,h10,h11⟩:=ht.ex
 obtain rfl:=h10 hk
 intro a m w hO hs
 have hev:=hO x (by simp only[ho,Op.operands,Call.operands];exact Array.mem_append.2 (.inr (Array.mem_of_getElem? hx)))
 rw[hv,RV] at hev
 obtain⟨ad,c,hev,_⟩:=hev
 refine ⟨.int .i64 ((szL n:Nat):Int),?_,by rw[RV]⟩
 rw[EW]
 simp[execOp,ho,resolve,invoke,builtin,Builtin.len_,ha,hx,run_underlying h2,hev,goInt]
end
end Go.Sx
namespace Go.Sx
open LimbNum
variable [Unk] [Glob]
section
variable {P : Program} {E : Env} {ρ : Operand → AV} {st : Hp} {o : Oper} {β : Type} {k : AV → Hp → Option β} {r : β}
theorem ax {o':Op} (ho:o.op=o') (hk:kd o'=0) (h:∃ av,k av st=some r∧aY P ρ st.h.get o av):∃ av st',k av st'=some r∧Fp P ρ st o av st':=by
 obtain⟨av,h1,h2⟩:=h
 exact⟨av,st,h1,fun _=>⟨rfl,h2⟩,fun hn=>absurd (by rw[ho];exact hk) hn⟩
theorem cD {o':Op} (ho:o.op=o') (hk:kd o'≠0) (h:∃ av st',k av st'=some r∧gP P ρ st o av st'):∃ av st',k av st'=some r∧Fp P ρ st o av st':=by
 obtain⟨av,st',h1,h2⟩:=h
 exact⟨av,st',h1,fun hn=>absurd (by rw[←ho];exact hn) hk,fun _=>h2⟩
theorem IY (hty:∀ t ti,E.ty.get t=some ti→TyOK P t ti) (h:aop E ρ st o k=some r):∃ av st',k av st'=some r∧Fp P ρ st o av st':=by
 unfold aop at h
 split at h
 ·rename_i x ho
  rw[gV] at h
  exact ax ho rfl ⟨_,h,yR (.inl ho)⟩
 ·rename_i x ho
  rw[gV] at h
  exact ax ho rfl ⟨_,h,yR (.inr ho)⟩
 ·rename_i c x y ho
  unfold IK at h
  split at h
  ·rw[gV] at h
   exact ax ho rfl ⟨_,h,zc (b:=true) ho ‹_›⟩
  ·rw[gV] at h
   exact ax ho rfl ⟨_,h,zc (b:=false) ho ‹_›⟩
  ·cases h
 ·rename_i t ho
  unfold DK at h
  split at h
  ·exact cD ho (by simp[kd]) (Ci ho (hty _ _ ‹_›) h)
  ·cases h
 ·rename_i t x ho
  unfold KF at h
  split at h
  ·exact cD ho (by simp[kd]) (Jf ho ‹_› h)
  ·cases h
 ·rename_i t x ho
  unfold DP at h
  split at h
  ·exact ax ho rfl (GF ho (hty _ _ ‹_›) ‹_› h)
  ·split at h
   ·exact ax ho rfl (GC ho (hty _ _ ‹_›) ‹_› ‹_› h)
   ·cases h
  ·cases h
 ·rename_i t p x ho
  unfold DQ at h
  split at h
  ·split at h
   ·exact cD ho (by simp[kd]) (EJ ho (hty _ _ ‹_›) ‹_› ‹_› ‹_› h)
   ·cases h
  ·cases h
 ·rename_i s x f ho
  unfold qf at h
  split at h
  ·split at h
   ·split at h
    ·split at h
     ·cases h
     ·rw[aT] at h
      exact ax ho rfl ⟨_,h,sY ho (hty _ _ ‹_›) ‹_› ‹_› ‹_› ‹_›⟩
    ·cases h
   ·cases h
  ·split at h
   ·split at h
    ·split at h
     ·cases h
     ·rw[aT] at h
      exact ax ho rfl ⟨_,h,sX ho (hty _ _ ‹_›) ‹_› ‹_› ‹_› ‹_›⟩
    ·cases h
   ·cases h
  ·cases h
 ·rename_i s x f ho
  unfold DN at h
  split at h
  ·split at h
   ·split at h
    ·split at h
     ·cases h
     ·exact ax ho rfl (CU ho (hty _ _ ‹_›) ‹_› ‹_› ‹_› ‹_› h)
    ·cases h
   ·cases h
  ·cases h
 ·rename_i t x i ho
  unfold qg at h
  split at h
  ·split at h
   ·split at h
    ·rw[aT] at h
     exact ax ho rfl ⟨_,h,tg ho (hty _ _ ‹_›) (hty _ _ ‹_›) ‹_› ‹_› ‹_› ‹_›⟩
    ·cases h
   ·split at h
    ·rw[aT] at h
     exact ax ho rfl ⟨_,h,rn ho (hty _ _ ‹_›) (hty _ _ ‹_›) ‹_› ‹_› ‹_› ‹_›⟩
    ·cases h
   ·split at h
    ·rw[aT] at h
     exact ax ho rfl ⟨_,h,tf ho (hty _ _ ‹_›) (hty _ _ ‹_›) ‹_› ‹_› ‹_› ‹_›⟩
    ·cases h
   ·cases h
  ·cases h
 ·rename_i t x i ho
  unfold DO at h
  split at h
  ·split at h
   ·split at h
    ·split at h
     ·rw[dw] at h
      exact ax ho rfl ⟨_,h,AB ho (hty _ _ ‹_›) ‹_› ‹_› ‹_› ‹_› ‹_›⟩
     ·cases h
    ·cases h
   ·split at h
    ·split at h
     ·exact ax ho rfl (AA ho (hty _ _ ‹_›) (hty _ _ ‹_›) ‹_› ‹_› ‹_› ‹_› h)
     ·cases h
    ·cases h
   ·cases h
  ·cases h
 ·rename_i x i ho
  unfold vB at h
  split at h
  ·split at h
   ·rw[gV] at h
    exact ax ho rfl ⟨_,h,xg ho ‹_› ‹_›⟩
   ·cases h
  ·cases h
 ·rename_i t parts ho
  unfold DM at h
  split at h
  ·split at h
   ·split at h
    ·exact ax ho rfl (ou ho (hty _ _ ‹_›) ‹_› ‹_› h)
    ·cases h
   ·split at h
    ·exact ax ho rfl (pf ho (hty _ _ ‹_›) ‹_› (hty _ _ ‹_›) h)
    ·cases h
   ·cases h
  ·cases h
 ·rename_i t len parts ho
  unfold nT at h
  split at h
  ·split at h
   ·split at h
    ·exact cD ho (by simp[kd]) (rj ho (hty _ _ ‹_›) ‹_› (hty _ _ ‹_›) ‹_› h)
    ·cases h
   ·cases h
  ·cases h
 ·rename_i op t x y t' ho
  unfold DL at h
  split at h
  ·split at h
   ·exact ax ho rfl (vT ho (.inl rfl) ‹_› ‹_› h)
   ·exact ax ho rfl (vT ho (.inr rfl) ‹_› ‹_› h)
   ·split at h
    ·subst_vars
     exact ax ho rfl (zX ho ‹_› ‹_› h)
    ·cases h
  ·split at h
   ·subst_vars
    exact ax ho rfl (CW ho ‹_› ‹_› h)
   ·cases h
  ·exact ax ho rfl (Kf ho ‹_› ‹_› h)
  ·rename_i hx hy
   split at h
   ·rename_i r0 he
    exact ax ho rfl (wm ho (fun m w v u hv hu=>by rw[hx,RV] at hv;rw[hy,RV] at hu;exact Unk.okS _ _ _ he w v u hv hu) h)
   ·cases h
  ·rename_i hx hy
   split at h
   ·rename_i r0 he
    exact ax ho rfl (wm ho (fun m w v u hv hu=>by
     rw[hx,RV] at hv;rw[hy,RV] at hu
     obtain⟨s,e1,e2⟩:=Unk.okL _ _ _ he w v hv
     exact⟨s,_,e1,hu,e2⟩) h)
   ·cases h
  ·rename_i hx hy
   split at h
   ·rename_i r0 he
    exact ax ho rfl (BA ho (fun m w v hv=>by rw[hx,RV] at hv;exact Unk.okB _ _ _ _ _ he w v hv) hy h)
   ·cases h
  ·split at h
   ·split at h
    ·exact ax ho rfl (Ap ho (hty _ _ ‹_›) ‹_› ‹_› ‹_› h)
    ·cases h
   ·cases h
  ·split at h
   ·split at h
    ·split at h
     ·exact ax ho rfl (CQ hty ho (hty _ _ ‹_›) ‹_› ‹_› ‹_› ‹_› h)
     ·cases h
    ·cases h
   ·cases h
  ·cases h
 ·rename_i x ho
  unfold sj at h
  split at h
  ·exact ax ho rfl ⟨_,h,tD ho ‹_›⟩
  ·exact ax ho rfl ⟨_,h,vz ho ‹_›⟩
  ·cases h
 ·rename_i s d x ho
  unfold qe at h
  split at h
  ·split at h
   ·rw[dw] at h;exact ax ho rfl ⟨_,h,FP ho (hty _ _ ‹_›) (hty _ _ ‹_›) ‹_› ‹_›⟩
   ·split at h
    ·exact ax ho rfl ⟨_,h,CC ho (hty _ _ ‹_›) (hty _ _ ‹_›) ‹_› ‹_› ‹_›⟩
    ·cases h
   ·split at h
    ·split at h
     ·rw[dw] at h;exact ax ho rfl ⟨_,h,FN ho (hty _ _ ‹_›) (hty _ _ ‹_›) ‹_› ‹_› ‹_› ‹_›⟩
     ·cases h
    ·cases h
   ·rw[aT] at h;exact ax ho rfl ⟨_,h,FO ho (hty _ _ ‹_›) (hty _ _ ‹_›) ‹_› ‹_›⟩
   ·split at h
    ·rename_i heq
     rw[heq] at h
     exact ax ho rfl ⟨_,h,Ae ho (hty _ _ ‹_›) (hty _ _ ‹_›) ‹_› ‹_› ‹_›⟩
    ·split at h
     ·split at h
      ·cases h
      ·rw[aT] at h
       exact ax ho rfl ⟨_,h,FM ho (hty _ _ ‹_›) (hty _ _ ‹_›) ‹_› ‹_› ‹_› ‹_› ‹_›⟩
     ·cases h
   ·split at h
    ·exact ax ho rfl ⟨_,h,FQ ho (hty _ _ ‹_›) (hty _ _ ‹_›) ‹_› ‹_› ‹_›⟩
    ·cases h
   ·split at h
    ·split at h
     ·exact ax ho rfl (wV ho (hty _ _ ‹_›) (hty _ _ ‹_›) ‹_› ‹_› (hty _ _ ‹_›) ‹_› ‹_› ‹_› h)
     ·cases h
    ·cases h
   ·cases h
  ·cases h
 ·rename_i t x lo hi ho
  unfold xG at h
  split at h
  ·split at h
   ·split at h
    ·simp only[aT] at h
     exact ax ho rfl ⟨_,h,EF ho (hty _ _ ‹_›) ‹_› (hty _ _ ‹_›) ‹_› ‹_› ‹_› ‹_›⟩
    ·cases h
   ·cases h
  ·split at h
   ·split at h
    ·rw[bS] at h
     exact ax ho rfl ⟨_,h,Bt ho (hty _ _ ‹_›) ‹_› ‹_› ‹_› ‹_› ‹_›⟩
    ·cases h
   ·cases h
  ·split at h
   ·split at h
    ·simp only[aT] at h
     exact ax ho rfl ⟨_,h,Bs ho (hty _ _ ‹_›) ‹_› (hty _ _ ‹_›) ‹_› ‹_› ‹_› ‹_› ‹_›⟩
    ·cases h
   ·cases h
  ·split at h
   ·split at h
    ·exact ax ho rfl ⟨_,h,xZ ho (hty _ _ ‹_›) ‹_› (hty _ _ ‹_›) ‹_› ‹_› ‹_› ‹_›⟩
    ·cases h
   ·cases h
  ·cases h
 ·rename_i op t x ho
  unfold IL at h
  split at h
  ·rw[aT] at h;exact ax ho rfl ⟨_,h,GK ho ‹_›⟩
  ·rw[ez] at h;exact ax ho rfl ⟨_,h,JE ho ‹_›⟩
  ·rw[dw] at h;exact ax ho rfl ⟨_,h,JA ho ‹_›⟩
  ·cases h
 ·rename_i t l c ho
  unfold qh at h
  split at h
  ·split at h
   ·split at h
    ·simp only[aT,bS] at h
     rename_i hc
     exact cD ho (by simp[kd]) (tw ho (hty _ _ ‹_›) ‹_› (hty _ _ ‹_›) ‹_› ‹_› hc h)
    ·cases h
   ·cases h
  ·cases h
 ·rename_i args argTypes ho
  unfold yW at h
  split at h
  ·split at h
   ·subst_vars
    split at h
    ·split at h
     ·exact cD ho (by simp[kd]) (zS ho ‹_› ‹_› (hty _ _ ‹_›) ‹_› (hty _ _ ‹_›) h)
     ·cases h
    ·cases h
   ·split at h
    ·split at h
     ·split at h
      ·rw[aT,bS] at h
       exact cD ho (by simp[kd]) (wK ho ‹_› ‹_› (hty _ _ ‹_›) ‹_› (hty _ _ ‹_›) ‹_› (hty _ _ ‹_›) ‹_› ‹_› ‹_› h)
      ·cases h
     ·cases h
    ·cases h
  ·cases h
 ·rename_i args argTypes ho
  unfold IJ at h
  split at h
  ·split at h
   ·split at h
    ·split at h
     ·split at h
      ·simp only[aT,bS] at h
       exact cD ho (by simp[kd]) (FR ho ‹_› ‹_› (hty _ _ ‹_›) ‹_› (hty _ _ ‹_›) ‹_› ‹_› ‹_› h)
      ·cases h
     ·cases h
    ·cases h
   ·cases h
  ·cases h
 ·rename_i args argTypes ho
  unfold KH at h
  split at h
  ·split at h
   ·split at h
    ·rw[dw] at h
     exact ax ho rfl ⟨_,h,Jx ho ‹_› ‹_› ‹_›⟩
    ·cases h
   ·cases h
  ·cases h
 ·rename_i args argTypes ho
  unfold KJ at h
  split at h
  ·split at h
   ·split at h
    ·rw[dw] at h
     exact ax ho rfl ⟨_,h,Jy ho ‹_› ‹_› ‹_›⟩
    ·cases h
   ·cases h
  ·cases h
 ·rename_i args argTypes ho
  unfold JF at h
  split at h
  ·split at h
   ·split at h
    ·exact ax ho rfl ⟨_,h,xq ho (hty _ _ ‹_›) ‹_› ‹_› (.inl ⟨‹_›,.inl ⟨_,_,_,‹_›⟩⟩)⟩
    ·exact ax ho rfl ⟨_,h,xq (n:=0) ho (hty _ _ ‹_›) ‹_› ‹_› (.inl ⟨‹_›,.inr ⟨‹_›,rfl⟩⟩)⟩
    ·rw[aT] at h
     exact ax ho rfl ⟨_,h,GA ho (hty _ _ ‹_›) ‹_› ‹_› ‹_› ‹_›⟩
    ·exact ax ho rfl ⟨_,h,Dk ho (hty _ _ ‹_›) ‹_› ‹_› ‹_› ‹_›⟩
    ·split at h
     ·rw[aT] at h
      exact ax ho rfl ⟨_,h,Jt ho (hty _ _ ‹_›) ‹_› ‹_› ‹_› ‹_› ‹_›⟩
     ·cases h
    ·rw[aT] at h
     exact ax ho rfl ⟨_,h,xq ho (hty _ _ ‹_›) ‹_› ‹_› (.inr ⟨‹_›,_,‹_›,rfl⟩)⟩
    ·cases h
   ·cases h
  ·cases h
 ·rename_i args argTypes ho
  unfold KG at h
  split at h
  ·split at h
   ·split at h
    ·exact ax ho rfl ⟨_,h,Cz ho (hty _ _ ‹_›) ‹_› ‹_› ‹_› ‹_›⟩
    ·cases h
   ·cases h
  ·cases h
 ·rename_i t ho
  exact cD ho (by simp[kd]) (pO ho (fun a _ w _=>tt a w) h)
 ·rename_i t x ho
  unfold sh at h
  split at h
  ·rename_i hti hx
   split at h
   ·rename_i hk
    exact cD ho (by simp[kd]) (pO ho (fun a _ w hO=>tv (hty _ _ hti) hk a w (dD (hO x (by simp[ho,Op.operands])) hx)) h)
   ·cases h
  ·cases h
 ·rename_i t x y z ho
  exact cD ho (by simp[kd]) (sH hty (.inl ho) h)
 ·rename_i t x y z ho
  exact cD ho (by simp[kd]) (sH hty (.inr ho) h)
 ·rename_i t x y ok ho
  exact ax ho rfl (AQ hty ho h)
 ·rename_i f first captured ho
  unfold sf at h
  split at h
  ·rw[bS] at h
   exact ax ho rfl ⟨_,h,vm ho ‹_›⟩
  ·cases h
 ·cases h
end
end Go.Sx
namespace Go.Sx
open LimbNum
variable [Unk] [Glob]
def yB:Nat:=4294967296
def fE (P:Program) (call:FuncId→List AV→Hp→Option (AV × Hp)):Prop:=
 ∀ g args st av st', call g args st = some (av, st') → (g < yB → (Heaps st st' ∧ (∃ fn, P.funcs[g]? = some fn ∧ fn.body.isNone = false ∧ (fn.name == "runtime.NumGoroutine") = false) ∧
  ∀ (m:Nm) (w:World) (vals:List Value),RVs m w args vals→RS m w st.h.get→Dom st→dA m st.nx st'.nx →
   Calls P g vals.toArray w fun e w'=>∃ v m',e=.returned v∧RV m' w' av v∧RS m' w' st'.h.get∧To m st.h.get w m' st'.h.get w'∧dp m m' st.nx st'.nx) ∨
  (st'=st∧(∃ fn,P.funcs[g]?=some fn∧fn.body=none)∧∀ (m:Nm) (w:World) (vals:List Value),RVs m w args vals→∃ v,(callFunc g vals.toArray).run P w=.ok (.value v) w∧RV m w av v)) ∧
 ∀ b,g=yB+b→Heaps st st'∧∀ (m:Nm) (w:World) (vals:List Value) (rb:Nat),m b=some rb→RVs m w args vals→RS m w st.h.get→Dom st→dA m st.nx st'.nx →
  ∃ f tmps asg bod,(Instr.yield rb vals.toArray).run P w=.ok (.round rb f tmps asg bod) w∧RoundIn (Fw none) 0 P rb f tmps asg bod w
   fun e w'=>∃ v m',e=.returned v∧RV m' w' av v∧RS m' w' st'.h.get∧To m st.h.get w m' st'.h.get w'∧dp m m' st.nx st'.nx
section
variable {P : Program} {E : Env} {β : Type} {r : β}
def opA (E:Env) (call:FuncId→List AV→Hp→Option (AV × Hp)) (ρ:Operand→AV) (st:Hp) (o:Oper) (k:AV→Hp→Option β):Option β:=
 match o.op with
 | .call { callee:=.value f,args,.. }=>match ρ f with
  | .fn g caps=>match Nat.blt g 4294967296 with
   | true=>match call g (args.toList.map ρ++caps) st with
    | some (av,st')=>k av st'
    | none=>none
   | false=>none
  | .yl b=>match call (4294967296+b) (args.toList.map ρ) st with
   | some (av,st')=>k av st'
   | none=>none
  | _=>none
 | _=>aop E ρ st o k
theorem En {o:Oper} {a:Act} {w:World} {f:Operand} {args:Array Operand} {ts:Array TypeId} {g:FuncId} {caps:List Value} {fn:Func} (ho:o.op=.call { callee:=.value f,args,argTypes:=ts })
  (hf : a.eval f = .func (.func g) #[] caps.toArray) (h1 : P.funcs[g]? = some fn) (h2 : fn.body.isNone = false) (h3 : (fn.name == "runtime.NumGoroutine") = false) :
  (execOp a.eval o).run P w=.ok (.enter g (args.toList.map a.eval++caps).toArray) w:=by
 have e:(args.toList.map a.eval++caps).toArray=args.map a.eval++caps.toArray:=Array.ext' (by simp)
 rw[e]
 simp only[beq_eq_false_iff_ne,ne_eq] at h3
 have h2':fn.body≠none:=fun h=>by rw[h] at h2;cases h2
 simp[execOp,ho,resolve,hf,Deferred.ofValue,invoke,callFunc,h1,h2',h3]
theorem JV {o:Oper} {a:Act} {w:World} {f:Operand} {args:Array Operand} {ts:Array TypeId} {l:Nat} {fn:FuncId} {tmps:Array Value} {asg bod:Code} (ho:o.op=.call { callee:=.value f,args,argTypes:=ts })
  (hf:a.eval f=.func (.yield l) #[] #[]) (h:(Instr.yield l (args.toList.map a.eval).toArray).run P w=.ok (.round l fn tmps asg bod) w) :
  (execOp a.eval o).run P w=.ok (.round l fn tmps asg bod) w:=by
 have e:(args.toList.map a.eval).toArray=args.map a.eval:=Array.ext' (by simp)
 rw[e] at h
 simp[execOp,ho,resolve,hf,Deferred.ofValue,invoke,h]
theorem GV {o:Oper} {a:Act} {w:World} {f:Operand} {args:Array Operand} {ts:Array TypeId} {g:FuncId} {caps:List Value} {v:Value} (ho:o.op=.call { callee:=.value f,args,argTypes:=ts })
  (hf:a.eval f=.func (.func g) #[] caps.toArray) (h:(callFunc g (args.toList.map a.eval++caps).toArray).run P w=.ok (.value v) w) :
  (execOp a.eval o).run P w=.ok (.value v) w:=by
 have e:(args.toList.map a.eval++caps).toArray=args.map a.eval++caps.toArray:=Array.ext' (by simp)
 rw[e] at h
 simp[execOp,ho,resolve,hf,Deferred.ofValue,invoke,h]
theorem xH {call:FuncId→List AV→Hp→Option (AV × Hp)} {ρ:Operand→AV} {st:Hp} {o:Oper} {k:AV→Hp→Option β} (hc:fE P call) (hty:∀ t ti,E.ty.get t=some ti→TyOK P t ti)
  (h:opA E call ρ st o k=some r):∃ av st',k av st'=some r∧Fp P ρ st o av st':=by
 unfold opA at h
 split at h
 ·rename_i f args ts ho
  have hin:∀ x,x=f∨x∈args→x∈o.op.operands:=fun x hx=>by
   simp only[ho,Op.operands,Call.operands]
   rcases hx with rfl|hx
   ·exact Array.mem_append.2 (.inl (by simp))
   ·exact Array.mem_append.2 (.inr hx)
  have hargs:∀ (a:Act) (m:Nm) (w:World),jZ m w ρ a o→RVs m w (args.toList.map ρ) (args.toList.map a.eval):=fun a m w hO=>RVs.eH (by simp) fun i av hav=>by
   rw[List.getElem?_map] at hav ⊢
   cases hx:args.toList[i]? with
   | none=>rw[hx] at hav;cases hav
   | some x=>
    rw[hx] at hav
    simp only[Option.map_some,K5] at hav
    subst hav
    exact⟨_,rfl,hO x (hin x (.inr (by rw[←Array.mem_toList_iff];exact List.mem_of_getElem? hx)))⟩
  split at h
  ·rename_i g caps hf
   split at h
   ·rename_i hlt
    have hlt:g<yB:=Nat.le_of_ble_eq_true hlt
    split at h
    ·rename_i av st' hcall
     rcases (hc _ _ _ _ _ hcall).1 hlt with ⟨h1,⟨fn,h2,h3,h4⟩,h5⟩|⟨rfl,_,h5⟩
     ·refine cD ho (by simp[kd]) ⟨av,st',h,h1,fun ro a m w hnd hO hs hd hfr K Q hK=>?_⟩
      have hfv:=hO f (hin f (.inl rfl))
      rw[hf,RV] at hfv
      obtain⟨l,hfv,hl⟩:=hfv
      unfold Oper.wpIn
      refine ⟨fun _ _=>trivial,?_⟩
      rw[Oper.semAt_eq _ _ _ hnd,En ho hfv h2 h3 h4]
      refine ⟨fun hx=>(by cases hx),?_⟩
      show CallsIn Fence.wide 0 P g _ w _
      refine callsIn_wide.2 ((h5 m w _ ((hargs a m w hO).append hl) hs hd hfr).mono ?_)
      rintro e w' ⟨v,m',rfl,q1,q2,q3,q4⟩
      exact hK v w' m' q1 q2 q3 q4
     ·refine cD ho (by simp[kd]) ⟨av,st',h,cq (Heaps.rfl' _) fun a m w hO hs hfr=>?_⟩
      have hfv:=hO f (hin f (.inl rfl))
      rw[hf,RV] at hfv
      obtain⟨l,hfv,hl⟩:=hfv
      obtain⟨v,q1,q2⟩:=h5 m w _ ((hargs a m w hO).append hl)
      exact⟨v,w,m,.inl (GV ho hfv q1),q2,hs,To.rfl',fun _ _=>rfl⟩
    ·cases h
   ·cases h
  ·rename_i b hf
   split at h
   ·rename_i av st' hcall
    obtain⟨h1,h5⟩:=(hc _ _ _ _ _ hcall).2 b rfl
    refine cD ho (by simp[kd]) ⟨av,st',h,h1,fun ro a m w hnd hO hs hd hfr K Q hK=>?_⟩
    have hfv:=hO f (hin f (.inl rfl))
    rw[hf,RV] at hfv
    obtain⟨rb,hmb,hfv⟩:=hfv
    obtain⟨fn,tmps,asg,bod,hr,hR⟩:=h5 m w _ rb hmb (hargs a m w hO) hs hd hfr
    unfold Oper.wpIn
    refine ⟨fun _ _=>trivial,?_⟩
    rw[Oper.semAt_eq _ _ _ hnd,JV ho hfv hr]
    refine ⟨fun hx=>(by cases hx),?_⟩
    have hR':RoundIn (Fw ro) 0 P rb fn tmps asg bod w _:=hR
    refine hR'.mono ?_
    rintro e w' ⟨v,m',rfl,q1,q2,q3,q4⟩
    exact hK v w' m' q1 q2 q3 q4
   ·cases h
  ·cases h
 ·exact IY hty h
theorem zR {ρ:Operand→AV} {st:Hp} {o:Oper} {k:AV→Hp→Option β} {c:Call} (ho:o.op=.defer c):aop E ρ st o k=none:=by
 unfold aop;rw[ho]
theorem np {call:FuncId→List AV→Hp→Option (AV × Hp)} {ρ:Operand→AV} {st:Hp} {o:Oper} {k:AV→Hp→Option β} (h:opA E call ρ st o k=some r):∀ c,o.op≠.defer c:=by
 intro c ho
 unfold opA at h
 split at h
 ·rename_i ho2;rw[ho] at ho2;cases ho2
 ·rw[zR ho] at h;cases h
def qL:AV:=.tup []
theorem zm (m:Nm) (w:World):RV m w qL undef:=by
 unfold qL
 rw[RV]
 exact⟨[],rfl,by rw[RVs]⟩
def sJ (ops:Array Oper) (tm:Tr AV) (o:Oper):Option Bool:=
 match o.guard with
 | none=>some true
 | some (j,b)=>match (ops[j]?).bind (·.dst) with
  | some t=>match tm.get t with
   | some (.bool c)=>some (c==b)
   | some (.tup _)=>some false
   | _=>none
  | none=>none
theorem qS {ops:Array Oper} {tm:Tr AV} {o:Oper} {b:Bool} (h:sJ ops tm o=some b) {m:Nm} {w:World} {a:Act}
  (hT:∀ j b',o.guard=some (j,b')→∀ t,(ops[j]?).bind (·.dst)=some t→∀ av,tm.get t=some av→∃ v,a.tmps[t]?=some v∧RV m w av v):Region.wanted o (yielded ops a.tmps)=b:=by
 unfold sJ at h
 unfold Region.wanted
 split at h
 ·rename_i hg
  simp only[K5] at h
  simp only[hg]
  exact h
 ·rename_i j b' hg
  simp only[hg]
  split at h
  ·rename_i t ht
   split at h
   ·rename_i c hc
    simp only[K5] at h
    obtain⟨v,h1,h2⟩:=hT j b' hg t ht _ hc
    rw[RV] at h2
    subst h2
    unfold yielded
    rw[ht]
    simp only[Option.bind_some,h1]
    rw[←h]
    cases c<;>cases b'<;>rfl
   ·rename_i l hc
    simp only[K5] at h
    obtain⟨v,h1,h2⟩:=hT j b' hg t ht _ hc
    rw[RV] at h2
    obtain⟨l',rfl,_⟩:=h2
    unfold yielded
    rw[ht]
    simp only[Option.bind_some,h1]
    rw[←h]
    cases b'<;>rfl
   ·cases h
  ·cases h
def xM (n:Nat) (d:Option Tmp) (av:AV) (tm:Tr AV) (k:Tr AV→Option β):Option β:=
 match d with
 | none=>k tm
 | some d=>if d<n then Tr.jB Tr.depth tm d (some av) k else none
def Fq (n:Nat) (d:Option Tmp) (av:AV) (tm tm':Tr AV):Prop:=
 (∀ t,d=some t→t<n∧tm'.get t=some av)∧∀ t,d≠some t→tm'.get t=tm.get t
theorem ic {n:Nat} {d:Option Tmp} {av:AV} {tm:Tr AV} {k:Tr AV→Option β} (h:xM n d av tm k=some r):∃ tm',k tm'=some r∧Fq n d av tm tm':=by
 unfold xM at h
 split at h
 ·exact⟨tm,h,⟨fun t ht=>(by cases ht),fun _ _=>rfl⟩⟩
 ·rename_i d
  split at h
  ·obtain⟨t',h1,h2,h3⟩:=Tr.dy _ _ _ _ _ _ h
   exact⟨t',h1,fun t ht=>by cases ht;exact⟨‹_›,h2⟩,fun t ht=>h3 t fun e=>ht (by rw[e])⟩
  ·cases h
theorem qq (a:Act) (d:Option Tmp) (v:Value):(a.put d v).tmps.size=a.tmps.size:=by
 cases d<;>simp[Act.put]
theorem put_defers (a:Act) (d:Option Tmp) (v:Value):(a.put d v).defers=a.defers:=by
 cases d<;>rfl
theorem zg (a:Act) (d:Option Tmp) (v:Value) (t:Nat):(a.put d v).tmps[t]?=if d=some t∧t<a.tmps.size then some v else a.tmps[t]?:=by
 cases d with
 | none=>simp[Act.put]
 | some d=>
  simp only[Act.put,Array.getElem?_setIfInBounds,K5]
  by_cases h:d=t
  ·subst h
   by_cases h2:d<a.tmps.size
   ·simp[h2]
   ·simp[h2]
  ·simp[h]
theorem RT.put {n:Nat} {d:Option Tmp} {av:AV} {tm tm':Tr AV} {m:Nm} {w:World} {a:Act} {v:Value} (h:RT m w tm a) (hp:Fq n d av tm tm') (hn:a.tmps.size=n) (hv:RV m w av v):RT m w tm' (a.put d v):=by
 intro t x ht
 rw[zg]
 by_cases hd:d=some t
 ·obtain⟨h1,h2⟩:=hp.1 t hd
  rw[h2] at ht;cases ht
  exact⟨v,if_pos ⟨hd,Nat.lt_of_lt_of_eq h1 hn.symm⟩,hv⟩
 ·rw[hp.2 t hd] at ht
  rw[if_neg fun h=>hd h.1]
  exact h t x ht
theorem RT.to {m m':Nm} {h h':Hf} {w w':World} {tm:Tr AV} {a:Act} (hT:RT m w tm a) (t:To m h w m' h' w'):RT m' w' tm a:=fun i x hx=>by
 obtain⟨v,h1,h2⟩:=hT i x hx
 exact⟨v,h1,t.rv h2⟩
theorem dA.left {m:Nm} {a b c:Nat} (h:dA m a c) (hb:b≤c):dA m a b:=fun x h1 h2=>h x h1 (by omega)
theorem dA.right {m m':Nm} {a b c:Nat} (h:dA m a c) (hab:a≤b) (hs:dp m m' a b):dA m' b c:=fun x h1 h2=>by rw[hs x (.inr h1)];exact h x (by omega) h2
theorem dp.rfl' (m:Nm) (a b:Nat):dp m m a b:=fun _ _=>rfl
theorem dp.comp {m m1 m2:Nm} {a b c:Nat} (h:dp m m1 a b) (h':dp m1 m2 b c) (hab:a≤b) (hbc:b≤c):dp m m2 a c:=fun x hx=>by
 rw[h' x (by omega),h x (by omega)]
def Em (E:Env) (call:FuncId→List AV→Hp→Option (AV × Hp)) (n:Nat) (ops:Array Oper):List Oper→Tr AV→Hp→(Tr AV→Hp→Option β)→Option β
 | [],tm,st,k=>k tm st
 | o::l,tm,st,k=>match sJ ops tm o with
  | some true=>opA E call (evO tm) st o fun av st=>xM n o.dst av tm fun tm=>Em E call n ops l tm st k
  | some false=>xM n o.dst qL tm fun tm=>Em E call n ops l tm st k
  | none=>none
def BN (n:Nat) (tm:Tr AV) (st:Hp) (tm':Tr AV) (st':Hp) (W:Act→World→(Act→World→Prop)→Prop):Prop:=
 ∀ (a:Act) (m:Nm) (w:World),RT m w tm a→RS m w st.h.get→Dom st→a.tmps.size=n→dA m st.nx st'.nx→∀ K:Act→World→Prop,
  (∀ a' m' w',RT m' w' tm' a'→RS m' w' st'.h.get→a'.tmps.size=n→a'.defers=a.defers→To m st.h.get w m' st'.h.get w'→dp m m' st.nx st'.nx→K a' w')→W a w K
theorem oQ {call:FuncId→List AV→Hp→Option (AV × Hp)} {n:Nat} {ops:Array Oper} (hc:fE P call) (hty:∀ t ti,E.ty.get t=some ti→TyOK P t ti) (Q:Exit→Act→World→Prop) :
  ∀ (l:List Oper) (tm:Tr AV) (st:Hp) (k:Tr AV→Hp→Option β),Em E call n ops l tm st k=some r →
   ∃ tm' st',k tm' st'=some r∧Heaps st st'∧BN n tm st tm' st' fun a w K=>∀ ro,(∀ a w,K a w→Q .normal a w)→wpListIn (Fw ro) 0 P ops Q l a w
 | [],tm,st,k,h=>⟨tm,st,h,Heaps.rfl' _,fun a m w hT hs hd hn hf K hK ro hQ=>hQ a w (hK a m w hT hs hn rfl To.rfl' (dp.rfl' _ _ _))⟩
 | o::l,tm,st,k,h=>by
  rw[Em] at h
  split at h
  ·rename_i hw
   have hnd:=np h
   obtain⟨av,st1,h1,h2⟩:=xH hc hty h
   obtain⟨tm1,h3,h4⟩:=ic h1
   obtain⟨tm',st',h5,h6,h7⟩:=oQ hc hty Q l tm1 st1 k h3
   have hh:Heaps st st1:=by
    by_cases hk:kd o.op=0
    ·rw[(h2.1 hk).1];exact Heaps.rfl' _
    ·exact (h2.2 hk).1
   refine ⟨tm',st',h5,hh.comp h6,fun a m w hT hs hd hn hf K hK ro hQ=>?_⟩
   have hwant:=qS (a:=a) hw fun j b' _ t _ av hav=>hT t av hav
   rw[wpListIn,if_pos hwant]
   have hO:jZ m w (evO tm) a o:=fun x _=>uE hT x
   have next:∀ v w1 m1,RV m1 w1 av v→RS m1 w1 st1.h.get→To m st.h.get w m1 st1.h.get w1→dp m m1 st.nx st1.nx→wpListIn (Fw ro) 0 P ops Q l (a.put o.dst v) w1:=fun v w1 m1 q1 q2 q3 q4=>
    h7 (a.put o.dst v) m1 w1 ((hT.to q3).put h4 hn q1) q2 (hh.dom hd) (by rw[qq];exact hn) (hf.right hh.nx q4) K (fun a' m' w' r1 r2 r3 r4 r5 r6=>hK a' m' w' r1 r2 r3 (by rw[r4,put_defers]) (q3.comp r5) (q4.comp r6 hh.nx h6.nx)) ro hQ
   by_cases hk:kd o.op=0
   ·obtain⟨rfl,hl⟩:=h2.1 hk
    obtain⟨v,hr,hv⟩:=hl a m w hO (hs.sub (vD _ _)).1
    unfold Oper.wpIn
    refine ⟨fun _ _=>trivial,?_⟩
    rw[Oper.semAt_eq _ _ _ hnd,hr]
    exact next v w m hv hs To.rfl' (dp.rfl' _ _ _)
   ·exact (h2.2 hk).2 ro a m w hnd hO hs hd (hf.left h6.nx) _ Q next
  ·rename_i hw
   obtain⟨tm1,h3,h4⟩:=ic h
   obtain⟨tm',st',h5,h6,h7⟩:=oQ hc hty Q l tm1 st k h3
   refine ⟨tm',st',h5,h6,fun a m w hT hs hd hn hf K hK ro hQ=>?_⟩
   have hwant:=qS (a:=a) hw fun j b' _ t _ av hav=>hT t av hav
   rw[wpListIn,if_neg (by rw[hwant];simp)]
   refine ⟨fun _ _=>trivial,?_⟩
   exact h7 (a.put o.dst undef) m w (hT.put h4 hn (zm _ _)) hs hd (by rw[qq];exact hn) hf K (fun a' m' w' r1 r2 r3 r4 r5 r6=>hK a' m' w' r1 r2 r3 (by rw[r4,put_defers]) r5 r6) ro hQ
  ·cases h
end
end Go.Sx
