import Derived.Laws.Entries
import GoSem.Instr.MapUpdate
import GoSem.Instr.MakeMap
import Derived.Test.YtiohhcljhadgcaaGreatDoorSx2
set_option linter.unusedSectionVars false
set_option linter.unusedVariables false
set_option linter.unusedSimpArgs false
namespace Go.Sx
open LimbNum
variable [Glob]
section
variable {P : Program} {E : Env} {ρ : Operand → AV} {st : Hp} {o : Oper} {β : Type} {k : AV → Hp → Option β} {r : β}
theorem tM {b:Option Nat} {c:Hp→Option β} (h:yv st b c=some r) :
  ∃ st1,c st1=some r∧st1.nx=st.nx∧(∀ i,some i≠b→st1.h.get i=st.h.get i)∧(∀ i,some i=b→st1.h.get i=none)∧Heaps st st1:=by
 unfold yv at h
 cases b with
 | none=>exact⟨st,h,rfl,fun _ _=>rfl,fun i hi=>(by cases hi),Heaps.rfl' _⟩
 | some b=>
  simp only at h
  split at h
  ·obtain⟨t',h1,h2,h3⟩:=Tr.eh _ _ _ _ _ _ h
   rw[aV] at h1
   exact⟨⟨t',st.nx,Nat.min st.lo b⟩,h1,rfl,fun i hi=>h3 i fun e=>hi (by rw[e]),fun i hi=>(by cases hi;exact h2),gC h3 rfl rfl fun _=>.inl h2⟩
  ·cases h
theorem sW {w:World} {rb o:Nat} {c:Array Value} {e:TypeId} {vs:List Value} (hb:w.heap[rb]?=some (.cells c e (0,0))) (hl:o+vs.length≤c.size) :
  Laid w rb o vs (w.setRow rb (c.toList.take o++vs++c.toList.drop (o+vs.length)).toArray):=by
 refine ⟨by simp[World.setRow],⟨rfl,rfl,rfl⟩,fun k hk=>setRow_other w rb k _ hk,fun c' e' h=>?_⟩
 rw[hb] at h;cases h
 refine ⟨_,setRow_heap w rb c _ e _ hb,by simp;omega,fun j=>?_⟩
 rw[List.getElem?_toArray,List.append_assoc,List.getElem?_append]
 have hto:(c.toList.take o).length=o:=by simp;omega
 rw[hto]
 split
 ·rw[if_neg (by omega),List.getElem?_take,if_pos (by omega),Array.getElem?_toList]
 ·rw[List.getElem?_append]
  split
  ·rw[if_pos (by omega)]
  ·rw[if_neg (by omega),List.getElem?_drop,Array.getElem?_toList]
   congr 1
   omega
theorem gL {a:Act} {w:World} {args:Array Operand} {argTypes:Array TypeId} {t:TypeId} {x y:Operand} {v:Value} {w':World} (ho:o.op=.call { callee:=.builtin .append,args,argTypes }) (ht:argTypes.toList=[t,t]) (hx:args.toList=[x,y])
  (h:(Builtin.append_ #[t,t] o.type #[a.eval x,a.eval y]).run P w=.ok v w'):(execOp a.eval o).run P w=.ok (.value v) w':=by
 have e1:argTypes = #[t,t]:=Array.ext' (by simpa using ht)
 have e2:args = #[x,y]:=Array.ext' (by simpa using hx)
 subst e1 e2
 simp[execOp,ho,resolve,invoke,builtin,h]
theorem ru {a:Act} {m:Nm} {w:World} {t:TypeId} {x y:Operand} {i2:TypeInfo} {e ty:TypeId} {te:TyI} {b:Option Nat} {n:Nat} {cs cs':List AV} (h2:P.underlying t=some (.slice e)) (g1:P.info? e=some i2)
  (hvx:RV m w (ρ x) (a.eval x)) (hvy:RV m w (ρ y) (a.eval y)) (hrow:rowOf st (ρ x) te.size=some (b,n,cs)) (hel:fG st (ρ y) te.size=some (0,cs')) :
  (Builtin.append_ #[t,t] ty #[a.eval x,a.eval y]).run P w=.ok (a.eval x) w:=by
 have hy:∃ base len cap,a.eval y=.slice base len cap∧len=0:=by
  unfold fG at hel
  split at hel
  ·rw[‹ρ y=_›,RV] at hvy;exact⟨_,_,_,hvy,rfl⟩
  ·split at hel
   ·split at hel
    ·simp only[Option.some.injEq,Prod.mk.injEq] at hel
     rw[‹ρ y=_›,RV] at hvy
     obtain⟨rb,cap,_,hvy,_⟩:=hvy
     exact⟨_,_,_,hvy,hel.1⟩
    ·cases hel
   ·cases hel
  ·cases hel
 obtain⟨base,len,cap,hy,rfl⟩:=hy
 have hx':∃ base n cap,a.eval x=.slice base n cap∧n≤cap:=by
  unfold rowOf at hrow
  split at hrow
  ·rw[‹ρ x=_›,RV] at hvx;exact⟨_,_,_,hvx,Nat.le_refl _⟩
  ·rw[‹ρ x=_›,RV] at hvx
   obtain⟨rb,cap,_,hvx,hle,_⟩:=hvx
   exact⟨_,_,_,hvx,hle⟩
  ·cases hrow
 obtain⟨base',n1,cap',hx',hle⟩:=hx'
 have hfc:(Builtin.firstCells i2.size 0 (.slice base 0 cap)).run P w=.ok #[] w:=by
  cases base<;>simp[Builtin.firstCells,loadCells,loadCellsFrom]
 rw[hx',hy]
 cases base'<;>simp[Builtin.append_,run_underlying h2,bO g1,Builtin.lenOf,hle,hfc,storeCells]
theorem vU {args:Array Operand} {argTypes:Array TypeId} {t:TypeId} {x y:Operand} {ti te:TyI} (ho:o.op=.call { callee:=.builtin .append,args,argTypes }) (hat:argTypes.toList=[t,t]) (hax:args.toList=[x,y])
  (ht:TyOK P t ti) (hk:ti.kind=.slice) (hte:TyOK P ti.elem te) (h:qp st (ρ x) (ρ y) te k=some r) :
  ∃ av st',k av st'=some r∧ic P ρ st o av st':=by
 obtain⟨i,d,z,h1,h2,h3,h4,h5,h6,h7,h8,h9,h10,_⟩:=ht.ex
 obtain⟨i2,d2,z2,g1,g2,g3,g4,g5,g6,_⟩:=hte.ex
 obtain rfl:=h10 hk
 have hin:∀ u,u=x∨u=y→u∈o.op.operands:=fun u hu=>by
  simp only[ho,Op.operands,Call.operands]
  refine Array.mem_append.2 (.inr ?_)
  rw[←Array.mem_toList_iff,hax]
  simpa using hu
 unfold qp at h
 split at h
 ·rename_i b n cs n' cs' hrow hel
  split at h
  ·rename_i hc
   obtain⟨c1,c2,c3,c4⟩:=hc
   split at h
   ·rename_i hn0
    subst hn0
    refine ⟨_,st,h,cm (Heaps.rfl' _) fun a m w hO hs hf=>?_⟩
    have hvx:=hO x (hin x (.inl rfl))
    exact⟨_,w,m,.inl (gL ho hat hax (ru h2 g1 hvx (hO y (hin y (.inr rfl))) hrow hel)),hvx,hs,To.rfl',fun _ _=>rfl⟩
   ·rename_i hn0
    split at h
    ·rename_i hcell
     simp only[bQ,aV] at h
     obtain⟨st1,d1,d2,d3,d4,d5⟩:=tM h
     obtain⟨st',s1,s2,s3,s4,s5,s6⟩:=gn d1
     have hbytes:∀ q:Nat,q≤65536→q*i2.bytes≤140737488355328:=fun q hq=>by
      have:=Nat.mul_le_mul hq (show i2.bytes≤65536 by omega)
      omega
     refine ⟨_,st',s1,cm (d5.comp (eX s4 s5 s6)) fun a m w hO hs hf=>?_⟩
     have hvx:=hO x (hin x (.inl rfl))
     have hvy:=hO y (hin y (.inr rfl))
     obtain⟨ad,cp,vs',ey,hvs',hl',hmem⟩:=yy hs hvy hel hn0
     have h1c:=BI hvs' hcell.1
     have hnv':=ug hvs' hcell.1
     unfold rowOf at hrow
     split at hrow
     ·
      simp only[Option.some.injEq,Prod.mk.injEq] at hrow
      obtain⟨rfl,rfl,rfl⟩:=hrow
      rw[‹ρ x=_›,RV] at hvx
      have hr:=run_append_nil (P:=P) w t o.type ti.elem i2 z2 h2 g1 g3 ad n' cp vs' (by rw[hl',g4]) hmem (by omega) (by omega) (by have:=hbytes n' (by omega);omega)
      simp only[List.nil_append,Nat.zero_add] at s2 s3 ⊢
      obtain⟨m',q1,q2,q3,q4⟩:=rZ (e:=ti.elem) (z:=z2) (cap:=grownCap w n' 0 ti.elem) (st1:=st1) hs hf (fun b c hb=>by rw[←d3 b (by simp)];exact hb) d2 g6 c2 hcell.2 hvs' hnv' hl' (grownCap_ge w n' 0 _) (kp s2) s3 s4 s5 _ rfl
      exact⟨_,_,m',.inl (gL ho hat hax (by rw[hvx,ey];exact hr)),q1,q2,q3,q4⟩
     ·rename_i b' off len e he
      split at hrow
      ·rename_i cells hcells
       split at hrow
       ·rename_i hcc
        simp only[Option.some.injEq,Prod.mk.injEq] at hrow
        obtain⟨rfl,rfl,rfl⟩:=hrow
        obtain⟨rfl,rfl,hcl⟩:=hcc
        rw[he,RV] at hvx
        obtain⟨rb,cap,hm,ex,hle,hroom⟩:=hvx
        obtain⟨c,ety,q2,q3,q4,q5⟩:=hs.blk b' cells rb (bE hcells).1 (bE hcells).2 hm
        have hroom':=hroom
        obtain⟨cr,er,fr,r1,r2⟩:=hroom'
        rw[q2] at r1;cases r1
        have hsub:∀ x c,st1.h.get x=some c→st.h.get x=some c:=fun x c hx=>by
         by_cases hxb:some x=some b'
         ·rw[d4 x hxb] at hx;cases hx
         ·rw[←d3 x hxb];exact hx
        by_cases hfit:len+n'≤cap
        ·
         have hmul:(len+n')*te.size≤cap*te.size:=Nat.mul_le_mul_right _ hfit
         have hadd:(len+n')*te.size=len*te.size+n'*te.size:=Nat.add_mul _ _ _
         have hr:(Builtin.append_ #[t,t] o.type #[a.eval x,a.eval y]).run P w=.ok (.slice (some ⟨rb,0,none⟩) (len+n') cap) (w.setRow rb (c.toList.take (len*te.size)++vs'++c.toList.drop (len*te.size+vs'.length)).toArray):=by
          have hf:=run_firstCells_some (P:=P) w te.size n' ad n' cp vs' hl' hmem
          have hst:=run_storeCells_at P rb (len*te.size) ety vs' 0 c w q2 (by rw[hl'];omega) h1c
          simp only[Nat.add_zero] at hst
          rw[ex,ey]
          simp[Builtin.append_,run_underlying h2,bO g1,←g4,Builtin.lenOf,hfit,hf,cJ,hst]
         have hL:=sW (vs:=vs') (o:=len*te.size) q2 (by rw[hl'];omega)
         have hlen':=hvs'.length
         obtain⟨tl,tl1,tl2,tl3⟩:∃ tl:Hf,tl b'=some (cells++cs')∧(∀ i,i≠b'→tl i=st.h.get i)∧True:=⟨fun i=>if i=b' then some (cells++cs') else st.h.get i,by simp,fun i hi'=>by simp[hi'],trivial⟩
         obtain⟨a1,a2⟩:=hs.laid (cells':=cells++cs') (n:=0+cap*te.size) hm (bE hcells).1 (bE hcells).2 tl1 tl2 hvs' (fun x hx=>List.all_eq_true.1 hcell.1 x hx) hL (by rw[List.length_append,hcl,hlen',hl'];omega) hroom (fun j=>by
          rw[List.getElem?_append,←hcl]
          split
          ·rw[if_neg (by omega)]
          ·split
           ·rfl
           ·rw[List.getElem?_eq_none (by omega),List.getElem?_eq_none (by omega)])
         have hnx:m st1.nx=none:=hf _ (by omega) (by omega)
         have hbn:b'≠st1.nx:=fun h=>by rw[←h,hm] at hnx;cases hnx
         obtain⟨b1,b2⟩:=a1.rename (h':=st'.h.get) hnx hm tl1 s3 (by rw[s4 b' hbn];exact d4 b' rfl) (fun i hi1 hi2=>by rw[s4 i hi1,d3 i (by simpa using hi2),tl2 i hi2])
         refine ⟨_,_,_,.inl (gL ho hat hax hr),?_,b1,a2.comp b2,fun x hx=>if_neg (by omega)⟩
         rw[RV]
         exact⟨rb,cap,by simp,rfl,hfit,(hroom.keep a2.grow).keep b2.grow⟩
        ·
         have hold:RVs m w cells (c.toList.take cells.length):=RVs.eK (by simp;omega) fun i av ha=>by
          have hil:=(List.getElem?_eq_some_iff.1 ha).1
          rw[List.getElem?_take,if_pos hil,Array.getElem?_toList]
          exact q4 i av ha
         have holdm:∀ j u,(c.toList.take cells.length)[j]?=some u→w.cell? ((⟨rb,0,none⟩:Addr).add j)=some u:=fun j u hu=>by
          rw[cJ,Nat.zero_add]
          unfold World.cell?
          rw[q2]
          rw[List.getElem?_take] at hu
          split at hu
          ·simpa using hu
          ·cases hu
         have hr:=run_append_grow (P:=P) w t o.type ti.elem i2 z2 h2 g1 g3 ⟨rb,0,none⟩ len cap (c.toList.take cells.length) (by simp only[List.length_take,Array.length_toList,←g4];omega) holdm ad n' cp vs' (by rw[hl',g4]) hmem (by omega) (by omega)
          (growslice_fits (by omega) (hbytes _ c3))
         obtain⟨m',u1,u2,u3,u4⟩:=rZ (e:=ti.elem) (z:=z2) (cap:=grownCap w (len+n') cap ti.elem) (n:=len+n') (st1:=st1) hs hf hsub d2 g6 c2 hcell.2 (hold.append hvs') (fun u hu=>by
          rcases List.mem_append.1 hu with hu|hu
          ·intro q hq
           obtain⟨j,hj,he'⟩:=List.getElem_of_mem hu
           have:c[j]?=some u:=by
            have hj':j<cells.length∧j<c.size:=by simpa [Nat.lt_min] using hj
            rw[List.getElem_take,Array.getElem_toList] at he'
            rw[←he',Array.getElem?_eq_getElem hj'.2]
           exact q5 j q (hq ▸ this)
          ·exact hnv' u hu) (by rw[List.length_append,hl',←hold.length,hcl,Nat.add_mul]) (grownCap_ge w _ _ _) (kp s2) s3 s4 s5 ((c.toList.take cells.length).toArray++vs'.toArray++Builtin.zeroCells z2.cells (grownCap w (len+n') cap ti.elem-(len+n'))) (by simp)
         exact⟨_,_,m',.inl (gL ho hat hax (by rw[ex,ey];exact hr)),u1,u2,u3,u4⟩
       ·cases hrow
      ·cases hrow
     ·cases hrow
    ·cases h
  ·cases h
 ·cases h
end
end Go.Sx
namespace Go.Sx
open LimbNum
variable [Glob]
section
variable {P : Program} {E : Env} {ρ : Operand → AV} {st : Hp} {o : Oper} {β : Type} {k : AV → Hp → Option β} {r : β}
theorem Ag {args:Array Operand} {argTypes:Array TypeId} {t t':TypeId} {x y:Operand} {ti te:TyI} {b off n e n':Nat} {cs:List AV} (ho:o.op=.call { callee:=.builtin .copy,args,argTypes }) (hat:argTypes.toList=[t,t']) (hax:args.toList=[x,y])
  (ht:TyOK P t ti) (hk:ti.kind=.slice) (hte:TyOK P ti.elem te) (hx:ρ x=.sl b off n e) (hel:fG st (ρ y) te.size=some (n',cs)) (hsz:e=te.size∧te.size≠0)
  (h:(xy st b off (cs.take (Nat.min n' n*te.size)) fun st=>k (.int .i64 ((Nat.min n' n:Nat):Int)) st)=some r) :
  ∃ av st',k av st'=some r∧ic P ρ st o av st':=by
 obtain⟨i,d,z,h1,h2,h3,h4,h5,h6,h7,h8,h9,h10,_⟩:=ht.ex
 obtain⟨i2,d2,z2,g1,g2,g3,g4,g5,g6,_⟩:=hte.ex
 obtain rfl:=h10 hk
 have e1:argTypes = #[t,t']:=Array.ext' (by simpa using hat)
 have e2:args = #[x,y]:=Array.ext' (by simpa using hax)
 subst e1 e2
 obtain⟨cells,st',s1,s2,s3,s4,s5,s6,s7,s8⟩:=q8 h
 refine ⟨_,st',s4,cm (gC s6 s7 s8 fun hb=>by omega) fun a m w hO hs hf=>?_⟩
 have hvx:=hO x (by simp[ho,Op.operands,Call.operands])
 have hvy:=hO y (by simp[ho,Op.operands,Call.operands])
 rw[hx,RV] at hvx
 obtain⟨rb,cap,hm,hvx,hcap,hroom⟩:=hvx
 have hfirst:∃ vs,(Builtin.lenOf (a.eval y)).run P w=.ok n' w∧(Builtin.firstCells i2.size (Nat.min n' n) (a.eval y)).run P w=.ok vs.toArray w∧RVs m w (cs.take (Nat.min n' n*te.size)) vs:=by
  unfold fG at hel
  split at hel
  ·rename_i hy
   simp only[Option.some.injEq,Prod.mk.injEq] at hel
   obtain⟨rfl,rfl⟩:=hel
   rw[hy,RV] at hvy
   exact⟨[],by simp[hvy,Builtin.lenOf],by simp[hvy,Builtin.firstCells],by simp[RVs]⟩
  ·rename_i b' o' n'' e' hy
   split at hel
   ·rename_i cells' hb'
    split at hel
    ·rename_i hle
     simp only[Option.some.injEq,Prod.mk.injEq] at hel
     obtain⟨rfl,rfl⟩:=hel
     rw[hy,RV] at hvy
     obtain⟨rb',cap',hm',hvy,hcap',hroom'⟩:=hvy
     have hmin:Nat.min n'' n*te.size≤n''*te.size:=Nat.mul_le_mul_right _ (Nat.min_le_left _ _)
     obtain⟨vs,q1,q2,_⟩:=lh (P:=P) hs (bE hb') hm' (o:=o') (n:=Nat.min n'' n*te.size) (by omega)
     refine ⟨vs,by simp[hvy,Builtin.lenOf],by rw[hvy];simp only[Builtin.firstCells];rw[←g4];exact q1,?_⟩
     rw[List.take_take,Nat.min_eq_left hmin]
     exact q2
    ·cases hel
   ·cases hel
  ·cases hel
 obtain⟨vs,f1,f2,f3⟩:=hfirst
 obtain⟨w',q1,q2,q3⟩:=sX (P:=P) hs s1 hm s2.2 s3 s5 s6 f3
 refine ⟨.int .i64 ((Nat.min n' n:Nat):Int),w',m,.inl ?_,jJ _ _ _ _,q2,q3,fun _ _=>rfl⟩
 simp[execOp,ho,resolve,invoke,builtin,Builtin.copy_,run_underlying h2,hvx,f1,bO g1,f2,q1,goInt]
end
end Go.Sx
namespace Go.Sx
open LimbNum
variable [Glob]
section
variable {P : Program} {E : Env} {ρ : Operand → AV} {st : Hp} {o : Oper} {β : Type} {k : AV → Hp → Option β} {r : β}
theorem xf (h:yX st k=some r):∃ st',k (.mp st.nx) st'=some r∧st'.h.get st.nx=some [.tup []]∧(∀ i,i≠st.nx→st'.h.get i=st.h.get i)∧st'.nx=st.nx+1∧st'.lo=st.lo:=by
 unfold yX at h
 obtain⟨t',h1,h2,h3⟩:=Tr.eh _ _ _ _ _ _ h
 simp only[aV] at h1
 exact⟨⟨t',st.nx+1,st.lo⟩,h1,h2,h3,rfl,rfl⟩
theorem q9 {b:Nat} {es:List AV} (h:AS st b es k=some r):∃ st',k .dead st'=some r∧st'.h.get b=some [.tup es]∧(∀ i,i≠b→st'.h.get i=st.h.get i)∧st'.nx=st.nx∧st'.lo=Nat.min st.lo b:=by
 unfold AS at h
 rw[bQ] at h
 obtain⟨t',h1,h2,h3⟩:=Tr.eh _ _ _ _ _ _ h
 simp only[aV] at h1
 exact⟨⟨t',st.nx,Nat.min st.lo b⟩,h1,h2,h3,rfl,rfl⟩
theorem nX {t:TypeId} {rs:Option Operand} (ho:o.op=.makeMap t rs) (hr:∀ (a:Act) (m:Nm) (w:World),ja m w ρ a o→(Instr.makeMap t (rs.map a.eval)).run P w=.ok (.map (some w.heap.size)) (w.alloc (.map #[] 0)))
  (h:yX st k=some r):∃ av st',k av st'=some r∧ic P ρ st o av st':=by
 obtain⟨st',s1,s2,s3,s4,s5⟩:=xf h
 refine ⟨_,st',s1,cm (eX s3 s4 s5) fun a m w hO hs hf=>?_⟩
 obtain⟨q1,q2⟩:=hs.Gz (hf st.nx (Nat.le_refl _) (by omega)) s2 s3 (.map #[] 0) (.inr ⟨[],[],#[],0,rfl,rfl,by simp[RVs]⟩)
 refine ⟨.map (some w.heap.size),_,_,.inl ?_,?_,q1,q2,fun b hb=>if_neg (by omega)⟩
 ·simp[execOp,ho,hr a m w hO]
 ·rw[RV];exact⟨w.heap.size,by simp,rfl⟩
theorem qF {t:TypeId} (a:Act) (w:World):(Instr.makeMap t ((none:Option Operand).map a.eval)).run P w=.ok (.map (some w.heap.size)) (w.alloc (.map #[] 0)):=by
 simp[Instr.makeMap,newObj,Sem.run,Bind.bind,Sem.bind]
theorem qG {t:TypeId} {x:Operand} {ti:TyI} {i:IntKind} {n:Int} (ht:TyOK P t ti) (hk:ti.kind=.map) (a:Act) (w:World) (hx:a.eval x=.int i n) :
  (Instr.makeMap t ((some x).map a.eval)).run P w=.ok (.map (some w.heap.size)) (w.alloc (.map #[] 0)):=by
 have h2:=ht.mapk hk
 simp[Instr.makeMap,run_underlying h2,hx,asInt,asIntOf,newObj,Sem.run]
def BO (m:Nm) (w:World):Option (Nat × AV)→Option (Nat × Value)→Prop
 | none,none=>True
 | some (j,a),some (j',v)=>j=j'∧RV m w a v
 | _,_=>False
theorem oL {t:TypeId} {d:TypeDesc} (hd:P.underlying t=some d) {u v:Value} {b:Bool} (h:Instr.sameNow d u v=some b) (D:Nat) (w:World):(Op.equalIn (D+1) t u v).run P w=.ok b w:=by
 unfold Instr.sameNow at h
 split at h
 ·rename_i k a k' b'
  split at h
  ·subst_vars
   simp only[Option.some.injEq] at h
   subst h
   simp[Op.equalIn,run_underlying hd]
  ·cases h
 ·simp only[Option.some.injEq] at h
  subst h
  simp[Op.equalIn,run_underlying hd]
 ·simp only[Option.some.injEq] at h
  subst h
  simp[Op.equalIn,run_underlying hd]
 ·cases h
theorem uV (hty:∀ t ti,E.ty.get t=some ti→TyOK P t ti) {kt:TypeId} {d:TypeDesc} (hd:P.underlying kt=some d) {m:Nm} {w:World} {kk:AV} {kv:Value} (hk:RV m w kk kv) :
  ∀ (es:List AV) (en:List MapEntry) (i:Nat) (q:Option (Nat × AV)),RVs m w es (en.map nJ)→kl (eqA E 8 kt) kk es i=some q →
   ∃ q',(Instr.findAsking kt kv en i).run P w=.ok q' w∧BO m w q q'∧∀ p,Instr.findNow d kv en i=some p→p=q'
 | [],en,i,q,he,h=>by
  have:en=[]:=by
   have:=he.length
   simpa using this.symm
  subst this
  simp only[kl,Option.some.injEq] at h
  subst h
  exact⟨none,by simp[Instr.findAsking],trivial,fun p hp=>by simp only[Instr.findNow,Option.some.injEq] at hp;exact hp.symm⟩
 | e::es,[],i,q,he,h=>by
  have:=he.length
  simp at this
 | e::es,x::en,i,q,he,h=>by
  rw[List.map_cons,RVs] at he
  obtain⟨v,l,he1,he2,he3⟩:=he
  cases he1
  unfold kl at h
  split at h
  ·rename_i k' v'
   rw[RV] at he2
   obtain⟨l,hl1,hl2⟩:=he2
   obtain⟨rfl⟩:l=[x.key,x.val]:=by
    have:(#[x.key,x.val]:Array Value)=l.toArray:=by
     unfold nJ at hl1
     exact Value.agg.inj hl1
    have:=congrArg Array.toList this
    simpa using this.symm
   rw[RVs] at hl2
   obtain⟨_,_,hh,hkey,hl3⟩:=hl2
   cases hh
   rw[RVs] at hl3
   obtain⟨_,_,hh,hval,_⟩:=hl3
   cases hh
   split at h
   ·rename_i hq
    have hr:=qu hty 8 kt kk k' true hq m w kv x.key hk hkey 10000 (by omega)
    simp only[Option.some.injEq] at h
    subst h
    refine ⟨some (i,x.val),?_,⟨rfl,hval⟩,fun p hp=>?_⟩
    ·simp[Instr.findAsking,j3 hr]
    ·unfold Instr.findNow at hp
     split at hp
     ·simp only[Option.some.injEq] at hp;exact hp.symm
     ·rename_i hs
      have:=(oL hd hs 9999 w).symm.trans hr
      cases this
     ·cases hp
   ·rename_i hq
    have hr:=qu hty 8 kt kk k' false hq m w kv x.key hk hkey 10000 (by omega)
    obtain⟨q',h1,h2,h3⟩:=uV hty hd hk es en (i+1) q he3 h
    refine ⟨q',?_,h2,fun p hp=>?_⟩
    ·simp[Instr.findAsking,j3 hr,h1]
    ·unfold Instr.findNow at hp
     split at hp
     ·rename_i hs
      have:=(oL hd hs 9999 w).symm.trans hr
      cases this
     ·exact h3 p hp
     ·cases hp
   ·cases h
  ·cases h
theorem jv (hty:∀ t ti,E.ty.get t=some ti→TyOK P t ti) {kt:TypeId} {d:TypeDesc} (hd:P.underlying kt=some d) {m:Nm} {w:World} {kk:AV} {kv:Value} (hk:RV m w kk kv) {es:List AV} {en:List MapEntry} {q:Option (Nat × AV)}
  (he:RVs m w es (en.map nJ)) (h:kl (eqA E 8 kt) kk es 0=some q):∃ q',(Instr.findKey kt kv en).run P w=.ok q' w∧BO m w q q':=by
 obtain⟨q',h1,h2,h3⟩:=uV hty hd hk es en 0 q he h
 refine ⟨q',?_,h2⟩
 unfold Instr.findKey
 simp only[Sem.run_bind,run_underlying hd,Result.andThen_ok]
 cases hf:Instr.findNow d kv en 0 with
 | none=>simpa using h1
 | some p=>rw[h3 p hf];simp
theorem nL {α:Type} {w:World} {body:α→PUnit→Sem (ForInStep PUnit)}:∀ (l:List α),(∀ f∈l,(body f ⟨⟩).run P w=.ok (.yield ⟨⟩) w)→(forIn l ⟨⟩ body).run P w=.ok ⟨⟩ w
 | [],_=>by simp
 | f::l,h=>by
  rw[List.forIn_cons]
  simp only[Sem.run_bind,h f (by simp),Result.andThen_ok]
  exact nL l fun g hg=>h g (by simp[hg])
theorem rX {α:Type} {w:World} {body:α→PUnit→Sem (ForInStep PUnit)} (l:List α) (h:∀ f∈l,(body f ⟨⟩).run P w=.ok (.yield ⟨⟩) w):((forIn l ⟨⟩ body).run P w).andThen (fun _ w'=>(pure ():Sem Unit).run P w')=.ok () w:=by
 rw[nL l h]
 rfl
theorem tW (hty:∀ t ti,E.ty.get t=some ti→TyOK P t ti):∀ (d:Nat) (t:TypeId) (x:AV),tV E d t x=true→∀ (m:Nm) (w:World) (v:Value),RV m w x v→∀ (D:Nat) (em:Bool),d≤D→(Instr.checkKey em D t v).run P w=.ok () w
 | 0,t,x,h=>by cases h
 | d+1,t,x,h=>by
  intro m w v hv D em hD
  obtain⟨D,rfl⟩:∃ D',D=D'+1:=⟨D-1,by omega⟩
  rw[tV] at h
  split at h
  ·cases h
  ·rename_i ti hti
   have ht:=hty _ _ hti
   obtain⟨i,de,z,h1,h2,h3,h4,h5,h6,h7,h8,h9,h10,h11⟩:=ht.ex
   obtain⟨m1,m2,m3,m4⟩:=ht.more de h2
   split at h
   ·rename_i b hk
    obtain rfl:=m3 hk
    rw[RV] at hv;subst hv
    simp[Instr.checkKey,run_underlying h2]
   ·rename_i ik n hk
    obtain rfl:=m1 hk
    rw[RV] at hv;subst hv
    simp[Instr.checkKey,run_underlying h2]
   ·rename_i s hk
    obtain rfl:=h11 hk
    rw[RV] at hv;subst hv
    simp[Instr.checkKey,run_underlying h2]
   ·rename_i xs hk
    obtain⟨fs,rfl,hfs⟩:=h8 hk
    rw[RV] at hv
    obtain⟨vs,rfl,hvs⟩:=hv
    simp only[Instr.checkKey,Sem.run_bind,run_underlying h2,Result.andThen_ok]
    rw[←Array.forIn_toList]
    refine rX _ fun f hf=>?_
    have hff:=List.all_eq_true.1 h (cV P f) (by rw[hfs];exact List.mem_map.2 ⟨f,hf,rfl⟩)
    split at hff
    ·cases hff
    ·rename_i hs
     obtain⟨j,e,e1,e2,_,_,_⟩:=gd (P:=P) (fd:=f) rfl hs
     have e3:(cV P f).1=f.offset:=by simp only[cV,e1,e2]
     have ety:(cV P f).2.1=f.type:=by simp only[cV,e1,e2]
     have e4:(cV P f).2.2.1=j.size:=by simp only[cV,e1,e2]
     have e5:(cV P f).2.2.2=jW e:=by simp only[cV,e1,e2]
     rw[e3,e4,e5,ety] at hff
     split at hff
     ·rename_i x' hpx
      obtain⟨u,p1,p2⟩:=qO e1 e2 rfl rfl hpx hvs
      have ih:=tW hty d f.type x' hff m w u p2 D em (by omega)
      by_cases hn : f.name = "_"
      ·simp[hn]
      ·simp[hn,p1,ih]
     ·cases hff
   ·cases h
theorem uS {a b:AV} (h:Aj a b=true):∀ (m m':Nm) (w w':World) (u v:Value),RV m w a u→RV m' w' b v→u=v∧∀ n,Instr.sameBits n u u=true:=by
 intro m m' w w' u v hu hv
 cases a<;>cases b<;>simp only[Aj,Bool.false_eq_true] at h
 ·rw[RV] at hu hv;subst hu hv
  have:=eq_of_beq h
  subst this
  exact⟨rfl,fun n=>by cases n<;>simp[Instr.sameBits]⟩
 ·rw[RV] at hu hv;subst hu hv
  simp only[Bool.and_eq_true,decide_eq_true_eq] at h
  obtain⟨rfl,rfl⟩:=h
  exact⟨rfl,fun n=>by cases n<;>simp[Instr.sameBits]⟩
 ·rw[RV] at hu hv;subst hu hv
  have:=eq_of_beq h
  subst this
  exact⟨rfl,fun n=>by cases n<;>simp[Instr.sameBits,beq_toListBytes]⟩
theorem uT:∀ (a b:List AV),Ak a b=true→∀ (m m':Nm) (w w':World) (us vs:List Value),RVs m w a us→RVs m' w' b vs→us=vs∧∀ n,((us.zip us).all fun (x,y)=>Instr.sameBits n x y)=true
 | [],[],_,m,m',w,w',us,vs,hu,hv=>by
  rw[RVs] at hu hv;subst hu hv
  exact⟨rfl,fun n=>rfl⟩
 | [],_::_,h,_,_,_,_,_,_,_,_=>by cases h
 | _::_,[],h,_,_,_,_,_,_,_,_=>by cases h
 | a::l,b::l',h,m,m',w,w',us,vs,hu,hv=>by
  simp only[Ak,Bool.and_eq_true] at h
  rw[RVs] at hu hv
  obtain⟨u,us,rfl,u1,u2⟩:=hu
  obtain⟨v,vs,rfl,v1,v2⟩:=hv
  obtain⟨rfl,q⟩:=uS h.1 m m' w w' u v u1 v1
  obtain⟨rfl,q'⟩:=uT l l' h.2 m m' w w' us vs u2 v2
  exact⟨rfl,fun n=>by simp only[List.zip_cons_cons,List.all_cons,q n,q' n,Bool.and_self]⟩
theorem Bt {a b:AV} (h:eqP a b=true) (m m':Nm) (w w':World) (u v:Value) (hu:RV m w a u) (hv:RV m' w' b v):u=v∧Instr.sameBits 10000 u v=true:=by
 unfold eqP at h
 split at h
 ·rw[RV] at hu hv
  obtain⟨us,rfl,hu⟩:=hu
  obtain⟨vs,rfl,hv⟩:=hv
  obtain⟨rfl,q⟩:=uT _ _ h m m' w w' us vs hu hv
  refine ⟨rfl,?_⟩
  show Instr.sameBits (9999+1) _ _=true
  simp only[Instr.sameBits,beq_self_eq_true,Bool.true_and]
  exact q 9999
 ·obtain⟨rfl,q⟩:=uS h m m' w w' u v hu hv
  exact⟨rfl,q 10000⟩
theorem fu {w:World} {rb:Nat} {en:Array MapEntry} {ck:Nat} (h:w.heap[rb]?=some (.map en ck)):(getObj rb).run P w=.ok (.map en ck) w:=by
 unfold getObj
 simp[Sem.run,h]
theorem oH {w:World} {rb:Nat} {en:Array MapEntry} {ck:Nat} (h:w.heap[rb]?=some (.map en ck)) (ob:Obj):(setObj rb ob).run P w=.ok () { w with heap:=w.heap.setIfInBounds rb ob }:=by
 unfold setObj
 simp[Sem.run,h]
theorem sB {m:Nm} {w:World} {st st':Hp} {b rb:Nat} {es es' l:List AV} {en en':Array MapEntry} {ck ck':Nat} (hs:RS m w st.h.get) (hb:st.h.get b=some (.tup es::l)) (hm:m b=some rb) (hw:w.heap[rb]?=some (.map en ck))
  (hget:st'.h.get b=some [.tup es']) (hoth:∀ i,i≠b→st'.h.get i=st.h.get i) (he:RVs m w es' (en'.toList.map nJ)) :
  RS m { w with heap:=w.heap.setIfInBounds rb (.map en' ck') } st'.h.get∧To m st.h.get w m st'.h.get { w with heap:=w.heap.setIfInBounds rb (.map en' ck') }:=by
 have hlt:=iW hw
 have hself:(w.heap.setIfInBounds rb (.map en' ck'))[rb]?=some (.map en' ck'):=by simp[hlt]
 have hne:∀ k,k≠rb→(w.heap.setIfInBounds rb (.map en' ck'))[k]?=w.heap[k]?:=fun k hk=>by rw[Array.getElem?_setIfInBounds_ne (by omega)]
 have hg:Grow w { w with heap:=w.heap.setIfInBounds rb (.map en' ck') }:=⟨by simp,fun k c e f hk=>by
  by_cases hkr:k=rb
  ·subst hkr;rw[hw] at hk;cases hk
  ·exact⟨c,f,by show (w.heap.setIfInBounds rb _)[k]?=_;rw[hne k hkr];exact hk,rfl⟩⟩
 have hu:U64 w { w with heap:=w.heap.setIfInBounds rb (.map en' ck') }:=fun a n ha=>by
  unfold World.cell? at ha ⊢
  by_cases hab:a.block=rb
  ·rw[hab,hw] at ha
   simp at ha
  ·show (match (w.heap.setIfInBounds rb _)[a.block]? with|some (.cells c _ _)=>_|_=>_)=_
   rw[hne _ hab];exact ha
 have hdom:∀ x,st'.h.get x≠none→st.h.get x≠none:=fun x hx'=>by
  by_cases hxb:x=b
  ·subst hxb;rw[hb];simp
  ·rwa [←hoth x hxb]
 have hto:To m st.h.get w m st'.h.get { w with heap:=w.heap.setIfInBounds rb (.map en' ck') }:=
  ⟨Ext.rfl' _,hg,hu,⟨rfl,rfl,rfl⟩,fun k hk hn=>hne k fun hkr=>by subst hkr;exact hn b (by rw[hb];simp) hm,fun x y hx hmx=>.inr ⟨x,hdom x hx,hmx⟩⟩
 refine ⟨⟨fun x cs y hx hmx=>?_,fun x y z hx hy hmx hmy=>hs.inj x y z (hdom x hx) (hdom y hy) hmx hmy,hs.glob.to hto⟩,hto⟩
 by_cases hxb:x=b
 ·subst hxb
  rw[hget] at hx;cases hx
  rw[hm] at hmx;cases hmx
  exact⟨_,hself,.inr ⟨es',[],en',ck',rfl,rfl,hto.rvs he⟩⟩
 ·rw[hoth x hxb] at hx
  obtain⟨ob,q2,q3⟩:=hs.obj x cs y hx hmx
  have hr:y≠rb:=fun hy=>hxb (hs.inj x b rb (by rw[hx];simp) (by rw[hb];simp) (hy ▸ hmx) hm)
  exact⟨ob,by show (w.heap.setIfInBounds rb _)[y]?=_;rw[hne y hr];exact q2,q3.to hto⟩
theorem qg (hty:∀ t ti,E.ty.get t=some ti→TyOK P t ti) {t:TypeId} {x y z:Operand} (ho:o.op=.mapUpdate t x y z∨o.op=.insert t x y z) (h:mT E st t (ρ x) (ρ y) (ρ z) k=some r) :
  ∃ av st',k av st'=some r∧ic P ρ st o av st':=by
 have hex:∀ (a:Act) (w:World),(execOp a.eval o).run P w=((Instr.mapUpdate t (a.eval x) (a.eval y) (a.eval z)).run P w).andThen fun _ w'=>.ok .skip w':=fun a w=>by
  rcases ho with ho|ho<;>simp[execOp,ho]
 have hops:∀ u,u=x∨u=y∨u=z→u∈o.op.operands:=fun u hu=>by
  rcases ho with ho|ho<;>(rw[ho];simp only[Op.operands];rcases hu with rfl|rfl|rfl<;>simp)
 unfold mT at h
 split at h
 ·rename_i ti b hti hx
  split at h
  ·rename_i hk
   have hmap:=(hty _ _ hti).mapk hk
   split at h
   ·rename_i es hes
    obtain⟨hlt,l,hb⟩:=fo hes
    split at h
    ·rename_i hkey
     have hkd:∃ d,P.underlying ti.len=some d:=by
      rw[tV] at hkey
      split at hkey
      ·cases hkey
      ·obtain⟨_,d,_,_,h2,_⟩:=(hty _ _ ‹_›).ex
       exact⟨d,h2⟩
     obtain⟨d,hd⟩:=hkd
     have common:∀ (a:Act) (m:Nm) (w:World),ja m w ρ a o→RS m w st.h.get→∃ rb en ck,m b=some rb∧a.eval x=.map (some rb)∧w.heap[rb]?=some (.map en ck)∧RVs m w es (en.toList.map nJ)∧(Instr.checkKey false 10000 ti.len (a.eval y)).run P w=.ok () w:=fun a m w hO hs=>by
      have hv:=hO x (hops x (.inl rfl))
      rw[hx,RV] at hv
      obtain⟨rb,hm,hv⟩:=hv
      obtain⟨en,ck,q1,q2⟩:=hs.mp b es l rb hb hm
      exact⟨rb,en,ck,hm,hv,q1,q2,tW hty 8 ti.len (ρ y) hkey m w _ (hO y (hops y (.inr (.inl rfl)))) 10000 false (by omega)⟩
     split at h
     ·rename_i hf
      obtain⟨st',s1,s2,s3,s4,s5⟩:=q9 h
      refine ⟨_,st',s1,cm (gC s3 s4 s5 fun hb'=>by omega) fun a m w hO hs hfr=>?_⟩
      obtain⟨rb,en,ck,hm,hv,q1,q2,q3⟩:=common a m w hO hs
      have hky:=hO y (hops y (.inr (.inl rfl)))
      have hkz:=hO z (hops z (.inr (.inr rfl)))
      obtain⟨q',f1,f2⟩:=jv hty hd hky q2 hf
      cases q' with
      | some p=>cases f2
      | none=>
       obtain⟨g1,g2⟩:=sB (ck':=ck+1) (en':=en.push { key:=a.eval y,val:=a.eval z,born:=ck }) hs hb hm q1 s2 s3 (by
        rw[Array.toList_push,List.map_append]
        refine q2.append ?_
        rw[List.map_cons,List.map_nil,RVs]
        refine ⟨_,[],rfl,?_,by rw[RVs]⟩
        rw[RV]
        exact⟨[a.eval y,a.eval z],rfl,by rw[RVs];exact⟨_,_,rfl,hky,by rw[RVs];exact⟨_,_,rfl,hkz,by rw[RVs]⟩⟩⟩)
       refine ⟨undef,_,m,.inr ⟨?_,rfl⟩,kC _ _ _,g1,g2,fun _ _=>rfl⟩
       rw[hex]
       simp[Instr.mapUpdate,run_underlying hmap,hv,fu q1,q3,f1,oH q1]
     ·rename_i i v hf
      split at h
      ·rename_i k' v' hn
       split at h
       ·rename_i hp
        obtain⟨st',s1,s2,s3,s4,s5⟩:=q9 h
        refine ⟨_,st',s1,cm (gC s3 s4 s5 fun hb'=>by omega) fun a m w hO hs hfr=>?_⟩
        obtain⟨rb,en,ck,hm,hv,q1,q2,q3⟩:=common a m w hO hs
        have hky:=hO y (hops y (.inr (.inl rfl)))
        have hkz:=hO z (hops z (.inr (.inr rfl)))
        obtain⟨q',f1,f2⟩:=jv hty hd hky q2 hf
        cases q' with
        | none=>cases f2
        | some p=>
         obtain⟨j,pv⟩:=p
         obtain⟨rfl,f3⟩:=f2
         rw[jE] at hn
         obtain⟨ev,e1,e2⟩:=q2.get hn
         rw[List.getElem?_map] at e1
         cases hen:en.toList[i]? with
         | none=>rw[hen] at e1;cases e1
         | some ent=>
          rw[hen] at e1
          simp only[Option.map_some,Option.some.injEq] at e1
          subst e1
          have hen':en[i]?=some ent:=by rw[←Array.getElem?_toList];exact hen
          rw[RV] at e2
          obtain⟨l2,hl1,hl2⟩:=e2
          obtain⟨rfl⟩:l2=[ent.key,ent.val]:=by
           have:(#[ent.key,ent.val]:Array Value)=l2.toArray:=by
            unfold nJ at hl1
            exact Value.agg.inj hl1
           have:=congrArg Array.toList this
           simpa using this.symm
          rw[RVs] at hl2
          obtain⟨_,_,hh,hkey',_⟩:=hl2
          cases hh
          obtain⟨hsame1,hsame2⟩:=Bt hp m m w w _ _ hkey' hky
          have hstay:(Instr.keyThatStays ent.key (a.eval y)).run P w=.ok (a.eval y) w:=by simp[Instr.keyThatStays,hsame2]
          obtain⟨g1,g2⟩:=sB (ck':=ck) (en':=en.modify i fun e=>{ e with key:=a.eval y,val:=a.eval z }) hs hb hm q1 s2 s3 (by
           have:(en.modify i fun e=>{ e with key:=a.eval y,val:=a.eval z }).toList.map nJ=(en.toList.map nJ).set i (.agg #[a.eval y,a.eval z]):=by
            apply List.ext_getElem?
            intro j
            rw[List.getElem?_map,Array.getElem?_toList,Array.getElem?_modify,List.getElem?_set,List.getElem?_map,Array.getElem?_toList]
            by_cases hij:i=j
            ·subst hij
             have hil:i<en.size:=(Array.getElem?_eq_some_iff.1 hen').1
             simp[hen',nJ,hil]
            ·simp[hij]
           rw[this]
           refine q2.set i ?_
           rw[RV]
           exact⟨[a.eval y,a.eval z],rfl,by rw[RVs];exact⟨_,_,rfl,hky,by rw[RVs];exact⟨_,_,rfl,hkz,by rw[RVs]⟩⟩⟩)
          refine ⟨undef,_,m,.inr ⟨?_,rfl⟩,kC _ _ _,g1,g2,fun _ _=>rfl⟩
          rw[hex]
          simp[Instr.mapUpdate,run_underlying hmap,hv,fu q1,q3,f1,oH q1,hen',hstay]
       ·cases h
      ·cases h
     ·cases h
    ·cases h
   ·cases h
  ·cases h
 ·cases h
theorem pY (b:Nat) (h:Hf):only (some b) h b=h b:=by simp[only]
theorem Bg {te:TyI} {t:TypeId} {i:TypeInfo} {z:Value} {za:AV} (ht:TyOK P t te) (h1:P.info? t=some i) (h3:i.zero=some z) (hz:zO te=some za) (m:Nm) (w:World):RV m w za z:=by
 obtain⟨i',d,z',g1,g2,g3,g4,g5,g6,g7,_⟩:=ht.ex
 rw[h1] at g1;cases g1
 rw[h3] at g3;cases g3
 have hzf:=ht.zform i z h1 h3
 have hcells:RVs m w te.zero z.cells.toList:=by
  rw[g6]
  exact RVs.eK (by simp) fun j a ha=>by
   rw[List.getElem?_map] at ha
   cases hj:z.cells.toList[j]? with
   | none=>rw[hj] at ha;cases ha
   | some v=>
    rw[hj] at ha
    simp only[Option.map_some,Option.some.injEq] at ha
    subst ha
    exact⟨v,rfl,j5 m w v⟩
 unfold zO at hz
 split at hz
 ·rename_i hag
  cases hz
  rw[hzf.1 hag,RV]
  exact⟨z.cells.toList,by simp,hcells⟩
 ·rename_i v hag hzv
  cases hz
  rw[hzv,hzf.2 hag,RVs] at hcells
  obtain⟨v',l,e1,e2,_⟩:=hcells
  simp only[List.cons.injEq] at e1
  rw[e1.1];exact e2
 ·cases hz
theorem xc (hty:∀ t ti,E.ty.get t=some ti→TyOK P t ti) {t:TypeId} {x y:Operand} {ok:Bool} (ho:o.op=.lookup t x y ok) (h:uZ E st t (ρ x) (ρ y) ok k=some r) :
  ∃ av,k av st=some r∧bc P ρ st.h.get o av:=by
 unfold uZ at h
 split at h
 ·rename_i ti hti
  split at h
  ·rename_i hk
   have hmap:=(hty _ _ hti).mapk hk
   split at h
   ·rename_i es hes
    split at h
    ·rename_i hkey
     have hkd:∃ d,P.underlying ti.len=some d:=by
      rw[tV] at hkey
      split at hkey
      ·cases hkey
      ·obtain⟨_,d,_,_,h2,_⟩:=(hty _ _ ‹_›).ex
       exact⟨d,h2⟩
     obtain⟨d,hd⟩:=hkd
     have common:∀ (a:Act) (m:Nm) (w:World),ja m w ρ a o→RS m w (only (gA ρ o) st.h.get)→∀ q,kl (eqA E 8 ti.len) (ρ y) es 0=some q →
       ∃ q',BO m w q q'∧∀ c:Value × Bool,(match q' with|some (_,v)=>pure (v,true)|none=>(do pure (←zeroValue ti.elem,false)):Sem (Value × Bool)).run P w=.ok c w →
        (execOp a.eval o).run P w=.ok (.value (if ok then .tuple #[c.1,.bool c.2] else c.1)) w:=by
      intro a m w hO hs q hq
      have hv:=hO x (by simp[ho,Op.operands])
      have hky:=hO y (by simp[ho,Op.operands])
      have hck:∀ em,(Instr.checkKey em 10000 ti.len (a.eval y)).run P w=.ok () w:=fun em=>tW hty 8 ti.len (ρ y) hkey m w _ hky 10000 em (by omega)
      split at hes
      ·rename_i b hx
       obtain⟨hlt,l,hb⟩:=fo hes
       have hrd:gA ρ o=some b:=by unfold gA;rw[ho];simp only[hx]
       rw[hrd] at hs
       rw[hx,RV] at hv
       obtain⟨rb,hm,hv⟩:=hv
       obtain⟨en,ck,q1,q2⟩:=hs.mp b es l rb (by rw[pY];exact hb) hm
       obtain⟨q',f1,f2⟩:=jv hty hd hky q2 hq
       refine ⟨q',f2,fun c hc=>?_⟩
       cases q' with
       | none=>
        simp only at hc
        simp only[execOp,ho,Sem.run_bind,Instr.lookup,run_underlying hmap,Result.andThen_ok,hv,fu q1,Sem.run_pure,hck,f1]
        simp only[Sem.run_bind,Sem.run_pure] at hc
        cases hz:(zeroValue ti.elem).run P w with
        | ok z w'=>
         rw[hz] at hc
         simp only[Result.andThen_ok,Result.ok.injEq] at hc
         obtain⟨rfl,rfl⟩:=hc
         simp
        | halt hh w'=>rw[hz] at hc;simp[Result.andThen] at hc
       | some p=>
        obtain⟨j,v⟩:=p
        simp only[Sem.run_pure,Result.ok.injEq,and_true] at hc
        subst hc
        simp[execOp,ho,Instr.lookup,run_underlying hmap,hv,fu q1,hck,f1]
      ·rename_i hx
       cases hes
       rw[hx,RV] at hv
       simp only[kl,Option.some.injEq] at hq
       subst hq
       have f1:(Instr.findKey ti.len (a.eval y) []).run P w=.ok none w:=by simp[Instr.findKey,run_underlying hd,Instr.findNow]
       refine ⟨none,trivial,fun c hc=>?_⟩
       simp only at hc
       simp only[execOp,ho,Sem.run_bind,Instr.lookup,run_underlying hmap,Result.andThen_ok,hv,Sem.run_pure,hck,f1]
       simp only[Sem.run_bind,Sem.run_pure] at hc
       cases hz:(zeroValue ti.elem).run P w with
       | ok z w'=>
        rw[hz] at hc
        simp only[Result.andThen_ok,Result.ok.injEq] at hc
        obtain⟨rfl,rfl⟩:=hc
        simp
       | halt hh w'=>rw[hz] at hc;simp[Result.andThen] at hc
      ·cases hes
     split at h
     ·rename_i hf
      split at h
      ·rename_i te hte
       split at h
       ·rename_i z hz
        obtain⟨i2,d2,z2,g1,g2,g3,_⟩:=(hty _ _ hte).ex
        have hzv:=fun m w=>Bg (hty _ _ hte) g1 g3 hz m w
        split at h
        ·refine ⟨_,h,fun a m w hO hs=>?_⟩
         obtain⟨q',f1,f2⟩:=common a m w hO hs none hf
         cases q' with
         | some p=>cases f1
         | none=>
          refine ⟨_,f2 (z2,false) (by simp[oI g1 g3]),?_⟩
          simp only[if_true]
          rw[RV]
          exact⟨[z2,.bool false],rfl,by rw[RVs];exact⟨_,_,rfl,hzv m w,by rw[RVs];exact⟨_,_,rfl,eS _ _ _,by rw[RVs]⟩⟩⟩
        ·refine ⟨_,h,fun a m w hO hs=>?_⟩
         obtain⟨q',f1,f2⟩:=common a m w hO hs none hf
         cases q' with
         | some p=>cases f1
         | none=>exact⟨_,f2 (z2,false) (by simp[oI g1 g3]),hzv m w⟩
       ·cases h
      ·cases h
     ·rename_i i v hf
      split at h
      ·refine ⟨_,h,fun a m w hO hs=>?_⟩
       obtain⟨q',f1,f2⟩:=common a m w hO hs _ hf
       cases q' with
       | none=>cases f1
       | some p=>
        obtain⟨j,v'⟩:=p
        refine ⟨_,f2 (v',true) (by simp),?_⟩
        simp only[if_true]
        rw[RV]
        exact⟨[v',.bool true],rfl,by rw[RVs];exact⟨_,_,rfl,f1.2,by rw[RVs];exact⟨_,_,rfl,eS _ _ _,by rw[RVs]⟩⟩⟩
      ·refine ⟨_,h,fun a m w hO hs=>?_⟩
       obtain⟨q',f1,f2⟩:=common a m w hO hs _ hf
       cases q' with
       | none=>cases f1
       | some p=>
        obtain⟨j,v'⟩:=p
        exact⟨_,f2 (v',true) (by simp),f1.2⟩
     ·cases h
    ·cases h
   ·cases h
  ·cases h
 ·cases h
theorem BA {t:TypeId} {x:Operand} {ti:TyI} {b:Nat} {es:List AV} {args:Array Operand} {argTypes:Array TypeId} (ho:o.op=.call { callee:=.builtin .len,args,argTypes }) (ht:TyOK P t ti)
  (ha:argTypes[0]?=some t) (hx:args[0]?=some x) (hk:ti.kind=.map) (hv:ρ x=.mp b) (hes:pS st b=some es):bc P ρ st.h.get o (.int .i64 ((es.length:Nat):Int)):=by
 have hmap:=ht.mapk hk
 obtain⟨hlt,l,hb⟩:=fo hes
 have hrd:gA ρ o=some b:=by unfold gA;rw[ho];simp only[hx,hv]
 intro a m w hO hs
 have hev:=hO x (by simp only[ho,Op.operands,Call.operands];exact Array.mem_append.2 (.inr (Array.mem_of_getElem? hx)))
 rw[hv,RV] at hev
 obtain⟨rb,hm,hev⟩:=hev
 rw[hrd] at hs
 obtain⟨en,ck,q1,q2⟩:=hs.mp b es l rb (by rw[pY];exact hb) hm
 have hlen:es.length=en.size:=by
  have:=q2.length
  simpa using this
 refine ⟨.int .i64 ((es.length:Nat):Int),?_,by rw[RV]⟩
 simp[execOp,ho,resolve,invoke,builtin,Builtin.len_,ha,hx,run_underlying hmap,hev,goInt,fu q1,hlen]
theorem yQ {t:TypeId} {x:Operand} {ti:TyI} {args:Array Operand} {argTypes:Array TypeId} (ho:o.op=.call { callee:=.builtin .len,args,argTypes }) (ht:TyOK P t ti)
  (ha:argTypes[0]?=some t) (hx:args[0]?=some x) (hk:ti.kind=.map) (hv:ρ x=.nilm):bc P ρ st.h.get o (.int .i64 0):=by
 have hmap:=ht.mapk hk
 intro a m w hO hs
 have hev:=hO x (by simp only[ho,Op.operands,Call.operands];exact Array.mem_append.2 (.inr (Array.mem_of_getElem? hx)))
 rw[hv,RV] at hev
 refine ⟨.int .i64 0,?_,by rw[RV]⟩
 simp[execOp,ho,resolve,invoke,builtin,Builtin.len_,ha,hx,run_underlying hmap,hev,goInt]
theorem AD {t:TypeId} {x:Operand} {ti:TyI} {n:Nat} {args:Array Operand} {argTypes:Array TypeId} (ho:o.op=.call { callee:=.builtin .len,args,argTypes }) (ht:TyOK P t ti)
  (ha:argTypes[0]?=some t) (hx:args[0]?=some x) (hk:ti.kind=.slice) (hv:ρ x=.big n):bc P ρ st.h.get o (.int .i64 ((szL n:Nat):Int)):=by
 obtain⟨i1,d,z,h1,h2,h3,h4,h5,h6,h7,h8,h9,h10,h11⟩:=ht.ex
 obtain rfl:=h10 hk
 intro a m w hO hs
 have hev:=hO x (by simp only[ho,Op.operands,Call.operands];exact Array.mem_append.2 (.inr (Array.mem_of_getElem? hx)))
 rw[hv,RV] at hev
 obtain⟨ad,c,hev,_⟩:=hev
 refine ⟨.int .i64 ((szL n:Nat):Int),?_,by rw[RV]⟩
 rw[zJ]
 simp[execOp,ho,resolve,invoke,builtin,Builtin.len_,ha,hx,run_underlying h2,hev,goInt]
end
end Go.Sx
namespace Go.Sx
open LimbNum
variable [Glob]
section
variable {P : Program} {E : Env} {ρ : Operand → AV} {st : Hp} {o : Oper} {β : Type} {k : AV → Hp → Option β} {r : β}
theorem ax {o':Op} (ho:o.op=o') (hk:kd o'=0) (h:∃ av,k av st=some r∧bc P ρ st.h.get o av):∃ av st',k av st'=some r∧zS P ρ st o av st':=by
 obtain⟨av,h1,h2⟩:=h
 exact⟨av,st,h1,fun _=>⟨rfl,h2⟩,fun hn=>absurd (by rw[ho];exact hk) hn⟩
theorem cD {o':Op} (ho:o.op=o') (hk:kd o'≠0) (h:∃ av st',k av st'=some r∧ic P ρ st o av st'):∃ av st',k av st'=some r∧zS P ρ st o av st':=by
 obtain⟨av,st',h1,h2⟩:=h
 exact⟨av,st',h1,fun hn=>absurd (by rw[←ho];exact hn) hk,fun _=>h2⟩
theorem Bp (hty:∀ t ti,E.ty.get t=some ti→TyOK P t ti) (h:aop E ρ st o k=some r):∃ av st',k av st'=some r∧zS P ρ st o av st':=by
 unfold aop at h
 split at h
 ·rename_i x ho
  rw[gf] at h
  exact ax ho rfl ⟨_,h,ve (.inl ho)⟩
 ·rename_i x ho
  rw[gf] at h
  exact ax ho rfl ⟨_,h,ve (.inr ho)⟩
 ·rename_i c x y ho
  unfold Bj at h
  split at h
  ·rw[gf] at h
   exact ax ho rfl ⟨_,h,vu (b:=true) ho ‹_›⟩
  ·rw[gf] at h
   exact ax ho rfl ⟨_,h,vu (b:=false) ho ‹_›⟩
  ·cases h
 ·rename_i t ho
  unfold yY at h
  split at h
  ·exact cD ho (by simp[kd]) (y9 ho (hty _ _ ‹_›) h)
  ·cases h
 ·rename_i t x ho
  unfold GA at h
  split at h
  ·exact cD ho (by simp[kd]) (Bs ho ‹_› h)
  ·cases h
 ·rename_i t x ho
  unfold zd at h
  split at h
  ·exact ax ho rfl (AG ho (hty _ _ ‹_›) ‹_› h)
  ·split at h
   ·exact ax ho rfl (AE ho (hty _ _ ‹_›) ‹_› ‹_› h)
   ·cases h
  ·cases h
 ·rename_i t p x ho
  unfold ze at h
  split at h
  ·split at h
   ·exact cD ho (by simp[kd]) (zF ho (hty _ _ ‹_›) ‹_› ‹_› ‹_› h)
   ·cases h
  ·cases h
 ·rename_i s x f ho
  unfold ou at h
  split at h
  ·split at h
   ·split at h
    ·split at h
     ·cases h
     ·rw[aV] at h
      exact ax ho rfl ⟨_,h,qw ho (hty _ _ ‹_›) ‹_› ‹_› ‹_› ‹_›⟩
    ·cases h
   ·cases h
  ·split at h
   ·split at h
    ·split at h
     ·cases h
     ·rw[aV] at h
      exact ax ho rfl ⟨_,h,qv ho (hty _ _ ‹_›) ‹_› ‹_› ‹_› ‹_›⟩
    ·cases h
   ·cases h
  ·cases h
 ·rename_i s x f ho
  unfold z8 at h
  split at h
  ·split at h
   ·split at h
    ·split at h
     ·cases h
     ·exact ax ho rfl (yD ho (hty _ _ ‹_›) ‹_› ‹_› ‹_› ‹_› h)
    ·cases h
   ·cases h
  ·cases h
 ·rename_i t x i ho
  unfold ow at h
  split at h
  ·split at h
   ·split at h
    ·rw[aV] at h
     exact ax ho rfl ⟨_,h,qB ho (hty _ _ ‹_›) (hty _ _ ‹_›) ‹_› ‹_› ‹_› ‹_›⟩
    ·cases h
   ·split at h
    ·rw[aV] at h
     exact ax ho rfl ⟨_,h,px ho (hty _ _ ‹_›) (hty _ _ ‹_›) ‹_› ‹_› ‹_› ‹_›⟩
    ·cases h
   ·split at h
    ·rw[aV] at h
     exact ax ho rfl ⟨_,h,qA ho (hty _ _ ‹_›) (hty _ _ ‹_›) ‹_› ‹_› ‹_› ‹_›⟩
    ·cases h
   ·cases h
  ·cases h
 ·rename_i t x i ho
  unfold zc at h
  split at h
  ·split at h
   ·split at h
    ·split at h
     ·rw[dh] at h
      exact ax ho rfl ⟨_,h,wM ho (hty _ _ ‹_›) ‹_› ‹_› ‹_› ‹_› ‹_›⟩
     ·cases h
    ·cases h
   ·split at h
    ·split at h
     ·exact ax ho rfl (wL ho (hty _ _ ‹_›) (hty _ _ ‹_›) ‹_› ‹_› ‹_› ‹_› h)
     ·cases h
    ·cases h
   ·cases h
  ·cases h
 ·rename_i x i ho
  unfold sH at h
  split at h
  ·split at h
   ·rw[gf] at h
    exact ax ho rfl ⟨_,h,tQ ho ‹_› ‹_›⟩
   ·cases h
  ·cases h
 ·rename_i t parts ho
  unfold z6 at h
  split at h
  ·split at h
   ·split at h
    ·exact ax ho rfl (mu ho (hty _ _ ‹_›) ‹_› ‹_› h)
    ·cases h
   ·split at h
    ·exact ax ho rfl (nv ho (hty _ _ ‹_›) ‹_› (hty _ _ ‹_›) h)
    ·cases h
   ·cases h
  ·cases h
 ·rename_i t len parts ho
  unfold lT at h
  split at h
  ·split at h
   ·split at h
    ·exact cD ho (by simp[kd]) (pq ho (hty _ _ ‹_›) ‹_› (hty _ _ ‹_›) ‹_› h)
    ·cases h
   ·cases h
  ·cases h
 ·rename_i op t x y t' ho
  unfold yZ at h
  split at h
  ·split at h
   ·exact ax ho rfl (sY ho (.inl rfl) ‹_› ‹_› h)
   ·exact ax ho rfl (sY ho (.inr rfl) ‹_› ‹_› h)
   ·split at h
    ·subst_vars
     exact ax ho rfl (vZ ho ‹_› ‹_› h)
    ·cases h
  ·split at h
   ·subst_vars
    exact ax ho rfl (yF ho ‹_› ‹_› h)
   ·cases h
  ·exact ax ho rfl (BV ho ‹_› ‹_› h)
  ·split at h
   ·split at h
    ·exact ax ho rfl (wE ho (hty _ _ ‹_›) ‹_› ‹_› ‹_› h)
    ·cases h
   ·cases h
  ·split at h
   ·split at h
    ·split at h
     ·exact ax ho rfl (yz hty ho (hty _ _ ‹_›) ‹_› ‹_› ‹_› ‹_› h)
     ·cases h
    ·cases h
   ·cases h
  ·cases h
 ·rename_i x ho
  unfold pX at h
  split at h
  ·exact ax ho rfl ⟨_,h,qK ho ‹_›⟩
  ·exact ax ho rfl ⟨_,h,sD ho ‹_›⟩
  ·cases h
 ·rename_i s d x ho
  unfold ot at h
  split at h
  ·split at h
   ·rw[dh] at h;exact ax ho rfl ⟨_,h,Ae ho (hty _ _ ‹_›) (hty _ _ ‹_›) ‹_› ‹_›⟩
   ·split at h
    ·split at h
     ·rw[dh] at h;exact ax ho rfl ⟨_,h,Ac ho (hty _ _ ‹_›) (hty _ _ ‹_›) ‹_› ‹_› ‹_› ‹_›⟩
     ·cases h
    ·cases h
   ·rw[aV] at h;exact ax ho rfl ⟨_,h,Ad ho (hty _ _ ‹_›) (hty _ _ ‹_›) ‹_› ‹_›⟩
   ·split at h
    ·rename_i heq
     rw[heq] at h
     exact ax ho rfl ⟨_,h,wu ho (hty _ _ ‹_›) (hty _ _ ‹_›) ‹_› ‹_› ‹_›⟩
    ·split at h
     ·split at h
      ·cases h
      ·rw[aV] at h
       exact ax ho rfl ⟨_,h,Ab ho (hty _ _ ‹_›) (hty _ _ ‹_›) ‹_› ‹_› ‹_› ‹_› ‹_›⟩
     ·cases h
   ·split at h
    ·exact ax ho rfl ⟨_,h,Af ho (hty _ _ ‹_›) (hty _ _ ‹_›) ‹_› ‹_› ‹_›⟩
    ·cases h
   ·split at h
    ·split at h
     ·exact ax ho rfl (tJ ho (hty _ _ ‹_›) (hty _ _ ‹_›) ‹_› ‹_› (hty _ _ ‹_›) ‹_› ‹_› ‹_› h)
     ·cases h
    ·cases h
   ·cases h
  ·cases h
 ·rename_i t x lo hi ho
  unfold um at h
  split at h
  ·split at h
   ·split at h
    ·simp only[aV] at h
     exact ax ho rfl ⟨_,h,zC ho (hty _ _ ‹_›) ‹_› (hty _ _ ‹_›) ‹_› ‹_› ‹_› ‹_›⟩
    ·cases h
   ·cases h
  ·split at h
   ·split at h
    ·rw[bQ] at h
     exact ax ho rfl ⟨_,h,xE ho (hty _ _ ‹_›) ‹_› ‹_› ‹_› ‹_› ‹_›⟩
    ·cases h
   ·cases h
  ·split at h
   ·split at h
    ·simp only[aV] at h
     exact ax ho rfl ⟨_,h,xD ho (hty _ _ ‹_›) ‹_› (hty _ _ ‹_›) ‹_› ‹_› ‹_› ‹_› ‹_›⟩
    ·cases h
   ·cases h
  ·cases h
 ·rename_i op t x ho
  unfold Bl at h
  split at h
  ·rw[aV] at h;exact ax ho rfl ⟨_,h,AK ho ‹_›⟩
  ·rw[eW] at h;exact ax ho rfl ⟨_,h,BG ho ‹_›⟩
  ·rw[dh] at h;exact ax ho rfl ⟨_,h,BD ho ‹_›⟩
  ·cases h
 ·rename_i t l c ho
  unfold ox at h
  split at h
  ·split at h
   ·split at h
    ·simp only[aV,bQ] at h
     rename_i hc
     exact cD ho (by simp[kd]) (qH ho (hty _ _ ‹_›) ‹_› (hty _ _ ‹_›) ‹_› ‹_› hc h)
    ·cases h
   ·cases h
  ·cases h
 ·rename_i args argTypes ho
  unfold vl at h
  split at h
  ·split at h
   ·subst_vars
    split at h
    ·split at h
     ·exact cD ho (by simp[kd]) (vU ho ‹_› ‹_› (hty _ _ ‹_›) ‹_› (hty _ _ ‹_›) h)
     ·cases h
    ·cases h
   ·cases h
  ·cases h
 ·rename_i args argTypes ho
  unfold Bi at h
  split at h
  ·split at h
   ·split at h
    ·split at h
     ·split at h
      ·simp only[aV,bQ] at h
       exact cD ho (by simp[kd]) (Ag ho ‹_› ‹_› (hty _ _ ‹_›) ‹_› (hty _ _ ‹_›) ‹_› ‹_› ‹_› h)
      ·cases h
     ·cases h
    ·cases h
   ·cases h
  ·cases h
 ·rename_i args argTypes ho
  unfold GB at h
  split at h
  ·split at h
   ·split at h
    ·rw[dh] at h
     exact ax ho rfl ⟨_,h,BB ho ‹_› ‹_› ‹_›⟩
    ·cases h
   ·cases h
  ·cases h
 ·rename_i args argTypes ho
  unfold GC at h
  split at h
  ·split at h
   ·split at h
    ·rw[dh] at h
     exact ax ho rfl ⟨_,h,BC ho ‹_› ‹_› ‹_›⟩
    ·cases h
   ·cases h
  ·cases h
 ·rename_i args argTypes ho
  unfold BH at h
  split at h
  ·split at h
   ·split at h
    ·exact ax ho rfl ⟨_,h,tX ho (hty _ _ ‹_›) ‹_› ‹_› (.inl ⟨‹_›,.inl ⟨_,_,_,‹_›⟩⟩)⟩
    ·exact ax ho rfl ⟨_,h,tX (n:=0) ho (hty _ _ ‹_›) ‹_› ‹_› (.inl ⟨‹_›,.inr ⟨‹_›,rfl⟩⟩)⟩
    ·rw[aV] at h
     exact ax ho rfl ⟨_,h,AD ho (hty _ _ ‹_›) ‹_› ‹_› ‹_› ‹_›⟩
    ·exact ax ho rfl ⟨_,h,yQ ho (hty _ _ ‹_›) ‹_› ‹_› ‹_› ‹_›⟩
    ·split at h
     ·rw[aV] at h
      exact ax ho rfl ⟨_,h,BA ho (hty _ _ ‹_›) ‹_› ‹_› ‹_› ‹_› ‹_›⟩
     ·cases h
    ·rw[aV] at h
     exact ax ho rfl ⟨_,h,tX ho (hty _ _ ‹_›) ‹_› ‹_› (.inr ⟨‹_›,_,‹_›,rfl⟩)⟩
    ·cases h
   ·cases h
  ·cases h
 ·rename_i t ho
  exact cD ho (by simp[kd]) (nX ho (fun a _ w _=>qF a w) h)
 ·rename_i t x ho
  unfold pW at h
  split at h
  ·rename_i hti hx
   split at h
   ·rename_i hk
    exact cD ho (by simp[kd]) (nX ho (fun a _ w hO=>qG (hty _ _ hti) hk a w (dz (hO x (by simp[ho,Op.operands])) hx)) h)
   ·cases h
  ·cases h
 ·rename_i t x y z ho
  exact cD ho (by simp[kd]) (qg hty (.inl ho) h)
 ·rename_i t x y z ho
  exact cD ho (by simp[kd]) (qg hty (.inr ho) h)
 ·rename_i t x y ok ho
  exact ax ho rfl (xc hty ho h)
 ·rename_i f first captured ho
  unfold pV at h
  split at h
  ·rw[bQ] at h
   exact ax ho rfl ⟨_,h,sw ho ‹_›⟩
  ·cases h
 ·cases h
end
end Go.Sx
namespace Go.Sx
open LimbNum
variable [Glob]
def gJ (P:Program) (call:FuncId→List AV→Hp→Option (AV × Hp)):Prop:=
 ∀ g args st av st', call g args st = some (av, st') → (Heaps st st' ∧ (∃ fn, P.funcs[g]? = some fn ∧ fn.body.isNone = false ∧ (fn.name == "runtime.NumGoroutine") = false) ∧
  ∀ (m:Nm) (w:World) (vals:List Value),RVs m w args vals→RS m w st.h.get→Dom st→ep m st.nx st'.nx →
   Calls P g vals.toArray w fun e w'=>∃ v m',e=.returned v∧RV m' w' av v∧RS m' w' st'.h.get∧To m st.h.get w m' st'.h.get w'∧dS m m' st.nx st'.nx) ∨
  (st'=st∧(∃ fn,P.funcs[g]?=some fn∧fn.body=none)∧∀ (m:Nm) (w:World) (vals:List Value),RVs m w args vals→∃ v,(callFunc g vals.toArray).run P w=.ok (.value v) w∧RV m w av v)
section
variable {P : Program} {E : Env} {β : Type} {r : β}
def opA (E:Env) (call:FuncId→List AV→Hp→Option (AV × Hp)) (ρ:Operand→AV) (st:Hp) (o:Oper) (k:AV→Hp→Option β):Option β:=
 match o.op with
 | .call { callee:=.value f,args,.. }=>match ρ f with
  | .fn g caps=>match call g (args.toList.map ρ++caps) st with
   | some (av,st')=>k av st'
   | none=>none
  | _=>none
 | _=>aop E ρ st o k
theorem zv {o:Oper} {a:Act} {w:World} {f:Operand} {args:Array Operand} {ts:Array TypeId} {g:FuncId} {caps:List Value} {fn:Func} (ho:o.op=.call { callee:=.value f,args,argTypes:=ts })
  (hf : a.eval f = .func (.func g) #[] caps.toArray) (h1 : P.funcs[g]? = some fn) (h2 : fn.body.isNone = false) (h3 : (fn.name == "runtime.NumGoroutine") = false) :
  (execOp a.eval o).run P w=.ok (.enter g (args.toList.map a.eval++caps).toArray) w:=by
 have e:(args.toList.map a.eval++caps).toArray=args.map a.eval++caps.toArray:=Array.ext' (by simp)
 rw[e]
 simp only[beq_eq_false_iff_ne,ne_eq] at h3
 have h2':fn.body≠none:=fun h=>by rw[h] at h2;cases h2
 simp[execOp,ho,resolve,hf,Deferred.ofValue,invoke,callFunc,h1,h2',h3]
theorem AR {o:Oper} {a:Act} {w:World} {f:Operand} {args:Array Operand} {ts:Array TypeId} {g:FuncId} {caps:List Value} {v:Value} (ho:o.op=.call { callee:=.value f,args,argTypes:=ts })
  (hf:a.eval f=.func (.func g) #[] caps.toArray) (h:(callFunc g (args.toList.map a.eval++caps).toArray).run P w=.ok (.value v) w) :
  (execOp a.eval o).run P w=.ok (.value v) w:=by
 have e:(args.toList.map a.eval++caps).toArray=args.map a.eval++caps.toArray:=Array.ext' (by simp)
 rw[e] at h
 simp[execOp,ho,resolve,hf,Deferred.ofValue,invoke,h]
theorem uo {call:FuncId→List AV→Hp→Option (AV × Hp)} {ρ:Operand→AV} {st:Hp} {o:Oper} {k:AV→Hp→Option β} (hc:gJ P call) (hty:∀ t ti,E.ty.get t=some ti→TyOK P t ti)
  (h:opA E call ρ st o k=some r):∃ av st',k av st'=some r∧zS P ρ st o av st':=by
 unfold opA at h
 split at h
 ·rename_i f args ts ho
  split at h
  ·rename_i g caps hf
   split at h
   ·rename_i av st' hcall
    have hin:∀ x,x=f∨x∈args→x∈o.op.operands:=fun x hx=>by
     simp only[ho,Op.operands,Call.operands]
     rcases hx with rfl|hx
     ·exact Array.mem_append.2 (.inl (by simp))
     ·exact Array.mem_append.2 (.inr hx)
    have hargs:∀ (a:Act) (m:Nm) (w:World),ja m w ρ a o→RVs m w (args.toList.map ρ) (args.toList.map a.eval):=fun a m w hO=>RVs.eK (by simp) fun i av hav=>by
     rw[List.getElem?_map] at hav ⊢
     cases hx:args.toList[i]? with
     | none=>rw[hx] at hav;cases hav
     | some x=>
      rw[hx] at hav
      simp only[Option.map_some,Option.some.injEq] at hav
      subst hav
      exact⟨_,rfl,hO x (hin x (.inr (by rw[←Array.mem_toList_iff];exact List.mem_of_getElem? hx)))⟩
    rcases hc _ _ _ _ _ hcall with ⟨h1,⟨fn,h2,h3,h4⟩,h5⟩|⟨rfl,_,h5⟩
    ·refine cD ho (by simp[kd]) ⟨av,st',h,h1,fun a m w hO hs hd hfr K Q hK=>?_⟩
     have hfv:=hO f (hin f (.inl rfl))
     rw[hf,RV] at hfv
     obtain⟨l,hfv,hl⟩:=hfv
     unfold Oper.wp
     rw[zv ho hfv h2 h3 h4]
     show Calls P g _ w _
     refine (h5 m w _ ((hargs a m w hO).append hl) hs hd hfr).mono ?_
     rintro e w' ⟨v,m',rfl,q1,q2,q3,q4⟩
     exact hK v w' m' q1 q2 q3 q4
    ·refine cD ho (by simp[kd]) ⟨av,st',h,cm (Heaps.rfl' _) fun a m w hO hs hfr=>?_⟩
     have hfv:=hO f (hin f (.inl rfl))
     rw[hf,RV] at hfv
     obtain⟨l,hfv,hl⟩:=hfv
     obtain⟨v,q1,q2⟩:=h5 m w _ ((hargs a m w hO).append hl)
     exact⟨v,w,m,.inl (AR ho hfv q1),q2,hs,To.rfl',fun _ _=>rfl⟩
   ·cases h
  ·cases h
 ·exact Bp hty h
def oV:AV:=.tup []
theorem vA (m:Nm) (w:World):RV m w oV undef:=by
 unfold oV
 rw[RV]
 exact⟨[],rfl,by rw[RVs]⟩
def qh (ops:Array Oper) (tm:Tr AV) (o:Oper):Option Bool:=
 match o.guard with
 | none=>some true
 | some (j,b)=>match (ops[j]?).bind (·.dst) with
  | some t=>match tm.get t with
   | some (.bool c)=>some (c==b)
   | some (.tup _)=>some false
   | _=>none
  | none=>none
theorem pa {ops:Array Oper} {tm:Tr AV} {o:Oper} {b:Bool} (h:qh ops tm o=some b) {m:Nm} {w:World} {a:Act}
  (hT:∀ j b',o.guard=some (j,b')→∀ t,(ops[j]?).bind (·.dst)=some t→∀ av,tm.get t=some av→∃ v,a.tmps[t]?=some v∧RV m w av v):Region.wanted o (yielded ops a.tmps)=b:=by
 unfold qh at h
 unfold Region.wanted
 split at h
 ·rename_i hg
  simp only[Option.some.injEq] at h
  simp only[hg]
  exact h
 ·rename_i j b' hg
  simp only[hg]
  split at h
  ·rename_i t ht
   split at h
   ·rename_i c hc
    simp only[Option.some.injEq] at h
    obtain⟨v,h1,h2⟩:=hT j b' hg t ht _ hc
    rw[RV] at h2
    subst h2
    unfold yielded
    rw[ht]
    simp only[Option.bind_some,h1]
    rw[←h]
    cases c<;>cases b'<;>rfl
   ·rename_i l hc
    simp only[Option.some.injEq] at h
    obtain⟨v,h1,h2⟩:=hT j b' hg t ht _ hc
    rw[RV] at h2
    obtain⟨l',rfl,_⟩:=h2
    unfold yielded
    rw[ht]
    simp only[Option.bind_some,h1]
    rw[←h]
    cases b'<;>rfl
   ·cases h
  ·cases h
def xo (n:Nat) (d:Option Tmp) (av:AV) (tm:Tr AV) (k:Tr AV→Option β):Option β:=
 match d with
 | none=>k tm
 | some d=>if d<n then Tr.jL Tr.depth tm d (some av) k else none
def zT (n:Nat) (d:Option Tmp) (av:AV) (tm tm':Tr AV):Prop:=
 (∀ t,d=some t→t<n∧tm'.get t=some av)∧∀ t,d≠some t→tm'.get t=tm.get t
theorem j0 {n:Nat} {d:Option Tmp} {av:AV} {tm:Tr AV} {k:Tr AV→Option β} (h:xo n d av tm k=some r):∃ tm',k tm'=some r∧zT n d av tm tm':=by
 unfold xo at h
 split at h
 ·exact⟨tm,h,⟨fun t ht=>(by cases ht),fun _ _=>rfl⟩⟩
 ·rename_i d
  split at h
  ·obtain⟨t',h1,h2,h3⟩:=Tr.eh _ _ _ _ _ _ h
   exact⟨t',h1,fun t ht=>by cases ht;exact⟨‹_›,h2⟩,fun t ht=>h3 t fun e=>ht (by rw[e])⟩
  ·cases h
theorem oF (a:Act) (d:Option Tmp) (v:Value):(a.put d v).tmps.size=a.tmps.size:=by
 cases d<;>simp[Act.put]
theorem put_defers (a:Act) (d:Option Tmp) (v:Value):(a.put d v).defers=a.defers:=by
 cases d<;>rfl
theorem vw (a:Act) (d:Option Tmp) (v:Value) (t:Nat):(a.put d v).tmps[t]?=if d=some t∧t<a.tmps.size then some v else a.tmps[t]?:=by
 cases d with
 | none=>simp[Act.put]
 | some d=>
  simp only[Act.put,Array.getElem?_setIfInBounds,Option.some.injEq]
  by_cases h:d=t
  ·subst h
   by_cases h2:d<a.tmps.size
   ·simp[h2]
   ·simp[h2]
  ·simp[h]
theorem RT.put {n:Nat} {d:Option Tmp} {av:AV} {tm tm':Tr AV} {m:Nm} {w:World} {a:Act} {v:Value} (h:RT m w tm a) (hp:zT n d av tm tm') (hn:a.tmps.size=n) (hv:RV m w av v):RT m w tm' (a.put d v):=by
 intro t x ht
 rw[vw]
 by_cases hd:d=some t
 ·obtain⟨h1,h2⟩:=hp.1 t hd
  rw[h2] at ht;cases ht
  exact⟨v,if_pos ⟨hd,Nat.lt_of_lt_of_eq h1 hn.symm⟩,hv⟩
 ·rw[hp.2 t hd] at ht
  rw[if_neg fun h=>hd h.1]
  exact h t x ht
theorem RT.to {m m':Nm} {h h':Hf} {w w':World} {tm:Tr AV} {a:Act} (hT:RT m w tm a) (t:To m h w m' h' w'):RT m' w' tm a:=fun i x hx=>by
 obtain⟨v,h1,h2⟩:=hT i x hx
 exact⟨v,h1,t.rv h2⟩
theorem ep.left {m:Nm} {a b c:Nat} (h:ep m a c) (hb:b≤c):ep m a b:=fun x h1 h2=>h x h1 (by omega)
theorem ep.right {m m':Nm} {a b c:Nat} (h:ep m a c) (hab:a≤b) (hs:dS m m' a b):ep m' b c:=fun x h1 h2=>by rw[hs x (.inr h1)];exact h x (by omega) h2
theorem dS.rfl' (m:Nm) (a b:Nat):dS m m a b:=fun _ _=>rfl
theorem dS.comp {m m1 m2:Nm} {a b c:Nat} (h:dS m m1 a b) (h':dS m1 m2 b c) (hab:a≤b) (hbc:b≤c):dS m m2 a c:=fun x hx=>by
 rw[h' x (by omega),h x (by omega)]
def zu (E:Env) (call:FuncId→List AV→Hp→Option (AV × Hp)) (n:Nat) (ops:Array Oper):List Oper→Tr AV→Hp→(Tr AV→Hp→Option β)→Option β
 | [],tm,st,k=>k tm st
 | o::l,tm,st,k=>match qh ops tm o with
  | some true=>opA E call (evO tm) st o fun av st=>xo n o.dst av tm fun tm=>zu E call n ops l tm st k
  | some false=>xo n o.dst oV tm fun tm=>zu E call n ops l tm st k
  | none=>none
def rj (n:Nat) (tm:Tr AV) (st:Hp) (tm':Tr AV) (st':Hp) (W:Act→World→(Act→World→Prop)→Prop):Prop:=
 ∀ (a:Act) (m:Nm) (w:World),RT m w tm a→RS m w st.h.get→Dom st→a.tmps.size=n→ep m st.nx st'.nx→∀ K:Act→World→Prop,
  (∀ a' m' w',RT m' w' tm' a'→RS m' w' st'.h.get→a'.tmps.size=n→a'.defers=a.defers→To m st.h.get w m' st'.h.get w'→dS m m' st.nx st'.nx→K a' w')→W a w K
theorem mQ {call:FuncId→List AV→Hp→Option (AV × Hp)} {n:Nat} {ops:Array Oper} (hc:gJ P call) (hty:∀ t ti,E.ty.get t=some ti→TyOK P t ti) (Q:Exit→Act→World→Prop) :
  ∀ (l:List Oper) (tm:Tr AV) (st:Hp) (k:Tr AV→Hp→Option β),zu E call n ops l tm st k=some r →
   ∃ tm' st',k tm' st'=some r∧Heaps st st'∧rj n tm st tm' st' fun a w K=>(∀ a w,K a w→Q .normal a w)→wpList P ops Q l a w
 | [],tm,st,k,h=>⟨tm,st,h,Heaps.rfl' _,fun a m w hT hs hd hn hf K hK hQ=>hQ a w (hK a m w hT hs hn rfl To.rfl' (dS.rfl' _ _ _))⟩
 | o::l,tm,st,k,h=>by
  rw[zu] at h
  split at h
  ·rename_i hw
   obtain⟨av,st1,h1,h2⟩:=uo hc hty h
   obtain⟨tm1,h3,h4⟩:=j0 h1
   obtain⟨tm',st',h5,h6,h7⟩:=mQ hc hty Q l tm1 st1 k h3
   have hh:Heaps st st1:=by
    by_cases hk:kd o.op=0
    ·rw[(h2.1 hk).1];exact Heaps.rfl' _
    ·exact (h2.2 hk).1
   refine ⟨tm',st',h5,hh.comp h6,fun a m w hT hs hd hn hf K hK hQ=>?_⟩
   have hwant:=pa (a:=a) hw fun j b' _ t _ av hav=>hT t av hav
   rw[wpList,if_pos hwant]
   refine Or.inl ?_
   have hO:ja m w (evO tm) a o:=fun x _=>uU hT x
   have next:∀ v w1 m1,RV m1 w1 av v→RS m1 w1 st1.h.get→To m st.h.get w m1 st1.h.get w1→dS m m1 st.nx st1.nx→wpList P ops Q l (a.put o.dst v) w1:=fun v w1 m1 q1 q2 q3 q4=>
    h7 (a.put o.dst v) m1 w1 ((hT.to q3).put h4 hn q1) q2 (hh.dom hd) (by rw[oF];exact hn) (hf.right hh.nx q4) K (fun a' m' w' r1 r2 r3 r4 r5 r6=>hK a' m' w' r1 r2 r3 (by rw[r4,put_defers]) (q3.comp r5) (q4.comp r6 hh.nx h6.nx)) hQ
   by_cases hk:kd o.op=0
   ·obtain⟨rfl,hl⟩:=h2.1 hk
    obtain⟨v,hr,hv⟩:=hl a m w hO (hs.sub (sK _ _)).1
    unfold Oper.wp
    rw[hr]
    exact next v w m hv hs To.rfl' (dS.rfl' _ _ _)
   ·exact (h2.2 hk).2 a m w hO hs hd (hf.left h6.nx) _ Q next
  ·rename_i hw
   obtain⟨tm1,h3,h4⟩:=j0 h
   obtain⟨tm',st',h5,h6,h7⟩:=mQ hc hty Q l tm1 st k h3
   refine ⟨tm',st',h5,h6,fun a m w hT hs hd hn hf K hK hQ=>?_⟩
   have hwant:=pa (a:=a) hw fun j b' _ t _ av hav=>hT t av hav
   rw[wpList,if_neg (by rw[hwant];simp)]
   exact h7 (a.put o.dst undef) m w (hT.put h4 hn (vA _ _)) hs hd (by rw[oF];exact hn) hf K (fun a' m' w' r1 r2 r3 r4 r5 r6=>hK a' m' w' r1 r2 r3 (by rw[r4,put_defers]) r5 r6) hQ
  ·cases h
end
end Go.Sx
