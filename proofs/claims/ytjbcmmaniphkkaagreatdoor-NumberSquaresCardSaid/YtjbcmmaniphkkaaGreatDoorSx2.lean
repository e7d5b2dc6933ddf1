import Derived.Laws.Strings
import Derived.Laws.StructEq
import Derived.Laws.BytesString
import Derived.Laws.AppendOwn
import Derived.Laws.MakeOwn
import Derived.Laws.Tables
import Derived.Great.BuildSlice
import Derived.Test.YtjbcmmaniphkkaaGreatDoorSx1
set_option linter.unusedSectionVars false
set_option linter.unusedVariables false
set_option linter.unusedSimpArgs false
namespace Go.Sx
open LimbNum
variable [Unk] [Glob]
section
variable {P : Program} {E : Env} {ρ : Operand → AV} {st : Hp} {o : Oper} {β : Type} {k : AV → Hp → Option β} {r : β}
theorem ql {cs:List AV} {off size:Nat} {agg:Bool} {t:TypeId} {i:TypeInfo} {d:TypeDesc} {c:AV→Option β} (h1:P.info? t=some i) (h2:P.underlying t=some d)
  (hs:size=i.size) (ha:agg=ly d) (h:kj cs off size agg c=some r) :
  ∃ av,c av=some r∧∀ (m:Nm) (w:World) (vs:List Value),RVs m w cs vs→∃ v,(part t vs.toArray off).run P w=.ok v w∧RV m w av v:=by
 have hagg:=fun w=>jS h2 w
 rw[←ha] at hagg
 unfold kj at h
 split at h
 ·rename_i hag
  rw[hag] at hagg
  split at h
  ·rw[bS] at h
   rename_i hle
   refine ⟨_,h,fun m w vs hv=>⟨.agg (((vs.drop off).take size).toArray),?_,?_⟩⟩
   ·simp only[part,Sem.run_bind,hagg,Result.andThen_ok,if_true,bR h1,←hs]
    show Result.ok _ _=_
    congr 2
    apply Array.ext'
    simp
   ·rw[RV];exact⟨_,rfl,(hv.drop off).take size⟩
  ·cases h
 ·rename_i hag
  have hag':agg=false:=by simpa using hag
  rw[hag'] at hagg
  split at h
  ·rename_i av hn
   rw[kS] at hn
   refine ⟨_,h,fun m w vs hv=>?_⟩
   obtain⟨v,e1,e2⟩:=hv.get hn
   refine ⟨v,?_,e2⟩
   simp[part,hagg,e1]
  ·cases h
theorem CU {s:TypeId} {x:Operand} {f:Nat} {ti:TyI} {cs:List AV} {off ty size:Nat} {agg:Bool} (ho:o.op=.field s x f) (ht:TyOK P s ti) (he:ρ x=.agg cs)
  (hk:ti.kind=.struct) (hf:nth ti.flds f=some (off,ty,size,agg)) (hs:size≠0) (h:(kj cs off size agg fun v=>k v st)=some r) :
  ∃ av,k av st=some r∧aY P ρ st.h.get o av:=by
 obtain⟨i,d,z,h1,h2,h3,h4,h5,h6,h7,h8,_⟩:=ht.ex
 obtain⟨fs,rfl,hfl⟩:=h8 hk
 obtain⟨fd,hfd,hx⟩:=xi hfl hf
 obtain⟨j,e,e1,e2,rfl,rfl,rfl⟩:=gU hx hs
 obtain⟨av,q1,q2⟩:=ql e1 e2 rfl rfl h
 refine ⟨_,q1,fun a m w hO _=>?_⟩
 have hev:=hO x (by simp[ho,Op.operands])
 rw[he,RV] at hev
 obtain⟨vs,hxv,hvs⟩:=hev
 obtain⟨v,q3,q4⟩:=q2 m w vs hvs
 refine ⟨v,?_,q4⟩
 simp[execOp,ho,Instr.field,run_underlying h2,hfd,hxv,asAgg,q3]
theorem xg {x:Operand} {ix:Nat} {vs:List AV} {av:AV} (ho:o.op=.extract x ix) (he:ρ x=.tup vs) (hn:nth vs ix=some av):aY P ρ st.h.get o av:=by
 intro a m w hO _
 have hev:=hO x (by simp[ho,Op.operands])
 rw[he,RV] at hev
 obtain⟨l,hxv,hvs⟩:=hev
 rw[kS] at hn
 obtain⟨v,e1,e2⟩:=hvs.get hn
 refine ⟨v,?_,e2⟩
 simp[execOp,ho,Instr.extract,hxv,e1]
section
variable {a : Act} {m : Nm} {w : World} {x : Operand}
theorem dD {i:IntKind} {n:Int} (h:RV m w (ρ x) (a.eval x)) (he:ρ x=.int i n):a.eval x=.int i n:=by rwa [he,RV] at h
theorem yp {b:Bool} (h:RV m w (ρ x) (a.eval x)) (he:ρ x=.bool b):a.eval x=.bool b:=by rwa [he,RV] at h
theorem Ke {s:List UInt8} (h:RV m w (ρ x) (a.eval x)) (he:ρ x=.str s):a.eval x=.string ⟨s.toArray⟩:=by rwa [he,RV] at h
end
theorem tg {t:TypeId} {x y:Operand} {ti te:TyI} {i:IntKind} {n:Int} {b off len e:Nat} (ho:o.op=.indexAddr t x y) (ht:TyOK P t ti) (hte:TyOK P ti.elem te)
  (hk:ti.kind=.slice) (hy:ρ y=.int i n) (hx:ρ x=.sl b off len e) (hn:0≤n∧n<len):aY P ρ st.h.get o (.ptr b (off+n.toNat*te.size)):=by
 obtain⟨i1,d,z,h1,h2,h3,h4,h5,h6,h7,h8,h9,h10,_⟩:=ht.ex
 obtain⟨i2,d2,z2,g1,g2,g3,g4,_⟩:=hte.ex
 obtain rfl:=h10 hk
 intro a m w hO _
 have hev:=hO x (by simp[ho,Op.operands])
 rw[hx,RV] at hev
 obtain⟨rb,cap,hm,hxv,_⟩:=hev
 refine ⟨.pointer (some ⟨rb,off+n.toNat*te.size,none⟩),?_,?_⟩
 ·simp[execOp,ho,Instr.indexAt,dD (hO y (by simp[ho,Op.operands])) hy,hxv,asIntOf,run_underlying h2,hn,bR g1,cR,g4]
 ·rw[RV];exact⟨rb,hm,rfl⟩
theorem rn {t:TypeId} {x y:Operand} {ti te:TyI} {i:IntKind} {n:Int} {b off:Nat} (ho:o.op=.indexAddr t x y) (ht:TyOK P t ti) (hte:TyOK P ti.elem te)
  (hk:ti.kind=.array) (hy:ρ y=.int i n) (hx:ρ x=.ptr b off) (hn:0≤n∧n<ti.len):aY P ρ st.h.get o (.ptr b (off+n.toNat*te.size)):=by
 obtain⟨i1,d,z,h1,h2,h3,h4,h5,h6,h7,h8,h9,h10,_⟩:=ht.ex
 obtain⟨i2,d2,z2,g1,g2,g3,g4,_⟩:=hte.ex
 obtain rfl:=h9 hk
 intro a m w hO _
 obtain⟨rb,hm,hxv⟩:=kV (hO x (by simp[ho,Op.operands])) hx
 refine ⟨.pointer (some ⟨rb,off+n.toNat*te.size,none⟩),?_,?_⟩
 ·simp[execOp,ho,Instr.indexAt,dD (hO y (by simp[ho,Op.operands])) hy,hxv,asIntOf,run_underlying h2,hn,bR g1,cR,g4,Instr.sureAddr]
 ·rw[RV];exact⟨rb,hm,rfl⟩
theorem tf {t:TypeId} {x y:Operand} {ti te:TyI} {i:IntKind} {n:Int} {g off:Nat} (ho:o.op=.indexAddr t x y) (ht:TyOK P t ti) (hte:TyOK P ti.elem te)
  (hk:ti.kind=.array) (hy:ρ y=.int i n) (hx:ρ x=.gp g off) (hn:0≤n∧n<ti.len):aY P ρ st.h.get o (.gp g (off+n.toNat*te.size)):=by
 obtain⟨i1,d,z,h1,h2,h3,h4,h5,h6,h7,h8,h9,h10,_⟩:=ht.ex
 obtain⟨i2,d2,z2,g1,g2,g3,g4,_⟩:=hte.ex
 obtain rfl:=h9 hk
 intro a m w hO _
 have hxv:=yD (hO x (by simp[ho,Op.operands])) hx
 refine ⟨.pointer (some ⟨g,off+n.toNat*te.size,none⟩),?_,?_⟩
 ·simp[execOp,ho,Instr.indexAt,dD (hO y (by simp[ho,Op.operands])) hy,hxv,asIntOf,run_underlying h2,hn,bR g1,cR,g4,Instr.sureAddr]
 ·rw[RV]
theorem AB {t:TypeId} {x y:Operand} {ti:TyI} {i:IntKind} {n:Int} {s:List UInt8} {c:UInt8} (ho:o.op=.index t x y) (ht:TyOK P t ti)
  (hk:ti.kind=.string) (hy:ρ y=.int i n) (hx:ρ x=.str s) (hn:0≤n) (hc:nth s n.toNat=some c):aY P ρ st.h.get o (.int .u8 (c.toNat:Int)):=by
 obtain⟨i1,d,z,h1,h2,h3,h4,h5,h6,h7,h8,h9,h10,h11⟩:=ht.ex
 obtain rfl:=h11 hk
 rw[kS] at hc
 have hget:(⟨s.toArray⟩:ByteArray)[n.toNat]?=some c:=by
  obtain⟨hl,he⟩:=List.getElem?_eq_some_iff.1 hc
  have hs:n.toNat<(⟨s.toArray⟩:ByteArray).size:=by simpa [ByteArray.size] using hl
  rw[getElem?_pos (⟨s.toArray⟩:ByteArray) n.toNat hs]
  exact congrArg some he
 intro a m w hO _
 refine ⟨.int .u8 (c.toNat:Int),?_,by rw[RV]⟩
 simp[execOp,ho,Instr.index,dD (hO y (by simp[ho,Op.operands])) hy,Ke (hO x (by simp[ho,Op.operands])) hx,asIntOf,run_underlying h2,hn,hget]
theorem xq {t:TypeId} {x:Operand} {ti:TyI} {n:Nat} {args:Array Operand} {argTypes:Array TypeId} (ho:o.op=.call { callee:=.builtin .len,args,argTypes }) (ht:TyOK P t ti)
  (ha:argTypes[0]?=some t) (hx:args[0]?=some x) (hcase:(ti.kind=.slice∧((∃ b off e,ρ x=.sl b off n e)∨(ρ x=.nils∧n=0)))∨(ti.kind=.string∧∃ s,ρ x=.str s∧n=s.length)) :
  aY P ρ st.h.get o (.int .i64 (n:Int)):=by
 obtain⟨i1,d,z,h1,h2,h3,h4,h5,h6,h7,h8,h9,h10,h11⟩:=ht.ex
 intro a m w hO _
 have hev:=hO x (by simp only[ho,Op.operands,Call.operands];exact Array.mem_append.2 (.inr (Array.mem_of_getElem? hx)))
 refine ⟨.int .i64 (n:Int),?_,by rw[RV]⟩
 rcases hcase with ⟨hk,hs⟩|⟨hk,s,hs,rfl⟩
 ·obtain rfl:=h10 hk
  rcases hs with ⟨b,off,e,hs⟩|⟨hs,rfl⟩
  ·rw[hs,RV] at hev
   obtain⟨rb,cap,hm,hxv,_⟩:=hev
   simp[execOp,ho,resolve,invoke,builtin,Builtin.len_,ha,hx,run_underlying h2,hxv,goInt]
  ·rw[hs,RV] at hev
   simp[execOp,ho,resolve,invoke,builtin,Builtin.len_,ha,hx,run_underlying h2,hev,goInt]
 ·obtain rfl:=h11 hk
  rw[hs,RV] at hev
  have hz:(⟨s.toArray⟩:ByteArray).size=s.length:=by simp[ByteArray.size]
  simp[execOp,ho,resolve,invoke,builtin,Builtin.len_,ha,hx,run_underlying h2,hev,goInt,hz]
theorem Cz {t:TypeId} {x:Operand} {ti:TyI} {args:Array Operand} {argTypes:Array TypeId} (ho:o.op=.call { callee:=.builtin .cap,args,argTypes }) (ht:TyOK P t ti)
  (ha:argTypes[0]?=some t) (hx:args[0]?=some x) (hk:ti.kind=.slice) (hs:ρ x=.nils):aY P ρ st.h.get o (.int .i64 0):=by
 obtain⟨i1,d,z,h1,h2,h3,h4,h5,h6,h7,h8,h9,h10,h11⟩:=ht.ex
 intro a m w hO _
 have hev:=hO x (by simp only[ho,Op.operands,Call.operands];exact Array.mem_append.2 (.inr (Array.mem_of_getElem? hx)))
 refine ⟨.int .i64 0,?_,by rw[RV]⟩
 obtain rfl:=h10 hk
 rw[hs,RV] at hev
 simp[execOp,ho,resolve,invoke,builtin,Builtin.cap_,ha,hx,run_underlying h2,hev,goInt]
theorem vm {f:FuncId} {first captured:Array Operand} (ho:o.op=.makeFunc (.func f) first captured) (hf:first.size=0):aY P ρ st.h.get o (.fn f (captured.toList.map ρ)):=by
 have hf':first = #[]:=by simpa using hf
 subst hf'
 intro a m w hO _
 refine ⟨.func (.func f) #[] (captured.map a.eval),?_,?_⟩
 ·simp[execOp,ho,Instr.makeFunc]
 ·rw[RV]
  refine ⟨captured.toList.map a.eval,by simp;exact Array.ext' (by simp),RVs.eH (by simp) fun i av hav=>?_⟩
  rw[List.getElem?_map] at hav ⊢
  cases hc:captured.toList[i]? with
  | none=>rw[hc] at hav;cases hav
  | some x=>
   rw[hc] at hav
   simp only[Option.map_some,K5] at hav
   subst hav
   exact⟨_,rfl,hO x (by simp only[ho,Op.operands];exact Array.mem_append.2 (.inr (by rw[←Array.mem_toList_iff];exact List.mem_of_getElem? hc)))⟩
theorem Jq {op:BinOp} {i:IntKind} {x y:Int} {c:AV→Option β} (h:yG op i x y c=some r) :
  ∃ av v,c av=some r∧(∀ t w,(binOp op t (.int i x) (.int i y)).run P w=.ok v w)∧∀ m w,RV m w av v:=by
 cases op<;>simp only[yG,dw,ez] at h<;>try (cases h;done)
 all_goals first
  |(refine ⟨_,_,h,?_,fun _ _=>kW _ _ _ _⟩;intro t w;first|(simp[binOp,Op.intArith];done)|(simp only[binOp,ne_eq,not_true_eq_false,if_false,Op.intBits,Sem.run_pure];done))
  |(refine ⟨_,_,h,?_,fun _ _=>ft _ _ _⟩;intro t w;simp[binOp,Op.intCmp];done)
  |(split at h
    ·cases h
    ·refine ⟨_,_,h,?_,fun _ _=>kW _ _ _ _⟩
     intro t w
     simp[binOp,Op.intDiv, *])
theorem gk {op:BinOp} {t:TypeId} {x y:Operand} {i j:IntKind} {n l:Int} {w:World}:(eqGuard op t x y (.int i n) (.int j l)).run P w=.ok () w:=by
 unfold eqGuard
 cases op<;>simp
theorem zX {op:BinOp} {t t':TypeId} {x y:Operand} {i:IntKind} {n l:Int} (ho:o.op=.binOp op t x y t') (hx:ρ x=.int i n) (hy:ρ y=.int i l)
  (h:(yG op i n l fun v=>k v st)=some r):∃ av,k av st=some r∧aY P ρ st.h.get o av:=by
 obtain⟨av,v,q1,q2,q3⟩:=Jq (P:=P) h
 refine ⟨_,q1,fun a m w hO _=>⟨v,?_,q3 m w⟩⟩
 simp[execOp,ho,dD (hO x (by simp[ho,Op.operands])) hx,dD (hO y (by simp[ho,Op.operands])) hy,gk,q2]
theorem JE {t:TypeId} {x:Operand} {b:Bool} (ho:o.op=.unOp .not t x) (hx:ρ x=.bool b):aY P ρ st.h.get o (.bool (!b)):=by
 intro a m w hO _
 refine ⟨.bool (!b),?_,by rw[RV]⟩
 simp[execOp,ho,yp (hO x (by simp[ho,Op.operands])) hx,Op.unary]
theorem JA {t:TypeId} {x:Operand} {i:IntKind} {n:Int} (ho:o.op=.unOp .neg t x) (hx:ρ x=.int i n):aY P ρ st.h.get o (.int i (i.wrap (0-n))):=by
 intro a m w hO _
 refine ⟨.int i (i.wrap (0-n)),?_,by rw[RV]⟩
 simp[execOp,ho,dD (hO x (by simp[ho,Op.operands])) hx,Op.unary,Op.intArith]
theorem yR {x:Operand} (ho:o.op=.move x∨o.op=.assign x):aY P ρ st.h.get o (ρ x):=by
 intro a m w hO _
 rcases ho with ho|ho
 ·exact⟨a.eval x,by simp[execOp,ho],hO x (by simp[ho,Op.operands])⟩
 ·exact⟨a.eval x,by simp[execOp,ho],hO x (by simp[ho,Op.operands])⟩
theorem zc {c x y:Operand} {b:Bool} (ho:o.op=.pick c x y) (hb:ρ c=.bool b):aY P ρ st.h.get o (if b then ρ x else ρ y):=by
 intro a m w hO _
 have hc:=yp (hO c (by simp[ho,Op.operands])) hb
 cases b
 ·exact⟨a.eval y,by simp[execOp,ho,hc,asBool],hO y (by simp[ho,Op.operands])⟩
 ·exact⟨a.eval x,by simp[execOp,ho,hc,asBool],hO x (by simp[ho,Op.operands])⟩
end
end Go.Sx
namespace Go.Sx
open LimbNum
variable [Unk] [Glob]
section
variable {P : Program} {E : Env} {ρ : Operand → AV} {st : Hp} {o : Oper} {β : Type} {k : AV → Hp → Option β} {r : β}
theorem mf (m:Nm) (w:World) (i:FloatKind) (n:Nat):RV m w (.float i n) (.float i n):=by rw[RV]
theorem JW (m:Nm) (w:World) (s:List UInt8):RV m w (.str s) (.string ⟨s.toArray⟩):=by rw[RV]
section
variable {a : Act} {m : Nm} {w : World} {x : Operand}
theorem CV {i:FloatKind} {n:Nat} (h:RV m w (ρ x) (a.eval x)) (he:ρ x=.float i n):a.eval x=.float i n:=by rwa [he,RV] at h
end
theorem pe {op:BinOp} {t t':TypeId} {x y:Operand} {va vb:AV} {u v:Value} {av:AV} {c:Value} (ho:o.op=.binOp op t x y t') (hx:ρ x=va) (hy:ρ y=vb)
  (ha:∀ m w v',RV m w va v'→v'=u) (hb:∀ m w v',RV m w vb v'→v'=v) (hg:∀ w,(eqGuard op t x y u v).run P w=.ok () w) (hr:∀ w,(binOp op t u v).run P w=.ok c w) (hv:∀ m w,RV m w av c):aY P ρ st.h.get o av:=by
 intro a m w hO _
 have h1:=hO x (by simp[ho,Op.operands])
 have h2:=hO y (by simp[ho,Op.operands])
 rw[hx] at h1
 rw[hy] at h2
 refine ⟨c,?_,hv m w⟩
 simp[execOp,ho,ha m w _ h1,hb m w _ h2,hg,hr]
theorem eQ {op:BinOp} {t:TypeId} {x y:Operand} {u v:Value} {w:World} (h:∀ cs,u≠.agg cs) (h':u≠.nilIface):(eqGuard op t x y u v).run P w=.ok () w:=by
 unfold eqGuard
 cases op<;>simp<;>cases u<;>first|rfl|exact absurd rfl (h _)|exact absurd rfl h'
theorem vT {op:BinOp} {t t':TypeId} {x y:Operand} {i j:IntKind} {n l:Int} (ho:o.op=.binOp op t x y t') (hop:op=.shl∨op=.shr) (hx:ρ x=.int i n) (hy:ρ y=.int j l)
  (h:(oT op i n l fun v=>k v st)=some r):∃ av,k av st=some r∧aY P ρ st.h.get o av:=by
 unfold oT at h
 split at h
 ·cases h
 ·rename_i hl
  rcases hop with rfl|rfl
  ·simp only[dw] at h
   exact⟨_,h,pe ho hx hy (u:=.int i n) (v:=.int j l) (fun m w v' hv=>by rwa [RV] at hv) (fun m w v' hv=>by rwa [RV] at hv) (fun w=>gk) (c:=.int i (i.wrap (n*2^(min l.toNat i.bits)))) (fun w=>by simp[binOp,Op.shift,hl]) fun m w=>kW _ _ _ _⟩
  ·simp only[dw] at h
   exact⟨_,h,pe ho hx hy (u:=.int i n) (v:=.int j l) (fun m w v' hv=>by rwa [RV] at hv) (fun m w v' hv=>by rwa [RV] at hv) (fun w=>gk) (c:=.int i (n.fdiv (2^(min l.toNat i.bits)))) (fun w=>by simp[binOp,Op.shift,hl]) fun m w=>kW _ _ _ _⟩
theorem CW {op:BinOp} {t t':TypeId} {x y:Operand} {i:FloatKind} {n l:Nat} (ho:o.op=.binOp op t x y t') (hx:ρ x=.float i n) (hy:ρ y=.float i l)
  (h:(sZ op i n l fun v=>k v st)=some r):∃ av,k av st=some r∧aY P ρ st.h.get o av:=by
 have key:∀ av c,(∀ w,(binOp op t (.float i n) (.float i l)).run P w=.ok c w)→(∀ m w,RV m w av c)→aY P ρ st.h.get o av:=fun av c hr hv=>
  pe ho hx hy (u:=.float i n) (v:=.float i l) (fun m w v' hv=>by rwa [RV] at hv) (fun m w v' hv=>by rwa [RV] at hv) (fun w=>eQ (by simp) (by simp)) (c:=c) hr hv
 cases op<;>simp only[sZ,ez,aT] at h<;>try (cases h;done)
 all_goals first
  |(split at h
    ·rename_i q hq
     exact⟨_,h,key _ (.float i q) (fun w=>by simp[binOp,Op.floatArith,hq]) fun m w=>mf _ _ _ _⟩
    ·cases h)
  |(refine ⟨_,h,key _ (.bool _) ?_ fun m w=>ft _ _ _⟩
    intro w
    simp only[binOp,Op.floatCmp,if_false,ne_eq,not_true_eq_false,Sem.run_pure])
theorem fj (l:List UInt8):(⟨l.toArray⟩:ByteArray).toList=l:=by
 simp
theorem Kf {op:BinOp} {t t':TypeId} {x y:Operand} {s u:List UInt8} (ho:o.op=.binOp op t x y t') (hx:ρ x=.str s) (hy:ρ y=.str u)
  (h:(zv op s u fun v=>k v st)=some r):∃ av,k av st=some r∧aY P ρ st.h.get o av:=by
 have key:∀ av c,(∀ w,(binOp op t (.string ⟨s.toArray⟩) (.string ⟨u.toArray⟩)).run P w=.ok c w)→(∀ m w,RV m w av c)→aY P ρ st.h.get o av:=fun av c hr hv=>
  pe ho hx hy (u:=.string ⟨s.toArray⟩) (v:=.string ⟨u.toArray⟩) (fun m w v' hv=>by rwa [RV] at hv) (fun m w v' hv=>by rwa [RV] at hv) (fun w=>eQ (by simp) (by simp)) (c:=c) hr hv
 have e1:=fj s
 have e2:=fj u
 by_cases hop:op=.add
 ·subst hop
  simp only[zv,bS] at h
  split at h
  ·rename_i hle
   refine ⟨_,h,key _ (.string (⟨s.toArray⟩++⟨u.toArray⟩)) ?_ ?_⟩
   ·intro w
    have hz:¬((((⟨s.toArray⟩:ByteArray).size+(⟨u.toArray⟩:ByteArray).size:Nat):Int)>IntKind.i64.max):=by
     have h1:(⟨s.toArray⟩:ByteArray).size=s.length:=by simp[ByteArray.size]
     have h2:(⟨u.toArray⟩:ByteArray).size=u.length:=by simp[ByteArray.size]
     rw[h1,h2]
     have:IntKind.i64.max=9223372036854775807:=by decide
     rw[this]
     omega
    simp only[binOp,Op.stringOp,hz,if_false,Sem.run_pure]
   ·intro m w
    rw[RV]
    congr 1
  ·cases h
 ·cases op<;>simp only[zv,ez,bS] at h<;>try (cases h;done)
  all_goals first
   | exact absurd rfl hop
   |(refine ⟨_,h,key _ (.bool _) ?_ fun m w=>ft _ _ _⟩
     intro w
     simp only[binOp,Op.stringOp,Sem.run_pure,e1,e2])
theorem wm {op:BinOp} {t t':TypeId} {x y:Operand} {r0:Bool} (ho:o.op=.binOp op t x y t')
  (hxy:∀ m w v u,RV m w (ρ x) v→RV m w (ρ y) u→∃ s t,v=.string s∧u=.string t∧(s==t)=r0)
  (h:(ki op r0 fun v=>k v st)=some r):∃ av,k av st=some r∧aY P ρ st.h.get o av:=by
 have key:∀ c,(∀ s t':ByteArray,(s==t')=r0→∀ w,(binOp op t (.string s) (.string t')).run P w=.ok (.bool c) w)→aY P ρ st.h.get o (.bool c):=fun c hr=>by
  intro a m w hO _
  obtain⟨s,u,e1,e2,e3⟩:=hxy m w _ _ (hO x (by simp[ho,Op.operands])) (hO y (by simp[ho,Op.operands]))
  refine ⟨.bool c,?_,by rw[RV]⟩
  have hg:(eqGuard op t x y (.string s) (.string u)).run P w=.ok () w:=eQ (by simp) (by simp)
  simp[execOp,ho,e1,e2,hg,hr s u e3 w]
 cases op<;>simp only[ki,ez] at h<;>try (cases h;done)
 ·refine ⟨_,h,key r0 fun s u hsu w=>?_⟩
  rw[beq_toListBytes] at hsu
  simp only[binOp,Op.stringOp,Sem.run_pure,hsu]
 ·refine ⟨_,h,key (!r0) fun s u hsu w=>?_⟩
  rw[beq_toListBytes] at hsu
  simp only[binOp,Op.stringOp,Sem.run_pure,hsu]
theorem BA {op:BinOp} {t t':TypeId} {x y:Operand} {i:IntKind} {b:Int} {r0:Bool} (ho:o.op=.binOp op t x y t')
  (hx:∀ m w v,RV m w (ρ x) v→∃ n,v=.int i n∧Gl op n b=some r0) (hy:ρ y=.int i b) (h:k (.bool r0) st=some r):∃ av,k av st=some r∧aY P ρ st.h.get o av:=by
 refine ⟨_,h,fun a m w hO _=>⟨.bool r0,?_,by rw[RV]⟩⟩
 obtain⟨n,e1,e2⟩:=hx m w _ (hO x (by simp[ho,Op.operands]))
 have key:∀ w,(binOp op t (.int i n) (.int i b)).run P w=.ok (.bool r0) w:=fun w=>by
  cases op<;>simp only[Gl,K5] at e2<;>first
   |(cases e2;done)
   |(subst e2;simp[binOp,Op.intCmp])
 simp[execOp,ho,e1,dD (hO y (by simp[ho,Op.operands])) hy,gk,key]
end
end Go.Sx
namespace Go.Sx
open LimbNum
variable [Unk] [Glob]
section
variable {P : Program} {E : Env} {ρ : Operand → AV} {st : Hp} {o : Oper} {β : Type} {k : AV → Hp → Option β} {r : β}
theorem pX {op:BinOp} {b:Bool} {c:AV→Option β} (h:ki op b c=some r):(op=.eql∧c (.bool b)=some r)∨(op=.neq∧c (.bool (!b))=some r):=by
 unfold ki at h
 split at h
 ·rw[ez] at h;exact .inl ⟨rfl,h⟩
 ·rw[ez] at h;exact .inr ⟨rfl,h⟩
 ·cases h
theorem jR {t:TypeId} {x y:Value} {w:World} {b:Bool} (h:(Op.equalIn 10000 t x y).run P w=.ok b w):(Op.equal t x y).run P w=.ok b w:=h
theorem Ap {op:BinOp} {t t':TypeId} {x y:Operand} {a b:Bool} {ti:TyI} (ho:o.op=.binOp op t x y t') (ht:TyOK P t ti) (hk:ti.kind=.bool) (hx:ρ x=.bool a) (hy:ρ y=.bool b)
  (h:(ki op (a==b) fun v=>k v st)=some r):∃ av,k av st=some r∧aY P ρ st.h.get o av:=by
 obtain⟨i,d,z,h1,h2,_⟩:=ht.ex
 obtain rfl:=(ht.more d h2).2.2.1 hk
 have hr:∀ w,(Op.equal t (.bool a) (.bool b)).run P w=.ok (a==b) w:=fun w=>jR (run_equalIn_bool' w 9999 t a b h2)
 have key:∀ av c,(∀ w,(binOp op t (.bool a) (.bool b)).run P w=.ok c w)→(∀ m w,RV m w av c)→aY P ρ st.h.get o av:=fun av c hr hv=>
  pe ho hx hy (u:=.bool a) (v:=.bool b) (fun m w v' hv=>by rwa [RV] at hv) (fun m w v' hv=>by rwa [RV] at hv) (fun w=>eQ (by simp) (by simp)) (c:=c) hr hv
 rcases pX (c:=fun v=>k v st) h with ⟨rfl,hh⟩|⟨rfl,hh⟩
 ·exact⟨_,hh,key _ (.bool (a==b)) (fun w=>by simp[binOp,hr]) fun m w=>ft _ _ _⟩
 ·exact⟨_,hh,key _ (.bool (!(a==b))) (fun w=>by simp[binOp,hr]) fun m w=>ft _ _ _⟩
theorem tG {cs:List AV} {off size:Nat} {agg:Bool} {t:TypeId} {i:TypeInfo} {d:TypeDesc} {x:AV} (h1:P.info? t=some i) (h2:P.underlying t=some d) (hs:size=i.size) (ha:agg=ly d) (h:kj cs off size agg some=some x)
  {m:Nm} {w:World} {vs:List Value} (hv:RVs m w cs vs):∃ v,(part t vs.toArray off).run P w=.ok v w∧RV m w x v:=by
 obtain⟨av,q1,q2⟩:=ql h1 h2 hs ha h
 simp only[K5] at q1
 subst q1
 exact q2 m w vs hv
theorem rU {eq:TypeId→AV→AV→Option Bool} {d:Nat} (heq:∀ t x y b,eq t x y=some b→∀ m w u v,RV m w x u→RV m w y v→(Op.equalIn d t u v).run P w=.ok b w) {m:Nm} {w:World} {xs ys:List AV} {us vs:List Value} (hx:RVs m w xs us) (hy:RVs m w ys vs) :
  ∀ (fs : List Field) (b : Bool), (∀ f ∈ fs, f.name ≠ "_") → CR eq (fs.map (df P)) xs ys = some b → (Op.eqFields d us.toArray vs.toArray fs).run P w = .ok b w
 | [],b,_,h=>by
  simp only[List.map_nil,CR,K5] at h
  subst h
  simp[Op.eqFields]
 | f::fs,b,hn,h=>by
  simp only[List.map_cons] at h
  rw[show df P f=((df P f).1,(df P f).2.1,(df P f).2.2.1,(df P f).2.2.2) from rfl,CR] at h
  split at h
  ·cases h
  ·rename_i hs
   obtain⟨i,e,e1,e2,_,e4',e5'⟩:=gU (P:=P) (fd:=f) rfl hs
   have e3:(df P f).1=f.offset:=by simp only[df,e1,e2]
   have ety:(df P f).2.1=f.type:=by simp only[df,e1,e2]
   have e4:(df P f).2.2.1=i.size:=by simp only[df,e1,e2]
   have e5:(df P f).2.2.2=ly e:=by simp only[df,e1,e2]
   rw[e3,e4,e5,ety] at h
   split at h
   ·rename_i x y hpx hpy
    obtain⟨u,p1,p2⟩:=tG e1 e2 rfl rfl hpx hx
    obtain⟨v,p3,p4⟩:=tG e1 e2 rfl rfl hpy hy
    have hf : f.name ≠ "_" := hn f (by simp)
    split at h
    ·rename_i hb
     have hr:=heq _ _ _ _ hb m w u v p2 p4
     have ih:=rU heq hx hy fs b (fun f hf=>hn f (by simp[hf])) h
     simp only[Op.eqFields,Sem.run_bind,hf,ne_eq,not_false_eq_true,if_true,p1,p3,hr,Result.andThen_ok,Bool.not_true,Bool.false_eq_true,if_false,ih]
    ·rename_i hb
     have hbf:eq f.type x y=some false∧b=false:=by
      cases hq:eq f.type x y with
      | none=>rw[hq] at h;cases h
      | some c=>
       cases c
       ·rw[hq] at h;simp only[K5] at h;exact⟨rfl,h.symm⟩
       ·exact absurd hq hb
     obtain⟨hb1,rfl⟩:=hbf
     have hr:=heq _ _ _ _ hb1 m w u v p2 p4
     simp only[Op.eqFields,Sem.run_bind,hf,ne_eq,not_false_eq_true,if_true,p1,p3,hr,Result.andThen_ok,Bool.not_false,Sem.run_pure]
   ·cases h
theorem sV (hty:∀ t ti,E.ty.get t=some ti→TyOK P t ti):∀ (d:Nat) (t:TypeId) (x y:AV) (b:Bool),eqA E d t x y=some b→∀ (m:Nm) (w:World) (u v:Value),RV m w x u→RV m w y v→∀ D,d≤D→(Op.equalIn D t u v).run P w=.ok b w
 | 0,t,x,y,b,h=>by cases h
 | d+1,t,x,y,b,h=>by
  intro m w u v hu hv D hD
  obtain⟨D,rfl⟩:∃ D',D=D'+1:=⟨D-1,by omega⟩
  rw[eqA] at h
  split at h
  ·cases h
  ·rename_i ti hti
   have ht:=hty _ _ hti
   obtain⟨i,de,z,h1,h2,h3,h4,h5,h6,h7,h8,h9,h10,h11⟩:=ht.ex
   obtain⟨m1,m2,m3,m4⟩:=ht.more de h2
   split at h
   ·rename_i a c hk
    obtain rfl:=m3 hk
    rw[RV] at hu hv
    subst hu hv
    simp only[K5] at h
    subst h
    simp[Op.equalIn,run_underlying h2]
   ·rename_i ka a kc c hk
    obtain rfl:=m1 hk
    rw[RV] at hu hv
    subst hu hv
    split at h
    ·subst_vars
     simp only[K5] at h
     subst h
     simp[Op.equalIn,run_underlying h2]
    ·cases h
   ·rename_i a c hk
    obtain rfl:=h11 hk
    rw[RV] at hu hv
    subst hu hv
    simp only[K5] at h
    subst h
    have:((⟨a.toArray⟩:ByteArray)==⟨c.toArray⟩)=(a==c):=by
     rw[beq_toListBytes,fj,fj]
    simp[Op.equalIn,run_underlying h2,this]
   ·rename_i a c hk
    obtain rfl:=h11 hk
    rw[RV] at hu hv
    obtain⟨s,q,rfl,rfl,e⟩:=Unk.okS _ _ _ h w u v hu hv
    simp[Op.equalIn,run_underlying h2,e]
   ·rename_i a c hk
    obtain rfl:=h11 hk
    rw[RV] at hu
    rw[RV] at hv
    subst hv
    obtain⟨s,rfl,e⟩:=Unk.okL _ _ _ h w u hu
    simp[Op.equalIn,run_underlying h2,e]
   ·rename_i xs ys hk
    obtain⟨fs,rfl,hfs⟩:=h8 hk
    rw[RV] at hu hv
    obtain⟨us,rfl,hus⟩:=hu
    obtain⟨vs,rfl,hvs⟩:=hv
    split at h
    ·rename_i heq
     obtain⟨q1,q2,q3⟩:=m4 heq
     rw[hfs] at h
     have key:=rU (P:=P) (d:=D) (fun t x y b hb m w u v hu hv=>sV hty d t x y b hb m w u v hu hv D (by omega)) hus hvs fs.toList b (q3 fs rfl) h
     have hfo:P.fieldsOf t=fs:=by simp[Program.fieldsOf,h2]
     rw[run_equalIn_struct w D t _ _ (by rw[hfo];exact h2) q1,hfo]
     exact key
    ·cases h
   ·cases h
end
end Go.Sx
namespace Go.Sx
open LimbNum
variable [Unk] [Glob]
section
variable {P : Program} {E : Env} {ρ : Operand → AV} {st : Hp} {o : Oper} {β : Type} {k : AV → Hp → Option β} {r : β}
theorem CQ (hty:∀ t ti,E.ty.get t=some ti→TyOK P t ti) {op:BinOp} {t t':TypeId} {x y:Operand} {xs ys:List AV} {ti:TyI} {b:Bool} (ho:o.op=.binOp op t x y t') (ht:TyOK P t ti) (hq:ti.eqok=true) (hx:ρ x=.agg xs) (hy:ρ y=.agg ys)
  (he:eqA E 8 t (.agg xs) (.agg ys)=some b) (h:(ki op b fun v=>k v st)=some r):∃ av,k av st=some r∧aY P ρ st.h.get o av:=by
 obtain⟨i,d,z,h1,h2,_⟩:=ht.ex
 obtain⟨q1,q2,q3⟩:=(ht.more d h2).2.2.2 hq
 have key:∀ a m w,jZ m w ρ a o→∃ us vs,a.eval x=.agg us∧a.eval y=.agg vs∧(Op.equal t (.agg us) (.agg vs)).run P w=.ok b w∧((op=.eql∨op=.neq)→(eqGuard op t x y (.agg us) (.agg vs)).run P w=.ok () w):=by
  intro a m w hO
  have e1:=hO x (by simp[ho,Op.operands])
  have e2:=hO y (by simp[ho,Op.operands])
  rw[hx] at e1
  rw[hy] at e2
  have e4:=sV hty 8 t (.agg xs) (.agg ys) b he m w _ _ e1 e2 10000 (by omega)
  rw[RV] at e1 e2
  obtain⟨us,f1,f2⟩:=e1
  obtain⟨vs,g1,g2⟩:=e2
  rw[f1,g1] at e4
  refine ⟨_,_,f1,g1,jR e4,fun hop=>?_⟩
  have hprog:(program).run P w=.ok P w:=rfl
  rcases hop with rfl|rfl<;>simp[eqGuard,hprog,q2]
 rcases pX (c:=fun v=>k v st) h with ⟨rfl,hh⟩|⟨rfl,hh⟩
 ·refine ⟨_,hh,fun a m w hO _=>⟨.bool b,?_,ft _ _ _⟩⟩
  obtain⟨us,vs,f1,g1,e5,hg⟩:=key a m w hO
  simp[execOp,ho,f1,g1,hg (.inl rfl),binOp,e5]
 ·refine ⟨_,hh,fun a m w hO _=>⟨.bool (!b),?_,ft _ _ _⟩⟩
  obtain⟨us,vs,f1,g1,e5,hg⟩:=key a m w hO
  simp[execOp,ho,f1,g1,hg (.inr rfl),binOp,e5]
theorem AA {t:TypeId} {x y:Operand} {ti te:TyI} {i:IntKind} {n:Int} {cs:List AV} (ho:o.op=.index t x y) (ht:TyOK P t ti) (hte:TyOK P ti.elem te)
  (hk:ti.kind=.array) (hy:ρ y=.int i n) (hx:ρ x=.agg cs) (hn:0≤n∧n<ti.len) (h:(kj cs (n.toNat*te.size) te.size te.agg fun v=>k v st)=some r):∃ av,k av st=some r∧aY P ρ st.h.get o av:=by
 obtain⟨i1,d,z,h1,h2,h3,h4,h5,h6,h7,h8,h9,h10,h11⟩:=ht.ex
 obtain⟨i2,d2,z2,g1,g2,g3,g4,g5,g6,g7,_⟩:=hte.ex
 obtain rfl:=h9 hk
 obtain⟨av,q1,q2⟩:=ql g1 g2 g4 g7 h
 refine ⟨av,q1,fun a m w hO _=>?_⟩
 have hv:=hO x (by simp[ho,Op.operands])
 rw[hx,RV] at hv
 obtain⟨vs,hv,hvs⟩:=hv
 obtain⟨v,q3,q4⟩:=q2 m w vs hvs
 rw[g4] at q3
 refine ⟨v,?_,q4⟩
 simp[execOp,ho,Instr.index,dD (hO y (by simp[ho,Op.operands])) hy,hv,asIntOf,run_underlying h2,hn,bR g1,q3]
theorem tD {x:Operand} {b off:Nat} (ho:o.op=.nilCheck x) (hx:ρ x=.ptr b off):aY P ρ st.h.get o (.ptr b off):=by
 intro a m w hO _
 have h1:=hO x (by simp[ho,Op.operands])
 obtain⟨rb,hm,hv⟩:=kV h1 hx
 exact⟨.pointer (some ⟨rb,off,none⟩),by simp[execOp,ho,hv],by rw[RV];exact⟨rb,hm,rfl⟩⟩
theorem vz {x:Operand} {f:FuncId} {cs:List AV} (ho:o.op=.nilCheck x) (hx:ρ x=.fn f cs):aY P ρ st.h.get o (.fn f cs):=by
 intro a m w hO _
 have h1:=hO x (by simp[ho,Op.operands])
 rw[hx,RV] at h1
 obtain⟨l,hv,hl⟩:=h1
 exact⟨.func (.func f) #[] l.toArray,by simp[execOp,ho,hv],by rw[RV];exact⟨l,rfl,hl⟩⟩
section
variable {s d : TypeId} {x : Operand} {ts td : TyI} (ho : o.op = .convert s d x) (hs : TyOK P s ts) (hd : TyOK P d td)
include ho hs hd
theorem gT {u:Value} {av:AV} {c:Value} (hu:∀ m w v,RV m w (ρ x) v→v=u) (hc:∀ e1 e2 w,P.underlying s=some e1→P.underlying d=some e2→(convert s d u).run P w=.ok c w) (hv:∀ m w,RV m w av c):aY P ρ st.h.get o av:=by
 obtain⟨_,e1,_,_,h1,_⟩:=hs.ex
 obtain⟨_,e2,_,_,h2,_⟩:=hd.ex
 intro a m w hO _
 have hx:=hu m w _ (hO x (by simp[ho,Op.operands]))
 refine ⟨c,?_,hv m w⟩
 have:=hc e1 e2 w h1 h2
 simp[execOp,ho,hx,this]
theorem FP {i:IntKind} {n:Int} (hk:td.kind=.int) (hx:ρ x=.int i n):aY P ρ st.h.get o (.int td.ik (td.ik.wrap n)):=
 gT ho hs hd (u:=.int i n) (c:=.int td.ik (td.ik.wrap n)) (fun m w v hv=>by rwa [hx,RV] at hv) (fun e1 e2 w h1 h2=>by
  obtain rfl:=(hd.more e2 h2).1 hk
  simp[convert,run_underlying h1,run_underlying h2,Conv.intToInt]) fun m w=>kW _ _ _ _
theorem CC {y z:Sy} (hk:td.kind=.int) (hx:ρ x=.sym y) (hy:Unk.toK y td.ik=some z):aY P ρ st.h.get o (.sym z):=by
 obtain⟨_,e1,_,_,h1,_⟩:=hs.ex
 obtain⟨_,e2,_,_,h2,_⟩:=hd.ex
 intro a m w hO _
 have hv:=hO x (by simp[ho,Op.operands])
 rw[hx,RV] at hv
 obtain⟨i,n,hu,hn⟩:=Unk.okK _ _ _ hy w _ hv
 obtain rfl:=(hd.more e2 h2).1 hk
 refine ⟨.int td.ik (td.ik.wrap n),?_,by rw[RV];exact hn⟩
 simp[execOp,ho,hu,convert,run_underlying h1,run_underlying h2,Conv.intToInt]
theorem FN {i:FloatKind} {b:Nat} {n:Int} (hk:td.kind=.int) (hx:ρ x=.float i b) (hn:(i.decode b).toInt .zero=some n) (hr:td.ik.min≤n∧n≤td.ik.max):aY P ρ st.h.get o (.int td.ik n):=
 gT ho hs hd (u:=.float i b) (c:=.int td.ik n) (fun m w v hv=>by rwa [hx,RV] at hv) (fun e1 e2 w h1 h2=>by
  obtain rfl:=(hd.more e2 h2).1 hk
  simp[convert,run_underlying h1,run_underlying h2,Conv.floatToInt,hn,hr]) fun m w=>kW _ _ _ _
theorem FO {i:IntKind} {n:Int} (hk:td.kind=.float) (hx:ρ x=.int i n):aY P ρ st.h.get o (.float td.fk (td.fk.nearest n)):=
 gT ho hs hd (u:=.int i n) (c:=.float td.fk (td.fk.nearest n)) (fun m w v hv=>by rwa [hx,RV] at hv) (fun e1 e2 w h1 h2=>by
  obtain rfl:=(hd.more e2 h2).2.1 hk
  simp[convert,run_underlying h1,run_underlying h2,Conv.intToFloat]) fun m w=>mf _ _ _ _
theorem Ae {i:FloatKind} {b:Nat} (hk:td.kind=.float) (hx:ρ x=.float i b) (hi:i=td.fk):aY P ρ st.h.get o (.float td.fk b):=
 gT ho hs hd (u:=.float i b) (c:=.float td.fk b) (fun m w v hv=>by rwa [hx,RV] at hv) (fun e1 e2 w h1 h2=>by
  obtain rfl:=(hd.more e2 h2).2.1 hk
  simp[convert,run_underlying h1,run_underlying h2,Conv.floatToFloat,hi]) fun m w=>mf _ _ _ _
theorem FM {i:FloatKind} {b:Nat} {g:Bool} {mm:Nat} {ee:Int} (hk:td.kind=.float) (hx:ρ x=.float i b) (hi:¬i=td.fk) (hdec:i.decode b=.number g mm ee) (hf:¬(td.fk.decode (td.fk.encode (.number g mm ee))).isInfinity=true) :
  aY P ρ st.h.get o (.float td.fk (td.fk.encode (.number g mm ee))):=
 gT ho hs hd (u:=.float i b) (c:=.float td.fk (td.fk.encode (.number g mm ee))) (fun m w v hv=>by rwa [hx,RV] at hv) (fun e1 e2 w h1 h2=>by
  obtain rfl:=(hd.more e2 h2).2.1 hk
  simp[convert,run_underlying h1,run_underlying h2,Conv.floatToFloat,hi,hdec,hf]) fun m w=>mf _ _ _ _
theorem FQ {b:List UInt8} (hk:td.kind=.string) (hx:ρ x=.str b) (hk':ts.kind=.string):aY P ρ st.h.get o (.str b):=by
 have h11:∀ e2,P.underlying d=some e2→e2=.string:=fun e2 h2=>by
  obtain⟨_,e,_,_,g2,_,_,_,_,_,_,_,_,g11⟩:=hd.ex
  rw[h2] at g2;cases g2
  exact g11 hk
 have h12:∀ e2,P.underlying s=some e2→e2=.string:=fun e2 h2=>by
  obtain⟨_,e,_,_,g2,_,_,_,_,_,_,_,_,g11⟩:=hs.ex
  rw[h2] at g2;cases g2
  exact g11 hk'
 exact gT ho hs hd (u:=.string ⟨b.toArray⟩) (c:=.string ⟨b.toArray⟩) (fun m w v hv=>by rwa [hx,RV] at hv) (fun e1 e2 w h1 h2=>by
  obtain rfl:=h11 e2 h2
  obtain rfl:=h12 e1 h1
  simp[convert,run_underlying h1,run_underlying h2]) fun m w=>JW _ _ _
end
theorem GK {t:TypeId} {x:Operand} {i:FloatKind} {b:Nat} (ho:o.op=.unOp .neg t x) (hx:ρ x=.float i b):aY P ρ st.h.get o (.float i (Op.negFloat i b)):=by
 intro a m w hO _
 refine ⟨.float i (Op.negFloat i b),?_,by rw[RV]⟩
 simp[execOp,ho,CV (hO x (by simp[ho,Op.operands])) hx,Op.unary]
theorem Jx {args:Array Operand} {argTypes:Array TypeId} {x y:Operand} {i j:IntKind} {n l:Int} (ho:o.op=.call { callee:=.builtin .max,args,argTypes }) (ha:args.toList=[x,y]) (hx:ρ x=.int i n) (hy:ρ y=.int j l):aY P ρ st.h.get o (.int i (if l>n then l else n)):=by
 have e2:args = #[x,y]:=Array.ext' (by simpa using ha)
 subst e2
 intro a m w hO _
 refine ⟨.int i (if l>n then l else n),?_,by rw[RV]⟩
 simp[execOp,ho,resolve,invoke,builtin,Builtin.max_,Builtin.max2,dD (hO x (by simp[ho,Op.operands,Call.operands])) hx,dD (hO y (by simp[ho,Op.operands,Call.operands])) hy]
theorem Jy {args:Array Operand} {argTypes:Array TypeId} {x y:Operand} {i j:IntKind} {n l:Int} (ho:o.op=.call { callee:=.builtin .min,args,argTypes }) (ha:args.toList=[x,y]) (hx:ρ x=.int i n) (hy:ρ y=.int j l):aY P ρ st.h.get o (.int i (if l<n then l else n)):=by
 have e2:args = #[x,y]:=Array.ext' (by simpa using ha)
 subst e2
 intro a m w hO _
 refine ⟨.int i (if l<n then l else n),?_,by rw[RV]⟩
 simp[execOp,ho,resolve,invoke,builtin,Builtin.min_,Builtin.min2,dD (hO x (by simp[ho,Op.operands,Call.operands])) hx,dD (hO y (by simp[ho,Op.operands,Call.operands])) hy]
theorem iE {a:Act} {m:Nm} {w:World} {lo hi:Option Operand} {len cap l h:Nat} {b:Bool} (hlo:cw ρ lo 0=some l) (hhi:cw ρ hi len=some h) (h1:l≤h) (h2:h≤len) (h3:len≤cap)
  (hop:∀ x,lo=some x∨hi=some x→RV m w (ρ x) (a.eval x)):(Instr.sliceBounds b len cap (lo.map a.eval) (hi.map a.eval) none).run P w=.ok (l,h,cap) w:=by
 have key:∀ (x:Operand) (d n y:Nat) (c:BoundsCode),cw ρ (some x) d=some n→RV m w (ρ x) (a.eval x)→n≤y→(Instr.sliceBound (a.eval x) y c).run P w=.ok n w:=by
  intro x d n y c hb hv hy
  unfold cw at hb
  simp only at hb
  split at hb
  ·rename_i i hx
   split at hb
   ·simp only[K5] at hb
    subst hb
    rw[hx,RV] at hv
    have:0≤i∧i≤(y:Int):=⟨‹_›,by omega⟩
    simp[Instr.sliceBound,hv,asIntOf,this]
   ·cases hb
  ·cases hb
 unfold Instr.sliceBounds
 cases hi with
 | none=>
  simp only[cw,K5] at hhi
  subst hhi
  cases lo with
  | none=>
   simp only[cw,K5] at hlo
   subst hlo
   simp
  | some x=>simp[key x 0 l len _ hlo (hop x (.inl rfl)) h1]
 | some y=>
  cases lo with
  | none=>
   simp only[cw,K5] at hlo
   subst hlo
   simp[key y len h cap _ hhi (hop y (.inr rfl)) (by omega)]
  | some x=>simp[key y len h cap _ hhi (hop y (.inr rfl)) (by omega),key x 0 l h _ hlo (hop x (.inl rfl)) h1]
theorem EF {t:TypeId} {x:Operand} {lo hi:Option Operand} {ti te:TyI} {b off n e l h:Nat} (ho:o.op=.slice t x lo hi none) (ht:TyOK P t ti) (hk:ti.kind=.slice) (hte:TyOK P ti.elem te) (hx:ρ x=.sl b off n e)
  (hlo:cw ρ lo 0=some l) (hhi:cw ρ hi n=some h) (hc:l≤h∧h≤n∧e=te.size∧(l=0∨l<n)):aY P ρ st.h.get o (.sl b (off+l*e) (h-l) e):=by
 obtain⟨i,d,z,h1,h2,h3,h4,h5,h6,h7,h8,h9,h10,_⟩:=ht.ex
 obtain⟨i2,d2,z2,g1,g2,g3,g4,g5,g6,_⟩:=hte.ex
 obtain rfl:=h10 hk
 obtain⟨c1,c2,c3,c4⟩:=hc
 intro a m w hO _
 have hv:=hO x (by simp[ho,Op.operands])
 rw[hx,RV] at hv
 obtain⟨rb,cap,hm,hv,hcap,hroom⟩:=hv
 have hb:=iE (P:=P) (b:=true) (len:=n) (cap:=cap) hlo hhi c1 c2 hcap (a:=a) (m:=m) (w:=w) fun y hy=>hO y (by
  rcases hy with rfl|rfl<;>simp[ho,Op.operands])
 refine ⟨.slice (some ⟨rb,off+l*e,none⟩) (h-l) (cap-l),?_,?_⟩
 ·have hadr:(if cap=l then some (⟨rb,off,none⟩:Addr) else Option.map (·.add (l*i2.size)) (some (⟨rb,off,none⟩:Addr)))=some ⟨rb,off+l*e,none⟩:=by
   rw[c3,g4]
   split
   ·have:l=0:=by omega
    subst this;simp
   ·simp[cR]
  simp only[execOp,ho,Instr.sliceAt,Sem.run_bind,run_underlying h2,Result.andThen_ok,Instr.slice,hv,Option.map_none,hb,bR g1,Sem.run_pure]
  rw[hadr]
 ·rw[RV]
  refine ⟨rb,cap-l,hm,rfl,by omega,?_⟩
  have:off+l*e+(cap-l)*e=off+cap*e:=by
   have:cap=l+(cap-l):=by omega
   rw[Nat.add_assoc,←Nat.add_mul,←this]
  rw[this]
  exact hroom
theorem xZ {t:TypeId} {x:Operand} {lo hi:Option Operand} {ti te:TyI} {l h:Nat} (ho:o.op=.slice t x lo hi none) (ht:TyOK P t ti) (hk:ti.kind=.slice) (hte:TyOK P ti.elem te) (hx:ρ x=.nils)
  (hlo:cw ρ lo 0=some l) (hhi:cw ρ hi 0=some h) (hc:l=0∧h=0):aY P ρ st.h.get o .nils:=by
 obtain⟨i,d,z,h1,h2,h3,h4,h5,h6,h7,h8,h9,h10,_⟩:=ht.ex
 obtain⟨i2,d2,z2,g1,g2,g3,g4,g5,g6,_⟩:=hte.ex
 obtain rfl:=h10 hk
 obtain⟨rfl,rfl⟩:=hc
 intro a m w hO _
 have hv:=hO x (by simp[ho,Op.operands])
 rw[hx,RV] at hv
 have hb:=iE (P:=P) (b:=true) (len:=0) (cap:=0) hlo hhi (K6 _) (K6 _) (K6 _) (a:=a) (m:=m) (w:=w) fun y hy=>hO y (by
  rcases hy with rfl|rfl<;>simp[ho,Op.operands])
 refine ⟨.slice none 0 0,?_,by rw[RV]⟩
 simp only[execOp,ho,Instr.sliceAt,Sem.run_bind,run_underlying h2,Result.andThen_ok,Instr.slice,hv,Option.map_none,hb,bR g1,Sem.run_pure]
 simp
theorem Bt {t:TypeId} {x:Operand} {lo hi:Option Operand} {ti:TyI} {s:List UInt8} {l h:Nat} (ho:o.op=.slice t x lo hi none) (ht:TyOK P t ti) (hk:ti.kind=.string) (hx:ρ x=.str s)
  (hlo:cw ρ lo 0=some l) (hhi:cw ρ hi s.length=some h) (hc:l≤h∧h≤s.length):aY P ρ st.h.get o (.str ((s.drop l).take (h-l))):=by
 obtain⟨i,d,z,h1,h2,h3,h4,h5,h6,h7,h8,h9,h10,h11⟩:=ht.ex
 obtain rfl:=h11 hk
 intro a m w hO _
 have hv:=hO x (by simp[ho,Op.operands])
 rw[hx,RV] at hv
 have hz:(⟨s.toArray⟩:ByteArray).size=s.length:=by simp[ByteArray.size]
 have hb:=iE (P:=P) (b:=false) (len:=s.length) (cap:=s.length) hlo hhi hc.1 hc.2 (K6 _) (a:=a) (m:=m) (w:=w) fun y hy=>hO y (by
  rcases hy with rfl|rfl<;>simp[ho,Op.operands])
 refine ⟨.string ⟨((s.drop l).take (h-l)).toArray⟩,?_,by rw[RV]⟩
 have he:(⟨s.toArray⟩:ByteArray).extract l h=⟨((s.drop l).take (h-l)).toArray⟩:=by
  apply ByteArray.ext
  rw[ByteArray.data_extract]
  apply Array.ext'
  simp[List.extract_eq_take_drop]
 simp only[execOp,ho,Instr.sliceAt,Sem.run_bind,run_underlying h2,Result.andThen_ok,Instr.slice,hv,Option.map_none,Option.isSome_none,Bool.false_eq_true,if_false,hz,hb,Sem.run_pure,he]
theorem Bs {t:TypeId} {x:Operand} {lo hi:Option Operand} {ti te:TyI} {b off l h:Nat} {cells:List AV} (ho:o.op=.slice t x lo hi none) (ht:TyOK P t ti) (hk:ti.kind=.array) (hte:TyOK P ti.elem te) (hx:ρ x=.ptr b off)
  (hlo:cw ρ lo 0=some l) (hhi:cw ρ hi ti.len=some h) (hcells:fl st.h b=some cells) (hc:b<st.nx∧off+ti.len*te.size≤cells.length∧l≤h∧h≤ti.len∧(l=0∨l<ti.len)):aY P ρ st.h.get o (.sl b (off+l*te.size) (h-l) te.size):=by
 obtain⟨i,d,z,h1,h2,h3,h4,h5,h6,h7,h8,h9,h10,_⟩:=ht.ex
 obtain⟨i2,d2,z2,g1,g2,g3,g4,g5,g6,_⟩:=hte.ex
 obtain rfl:=h9 hk
 obtain⟨_,c1,c2,c3,c4⟩:=hc
 obtain⟨hb,hM⟩:=bT hcells
 have hrd:ie ρ o=some b:=by unfold ie;rw[ho];simp only[hx]
 intro a m w hO hs
 obtain⟨rb,hm,hv⟩:=kV (hO x (by simp[ho,Op.operands])) hx
 rw[hrd] at hs
 obtain⟨c,e,q2,q3,_⟩:=hs.blk b cells rb (by unfold only;rw[if_pos rfl];exact hb) hM hm
 have hbd:=iE (P:=P) (b:=false) (len:=ti.len) (cap:=ti.len) hlo hhi c2 c3 (K6 _) (a:=a) (m:=m) (w:=w) fun y hy=>hO y (by
  rcases hy with rfl|rfl<;>simp[ho,Op.operands])
 refine ⟨.slice (some ⟨rb,off+l*te.size,none⟩) (h-l) (ti.len-l),?_,?_⟩
 ·have hadr:(if ti.len=l then (⟨rb,off,none⟩:Addr) else (⟨rb,off,none⟩:Addr).add (l*i2.size))=⟨rb,off+l*te.size,none⟩:=by
   rw[g4]
   split
   ·have:l=0:=by omega
    subst this;simp
   ·simp[cR]
  simp only[execOp,ho,Instr.sliceAt,Sem.run_bind,run_underlying h2,Result.andThen_ok,hv,Instr.sureAddr,Option.map_none,Sem.run_pure,hbd,bR g1]
  rw[hadr]
 ·rw[RV]
  refine ⟨rb,ti.len-l,hm,rfl,by omega,c,e,(0,0),q2,?_⟩
  have:off+l*te.size+(ti.len-l)*te.size=off+ti.len*te.size:=by
   have:ti.len=l+(ti.len-l):=by omega
   rw[Nat.add_assoc,←Nat.add_mul,←this]
  omega
theorem rN {m:Nm} {w:World}:∀ (cs:List AV) (s:List UInt8) (vs:List Value),mH cs=some s→RVs m w cs vs→∃ ns:List Int,vs=ns.map (Value.int .u8)∧s=ns.map fun n=>UInt8.ofNat n.toNat
 | [],s,vs,h,hv=>by
  simp only[mH,K5] at h
  rw[RVs] at hv
  subst h hv
  exact⟨[],rfl,rfl⟩
 | a::cs,s,vs,h,hv=>by
  rw[RVs] at hv
  obtain⟨v,l,rfl,h1,h2⟩:=hv
  unfold mH at h
  split at h
  ·rename_i heq;cases heq
  ·rename_i n l' heq
   cases heq
   split at h
   ·rename_i s' hs'
    rw[bS] at h
    simp only[K5] at h
    subst h
    obtain⟨ns,rfl,rfl⟩:=rN cs s' l hs' h2
    rw[RV] at h1
    exact⟨n::ns,by rw[h1];rfl,rfl⟩
   ·cases h
  ·cases h
theorem fold_push (ns:List Int):∀ (s:List UInt8),ns.foldl (fun r n=>r.push (UInt8.ofNat n.toNat)) (⟨s.toArray⟩:ByteArray)=⟨(s++ns.map fun n=>UInt8.ofNat n.toNat).toArray⟩:=by
 induction ns with
 | nil=>intro s;simp
 | cons n ns ih=>
  intro s
  rw[List.foldl_cons]
  have:(⟨s.toArray⟩:ByteArray).push (UInt8.ofNat n.toNat)=⟨(s++[UInt8.ofNat n.toNat]).toArray⟩:=by
   apply ByteArray.ext
   simp[ByteArray.push]
  rw[this,ih]
  simp
theorem wV {s d:TypeId} {x:Operand} {ts td te:TyI} {b off n e:Nat} (ho:o.op=.convert s d x) (hs:TyOK P s ts) (hd:TyOK P d td) (hk:td.kind=.string) (hks:ts.kind=.slice) (hte:TyOK P ts.elem te) (hke:te.kind=.int) (hik:te.ik=.u8) (hx:ρ x=.sl b off n e)
  (h:(oz st b off n fun cs=>match mH cs with
     | some s=>k (.str s) st
     | none=>none)=some r):∃ av,k av st=some r∧aY P ρ st.h.get o av:=by
 obtain⟨_,d1,_,_,h2,_,_,_,_,_,_,_,h10,_⟩:=hs.ex
 obtain⟨_,d2,_,_,g2,_,_,_,_,_,_,_,_,g11⟩:=hd.ex
 obtain⟨_,d3,_,_,f2,_⟩:=hte.ex
 obtain rfl:=h10 hks
 obtain rfl:=g11 hk
 have hu8:=(hte.more _ f2).1 hke
 rw[hik] at hu8
 subst hu8
 have hrd:ie ρ o=some b:=by unfold ie;rw[ho];simp only[hx]
 obtain⟨cells,c1,c2,c3⟩:=gW h
 split at c3
 ·rename_i str hstr
  refine ⟨_,c3,fun a m w hO hss=>?_⟩
  rw[hrd] at hss
  have hv:=hO x (by simp[ho,Op.operands])
  rw[hx,RV] at hv
  obtain⟨rb,cap,hm,hv,_⟩:=hv
  obtain⟨vs,q1,q2,_⟩:=mV (P:=P) hss (b:=b) (by unfold only;rw[if_pos rfl];exact c1) hm c2
  obtain⟨ns,rfl,rfl⟩:=rN _ _ _ hstr q2
  have hr:=run_bytesToString (P:=P) w ⟨rb,off,none⟩ n cap ns q1
  have hf:=fold_push ns []
  refine ⟨.string ⟨(ns.map fun n=>UInt8.ofNat n.toNat).toArray⟩,?_,by rw[RV]⟩
  have he:(ByteArray.empty:ByteArray)=⟨([]:List UInt8).toArray⟩:=rfl
  rw[he,hf,List.nil_append] at hr
  simp only[execOp,ho,hv,Sem.run_bind,run_convert_bytes_string w s d ts.elem _ _ _ h2 f2 g2,hr,Result.andThen_ok,Sem.run_pure]
 ·cases c3
end
end Go.Sx
namespace Go.Sx
open LimbNum
variable [Unk] [Glob]
section
variable {P : Program} {E : Env} {m : Nm} {w : World} {st : Hp} {o : Oper} {β : Type} {r : β}
theorem uJ (vs:List Value):∀ (off j:Nat) (c:Array Value),off+j+vs.length≤c.size →
  (((vs.zipIdx j).foldl (fun cs (x:Value × Nat)=>cs.setIfInBounds (off+x.2) x.1) c).toList)=c.toList.take (off+j)++vs++c.toList.drop (off+j+vs.length):=by
 induction vs with
 | nil=>intro off j c h;simp
 | cons v vs ih=>
  intro off j c h
  simp only[List.length_cons] at h
  simp only[List.zipIdx_cons,List.foldl_cons]
  rw[ih off (j+1) _ (by simp;omega)]
  have hl:off+j<c.toList.length:=by simp;omega
  simp only[Array.toList_setIfInBounds,List.length_cons]
  rw[show off+(j+1)=off+j+1 by omega,List.take_add_one,List.take_set_of_le (K6 _),List.getElem?_set_self hl,List.drop_set_of_lt (by omega)]
  simp[show off+j+1+vs.length=off+j+(vs.length+1) by omega]
theorem xT {cells xs:List AV} {cs vs:List Value} {off:Nat} (h:RVs m w cells cs) (hx:RVs m w xs vs):RVs m w (splice cells off xs) (cs.take off++vs++cs.drop (off+vs.length)):=by
 unfold splice
 rw[hx.length]
 exact ((h.take off).append hx).append (h.drop _)
end
end Go.Sx
namespace Go.Sx
open LimbNum
variable [Unk] [Glob]
theorem uS {l:List AV} (h:isM l=false) (k:Nat):isM (l.take k)=false:=by
 cases k with
 | zero=>rfl
 | succ k=>cases l with
  | nil=>rfl
  | cons a l=>cases a<;>first|rfl|cases h
theorem RS.shrink {m:Nm} {w:World} {h h':Hf} (hs:RS m w h) {b k:Nat} {cells:List AV} (hb:h b=some cells) (hM:isM cells=false) (hget:h' b=some (cells.take k)) (hoth:∀ i,i≠b→h' i=h i):RS m w h'∧To m h w m h' w:=by
 have hd:∀ x,h' x≠none→h x≠none:=fun x hx=>by
  by_cases hxb:x=b
  ·subst hxb;rw[hb];simp
  ·rwa [←hoth x hxb]
 have hto:To m h w m h' w:=⟨Ext.rfl' _,Grow.rfl' _,U64.rfl' _,eT.rfl' _,fun _ _ _=>rfl,fun b rb hb hm=>.inr ⟨b,hd b hb,hm⟩⟩
 refine ⟨⟨fun x cs rb hx hm=>?_,fun b b' x hb hb' hm hm'=>hs.inj b b' x (hd b hb) (hd b' hb') hm hm',hs.glob.to hto⟩,hto⟩
 by_cases hxb:x=b
 ·subst hxb
  rw[hget] at hx;cases hx
  obtain⟨c,e,q1,q2,q3,q4⟩:=hs.blk x cells rb hb hM hm
  exact⟨_,q1,.inl ⟨uS hM k,c,e,rfl,Nat.le_trans (by simp;omega) q2,fun i a ha=>q3 i a (by
   rw[List.getElem?_take] at ha
   split at ha
   ·exact ha
   ·cases ha),q4⟩⟩
 ·rw[hoth x hxb] at hx
  exact hs.obj x cs rb hx hm
theorem RS.sub {m:Nm} {w:World} {h h':Hf} (hs:RS m w h) (hsub:∀ b c,h' b=some c→h b=some c):RS m w h'∧To m h w m h' w:=by
 have hd:∀ b,h' b≠none→h b≠none:=fun b hb=>by
  cases hc:h' b with
  | none=>exact absurd hc hb
  | some c=>rw[hsub b c hc];simp
 have hto:To m h w m h' w:=⟨Ext.rfl' _,Grow.rfl' _,U64.rfl' _,eT.rfl' _,fun _ _ _=>rfl,fun b rb hb hm=>.inr ⟨b,hd b hb,hm⟩⟩
 exact⟨⟨fun b cells rb hb hm=>hs.obj b cells rb (hsub b cells hb) hm,fun b b' x hb hb' hm hm'=>hs.inj b b' x (hd b hb) (hd b' hb') hm hm',hs.glob.to hto⟩,hto⟩
theorem cell_of_heap {w w':World} (he:w'.heap=w.heap) (a:Addr):w'.cell? a=w.cell? a:=by unfold World.cell?;rw[he]
theorem RS.heap {m:Nm} {w w':World} {h:Hf} (hs:RS m w h) (he:w'.heap=w.heap) (hv:eT w w'):RS m w' h∧To m h w m h w':=by
 have hg:Grow w w':=⟨by rw[he];exact K6 _,fun b c e f hb=>⟨c,f,by rw[he];exact hb,rfl⟩⟩
 have hu:U64 w w':=fun a n ha=>by rw[cell_of_heap he];exact ha
 have ht:To m h w m h w':=⟨Ext.rfl' _,hg,hu,hv,fun _ _ _=>by rw[he],fun b rb hb hm=>.inr ⟨b,hb,hm⟩⟩
 exact⟨⟨fun b cells rb hb hm=>by
  obtain⟨o,h2,h3⟩:=hs.obj b cells rb hb hm
  exact⟨o,by rw[he];exact h2,h3.to ht⟩,hs.inj,hs.glob.to ht⟩,ht⟩
theorem RS.rename {m:Nm} {w:World} {h h':Hf} {b nx rb:Nat} {cells:List AV} (hs:RS m w h) (hf:m nx=none) (hm:m b=some rb) (hb:h b=some cells) (hget:h' nx=some cells) (hb':h' b=none)
  (hoth:∀ i,i≠nx→i≠b→h' i=h i):RS (fun i=>if i=nx then some rb else m i) w h'∧To m h w (fun i=>if i=nx then some rb else m i) h' w:=by
 have hext:Ext m (fun i=>if i=nx then some rb else m i):=fun x y hx=>by
  by_cases hxn:x=nx
  ·subst hxn;rw[hf] at hx;cases hx
  ·simp only[if_neg hxn];exact hx
 have hto:To m h w (fun i=>if i=nx then some rb else m i) h' w:=by
  refine ⟨hext,Grow.rfl' _,U64.rfl' _,eT.rfl' _,fun _ _ _=>rfl,fun x y hx hmx=>?_⟩
  by_cases hxn:x=nx
  ·rw[if_pos hxn] at hmx;cases hmx
   exact .inr ⟨b,by rw[hb];simp,hm⟩
  ·have hxb:x≠b:=fun h=>by subst h;exact hx hb'
   rw[if_neg hxn] at hmx
   rw[hoth x hxn hxb] at hx
   exact .inr ⟨x,hx,hmx⟩
 refine ⟨⟨fun x cs y hx hmx=>?_,fun x y z hx hy hmx hmy=>?_,hs.glob.to hto⟩,hto⟩
 ·by_cases hxn:x=nx
  ·subst hxn
   simp only[if_true,K5] at hmx
   subst hmx
   rw[hget] at hx;cases hx
   obtain⟨o,h2,h3⟩:=hs.obj b _ rb hb hm
   exact⟨o,h2,h3.to hto⟩
  ·have hxb:x≠b:=fun h=>by subst h;rw[hb'] at hx;cases hx
   rw[hoth x hxn hxb] at hx
   simp only[if_neg hxn] at hmx
   obtain⟨o,h2,h3⟩:=hs.obj x _ y hx hmx
   exact⟨o,h2,h3.to hto⟩
 ·have key:∀ x z,h' x≠none→(if x=nx then some rb else m x)=some z→(x=nx∧z=rb)∨(x≠nx∧x≠b∧h x≠none∧m x=some z):=fun x z hx hmx=>by
   by_cases hxn:x=nx
   ·rw[if_pos hxn] at hmx;cases hmx;exact .inl ⟨hxn,rfl⟩
   ·have hxb:x≠b:=fun h=>by subst h;exact hx hb'
    rw[if_neg hxn] at hmx
    rw[hoth x hxn hxb] at hx
    exact .inr ⟨hxn,hxb,hx,hmx⟩
  have hbn:h b≠none:=by rw[hb];simp
  rcases key x z hx hmx with ⟨h1,h2⟩|⟨h1,h2,h3,h4⟩<;>rcases key y z hy hmy with ⟨g1,g2⟩|⟨g1,g2,g3,g4⟩
  ·rw[h1,g1]
  ·exact absurd (hs.inj y b z g3 hbn g4 (h2 ▸ hm)) g2
  ·exact absurd (hs.inj x b z h3 hbn h4 (g2 ▸ hm)) h2
  ·exact hs.inj x y z h3 g3 h4 g4
theorem pZ {z:Value} {m:Nm} {w:World} (h:(z.cells.toList.map ja).all AV.cell=true):∀ v∈z.cells.toList,∀ n,v≠.int .u64 n:=fun v hv n=>by
 have:=List.all_eq_true.1 h (ja v) (List.mem_map.2 ⟨v,hv,rfl⟩)
 exact (AV.jH this (jT m w v)).1 n
theorem fc (z:List AV):∀ n,(jX z n).length=n*z.length
 | 0=>by simp[jX]
 | n+1=>by rw[jX,List.length_append,fc z n,Nat.add_mul];omega
theorem lT (z:Array Value) (hz:0<z.size) (n i:Nat) (hi:i<n*z.size):((Array.range (n*z.size)).map (z[· % z.size]!))[i]?=z[i%z.size]?:=by
 rw[Array.getElem?_map,Array.getElem?_range,if_pos hi,Option.map_some]
 have:=Nat.mod_lt i hz
 rw[getElem!_pos z (i%z.size) this,Array.getElem?_eq_getElem this]
theorem lZ (z:List AV) (hz:0<z.length):∀ (n i:Nat),i<n*z.length→(jX z n)[i]?=z[i%z.length]?
 | 0,i,h=>by simp at h
 | n+1,i,h=>by
  rw[jX,List.getElem?_append]
  split
  ·rw[Nat.mod_eq_of_lt ‹_›]
  ·have hle:z.length≤i:=by omega
   rw[lZ z hz n (i-z.length) (by rw[Nat.add_mul] at h;omega),Nat.mod_eq_sub_mod hle]
theorem qy {m:Nm} {w:World} {zs:List AV} {z:Value} (hz:zs=z.cells.toList.map ja) (hp:0<zs.length) (n:Nat) :
  RVs m w (jX zs n) ((Array.range (n*z.cells.size)).map (z.cells[· % z.cells.size]!)).toList:=by
 have hl:zs.length=z.cells.size:=by rw[hz];simp
 refine RVs.eH (by rw[fc,hl];simp) fun i a ha=>?_
 have hi:i<n*zs.length:=by
  rw[←fc]
  rcases Nat.lt_or_ge i (jX zs n).length with h|h
  ·exact h
  ·rw[List.getElem?_eq_none h] at ha;cases ha
 rw[lZ zs hp n i hi] at ha
 rw[Array.getElem?_toList,lT z.cells (by omega) n i (by rw[←hl];exact hi),←hl]
 rw[hz,List.getElem?_map] at ha
 rw[Array.getElem?_toList] at ha
 rw[←hz] at ha
 cases hv:z.cells[i%zs.length]? with
 | none=>rw[hv] at ha;cases ha
 | some v=>
  rw[hv] at ha
  simp only[Option.map_some,K5] at ha
  subst ha
  exact⟨v,rfl,jT m w v⟩
section
variable {P : Program} {E : Env} {ρ : Operand → AV} {st : Hp} {o : Oper} {β : Type} {k : AV → Hp → Option β} {r : β}
theorem qo {m:Nm} {w:World} {a:Act} (parts:List (Nat × Operand)) (hT:∀ p∈parts,RV m w (ρ p.2) (a.eval p.2)) :
  (parts.map fun (i,x)=>(i,ρ x)).map (·.1)=(parts.map fun (i,x)=>(i,a.eval x)).map (·.1) ∧
  RVs m w ((parts.map fun (i,x)=>(i,ρ x)).map (·.2)) ((parts.map fun (i,x)=>(i,a.eval x)).map (·.2)):=by
 induction parts with
 | nil=>exact⟨rfl,by simp only[List.map_nil];rw[RVs]⟩
 | cons p parts ih=>
  obtain⟨i,x⟩:=p
  refine ⟨by simp,?_⟩
  simp only[List.map_cons]
  rw[RVs]
  exact⟨_,_,rfl,hT (i,x) (by simp),(ih fun p hp=>hT p (by simp[hp])).2⟩
theorem qn {parts:Array (Nat × Operand)} {p:Nat × Operand} (hp:p∈parts.toList):p.2∈(parts.toList.map (·.2)).toArray:=by
 simp only[List.mem_toArray,List.mem_map]
 exact⟨p,hp,rfl⟩
theorem lN {place:Nat→Option (Nat × Nat)}:∀ (parts:List (Nat × AV)) (cells:List AV) (k:List AV→Option β),lM place cells parts k=some r →
  ∃ cells',k cells'=some r∧∀ (m:Nm) (w:World) (ps:List (Nat × Value)) (cs:Array Value),parts.map (·.1)=ps.map (·.1)→RVs m w (parts.map (·.2)) (ps.map (·.2))→RVs m w cells cs.toList →
   ∃ cs',Instr.fill place cs ps=some cs'∧RVs m w cells' cs'.toList
 | [],cells,k,h=>⟨cells,h,fun m w ps cs hp hv hc=>by
  have:ps=[]:=by simpa using hp.symm
  subst this
  exact⟨cs,rfl,hc⟩⟩
 |(i,av)::parts,cells,k,h=>by
  rw[lM] at h
  split at h
  ·cases h
  ·rename_i off size hpl
   split at h
   ·cases h
   ·rename_i xs hxs
    split at h
    ·split at h
     ·rename_i hs hle
      rw[bS] at h
      obtain⟨cells',q1,q2⟩:=lN parts _ k h
      refine ⟨cells',q1,fun m w ps cs hp hv hc=>?_⟩
      cases ps with
      | nil=>simp at hp
      | cons p ps=>
       obtain⟨j,v⟩:=p
       simp only[List.map_cons,List.cons.injEq] at hp
       obtain⟨rfl,hp⟩:=hp
       simp only[List.map_cons] at hv
       rw[RVs] at hv
       obtain⟨v',l,he,h1,h2⟩:=hv
       simp only[List.cons.injEq] at he
       obtain⟨rfl,rfl⟩:=he
       have hx:=ph h1 hxs
       have hlx:=hx.length
       have hlc:=hc.length
       have hsz:v.cells.size=size:=by rw[←hs,hlx];simp
       have hfit:¬(off+v.cells.size>cs.size):=by
        have:cells.length=cs.size:=by rw[hlc];simp
        omega
       obtain⟨cs',q3,q4⟩:=q2 m w ps (v.cells.toList.zipIdx.foldl (fun cs (x:Value × Nat)=>cs.setIfInBounds (off+x.2) x.1) cs) hp h2 (by
        rw[uJ v.cells.toList off 0 cs (by simp;omega)]
        exact xT hc hx)
       refine ⟨cs',?_,q4⟩
       rw[Instr.fill,hpl]
       simp only[hsz]
       rw[if_neg (by rw[hsz] at hfit;simpa using hfit)]
       rw[←Array.foldl_toList,Array.toList_zipIdx]
       exact q3
     ·cases h
    ·cases h
theorem AY {ti:TyI} {fs:Array Field} (hfs:ti.flds=fs.toList.map (df P)) (hfl:(ti.flds.all fun x=>decide (x.2.2.1≠0))=true) :
  fs.toList.mapM (fun f=>(P.info? f.type).map fun i=>(f.offset,i.size))=some (ti.flds.map fun x=>(x.1,x.2.2.1)):=by
 rw[hfs] at hfl ⊢
 clear hfs
 generalize fs.toList=l at hfl ⊢
 induction l with
 | nil=>rfl
 | cons f l ih=>
  simp only[List.map_cons,List.all_cons,Bool.and_eq_true,decide_eq_true_eq] at hfl
  have hx:df P f=((df P f).1,(df P f).2.1,(df P f).2.2.1,(df P f).2.2.2):=rfl
  obtain⟨j,e,e1,e2,e3,e4,_⟩:=gU hx.symm hfl.1
  simp only[List.mapM_cons,e1,Option.map_some,List.map_cons,e3,e4]
  rw[ih hfl.2]
  rfl
theorem ou {t:TypeId} {parts:Array (Nat × Operand)} {ti:TyI} (ho:o.op=.build t parts) (ht:TyOK P t ti) (hk:ti.kind=.struct)
  (hfl:(ti.flds.all fun x=>decide (x.2.2.1≠0))=true)
  (h:(lM (tH ti) ti.zero (parts.toList.map fun (i,x)=>(i,ρ x)) fun cs=>k (.agg cs) st)=some r):∃ av,k av st=some r∧aY P ρ st.h.get o av:=by
 obtain⟨i,d,z,h1,h2,h3,h4,h5,h6,h7,h8,_⟩:=ht.ex
 obtain⟨fs,rfl,hfs⟩:=h8 hk
 obtain⟨cells,q1,q0⟩:=lN _ _ _ h
 refine ⟨_,q1,fun a m w hO _=>?_⟩
 obtain⟨p1,p2⟩:=qo (a:=a) parts.toList fun p hp=>hO p.2 (by rw[ho];exact qn hp)
 obtain⟨cs,q2,q3⟩:=q0 m w _ _ p1 p2 (qz h6)
 have hpl:=AY hfs hfl
 have hplace:tH ti=((ti.flds.map fun x=>(x.1,x.2.2.1)).toArray[·]?):=by
  funext j
  simp[tH,kS]
 refine ⟨.agg cs,?_,?_⟩
 ·have hb:P.built t (parts.map fun (i,x)=>(i,a.eval x)).toList=some cs:=by
   unfold Program.built
   rw[h1,h2]
   simp only[h3,hpl]
   rw[←hplace]
   simpa using q2
  simp[execOp,ho,run_build w t _ cs hb]
 ·rw[RV];exact⟨cs.toList,by simp,q3⟩
theorem pf {t:TypeId} {parts:Array (Nat × Operand)} {ti te:TyI} (ho:o.op=.build t parts) (ht:TyOK P t ti) (hk:ti.kind=.array) (hte:TyOK P ti.elem te)
  (h:(lM (fun i=>some (i*te.size,te.size)) ti.zero (parts.toList.map fun (i,x)=>(i,ρ x)) fun cs=>k (.agg cs) st)=some r):∃ av,k av st=some r∧aY P ρ st.h.get o av:=by
 obtain⟨i,d,z,h1,h2,h3,h4,h5,h6,h7,h8,h9,_⟩:=ht.ex
 obtain⟨i2,d2,z2,g1,g2,g3,g4,_⟩:=hte.ex
 obtain rfl:=h9 hk
 obtain⟨cells,q1,q0⟩:=lN _ _ _ h
 refine ⟨_,q1,fun a m w hO _=>?_⟩
 obtain⟨p1,p2⟩:=qo (a:=a) parts.toList fun p hp=>hO p.2 (by rw[ho];exact qn hp)
 obtain⟨cs,q2,q3⟩:=q0 m w _ _ p1 p2 (qz h6)
 refine ⟨.agg cs,?_,?_⟩
 ·have hb:P.built t (parts.map fun (i,x)=>(i,a.eval x)).toList=some cs:=by
   unfold Program.built
   rw[h1,h2]
   simp only[h3,g1]
   rw[g4] at q2
   simpa using q2
  simp[execOp,ho,run_build w t _ cs hb]
 ·rw[RV];exact⟨cs.toList,by simp,q3⟩
theorem Ar {size:Nat}:∀ (ps:List (Nat × Value)) (c c':Array Value),Instr.fill (fun i=>some (i*size,size)) c ps=some c'→c'.size=c.size:=by
 intro ps
 induction ps with
 | nil=>intro c c' h;simp only[Instr.fill,K5] at h;rw[h]
 | cons p ps ih=>
  intro c c' h
  obtain⟨j,v⟩:=p
  rw[Instr.fill] at h
  simp only at h
  split at h
  ·cases h
  ·rename_i hx
   simp only[Bool.or_eq_true,ne_eq,decide_eq_true_eq,not_or,Nat.not_lt,Classical.not_not] at hx
   rw[ih _ _ h]
   have key:=uJ v.cells.toList (j*size) 0 c (by simp;omega)
   have:=congrArg List.length key
   rw[←Array.foldl_toList,Array.toList_zipIdx]
   simp at this ⊢
   omega
theorem rj {t:TypeId} {len:Nat} {parts:Array (Nat × Operand)} {ti te:TyI} (ho:o.op=.buildSlice t len parts) (ht:TyOK P t ti) (hk:ti.kind=.slice) (hte:TyOK P ti.elem te)
  (hc:len*te.size≤65536∧te.zero.length=te.size∧te.size≠0)
  (h:(lM (fun i=>some (i*te.size,te.size)) (jX te.zero len) (parts.toList.map fun (i,x)=>(i,ρ x)) fun cs=>nk st cs fun _ st'=>k (.sl st.nx 0 len te.size) st')=some r) :
  ∃ av st',k av st'=some r∧gP P ρ st o av st':=by
 obtain⟨i,d,z,h1,h2,h3,h4,h5,h6,h7,h8,h9,h10,_⟩:=ht.ex
 obtain⟨i2,d2,z2,g1,g2,g3,g4,g5,g6,_⟩:=hte.ex
 obtain rfl:=h10 hk
 obtain⟨c1,c2,c3⟩:=hc
 have hzl:z2.cells.size=i2.size:=by rw[←g4,←c2,g6];simp
 obtain⟨cells,q1,q0⟩:=lN _ _ _ h
 obtain⟨st',s1,s2,s3,s4,s5,s6⟩:=fz q1
 refine ⟨_,st',s1,cq (dV s4 s5 s6) fun a m w hO hs hf=>?_⟩
 obtain⟨p1,p2⟩:=qo (a:=a) parts.toList fun p hp=>hO p.2 (by rw[ho];exact qn hp)
 obtain⟨cs,q2,q3⟩:=q0 m w _ _ p1 p2 (qy g6 (by omega) len)
 obtain⟨m',u1,u2,u3,u4⟩:=pW hs hf s2 s3 s4 s5 cs ti.elem q3
 have hsz:cs.size=len*te.size:=by
  rw[Ar _ _ _ q2]
  simp[hzl,g4]
 by_cases hl0:len=0
 ·subst hl0
  refine ⟨.slice (some ⟨w.heap.size,0,none⟩) 0 0,_,m',.inl ?_,?_,u1,u2,u4⟩
  ·have e2:cs = #[]:=by apply Array.eq_empty_of_size_eq_zero;simpa using hsz
   have q2':Instr.fill (fun i=>some (i*i2.size,i2.size)) #[] (parts.map fun (i,x)=>(i,a.eval x)).toList=some #[]:=by
    rw[g4] at q2
    simp only[Nat.zero_mul] at q2
    rw[e2] at q2
    simpa [Array.range_zero'] using q2
   subst e2
   simp only[Array.toList_map] at q2'
   simp[execOp,ho,Instr.buildSlice,run_underlying h2,bR g1,Array.range_zero',q2',newRow]
  ·rw[RV]
   exact⟨w.heap.size,0,u3,rfl,K6 _,cs,ti.elem,(0,0),by show (w.heap.push _)[w.heap.size]?=_;simp,by omega⟩
 ·refine ⟨.slice (some ⟨w.heap.size,0,none⟩) len len,_,m',.inl ?_,?_,u1,u2,u4⟩
  ·rw[g4] at q2
   have hf:Instr.fill (fun i=>some (i*i2.size,i2.size)) ((Array.range (len*i2.size)).map (z2.cells[· % z2.cells.size]!)) (parts.map fun (i,x)=>(i,a.eval x)).toList=some cs:=by
    rw[hzl] at q2 ⊢
    simpa using q2
   have hpos:¬len*i2.size=0:=by
    rw[←g4]
    exact Nat.ne_of_gt (Nat.mul_pos (by omega) (by omega))
   have:=run_buildSlice (P:=P) w t ti.elem len (parts.map fun (i,x)=>(i,a.eval x)) cs i2 z2 h2 g1 g3 (by rw[←g4];omega) hpos hf
   simp[execOp,ho,this]
  ·rw[RV]
   exact⟨w.heap.size,len,u3,rfl,K6 _,cs,ti.elem,(0,0),by show (w.heap.push _)[w.heap.size]?=_;simp,by omega⟩
end
end Go.Sx
namespace Go.Sx
open LimbNum
variable [Unk] [Glob]
section
variable {P : Program} {E : Env} {ρ : Operand → AV} {st : Hp} {o : Oper} {β : Type} {k : AV → Hp → Option β} {r : β}
theorem tw {t:TypeId} {x y:Operand} {ti te:TyI} {l c:Int} (ho:o.op=.makeSlice t x y) (ht:TyOK P t ti) (hk:ti.kind=.slice) (hte:TyOK P ti.elem te)
  (hx:ρ x=.int .i64 l) (hy:ρ y=.int .i64 c) (hc:0≤l∧l≤c∧c≤65536∧te.bytes≤65536∧te.size≠0∧te.zero.length=te.size∧te.zero.all AV.cell=true)
  (h:(nk st (jX te.zero l.toNat) fun _ st'=>k (.sl st.nx 0 l.toNat te.size) st')=some r) :
  ∃ av st',k av st'=some r∧gP P ρ st o av st':=by
 obtain⟨i,d,z,h1,h2,h3,h4,h5,h6,h7,h8,h9,h10,_⟩:=ht.ex
 obtain⟨i2,d2,z2,g1,g2,g3,g4,g5,g6,_⟩:=hte.ex
 obtain rfl:=h10 hk
 obtain⟨c1,c2,c3,c4,c5,c6,c7⟩:=hc
 obtain⟨st',s1,s2,s3,s4,s5,s6⟩:=fz h
 refine ⟨_,st',s1,cq (dV s4 s5 s6) fun a m w hO hs hf=>?_⟩
 have hzl:z2.cells.size=te.size:=by rw[←c6,g6];simp
 have hzp:0<te.zero.length:=by omega
 have hrow:=qy (m:=m) (w:=w) g6 hzp c.toNat
 have hsize:((Array.range (c.toNat*z2.cells.size)).map (z2.cells[· % z2.cells.size]!)).size=c.toNat*z2.cells.size:=by simp
 have hnou:NoU ((Array.range (c.toNat*z2.cells.size)).map (z2.cells[· % z2.cells.size]!)):=by
  intro j n hj
  have hjl:j<c.toNat*z2.cells.size:=by
   have:=(Array.getElem?_eq_some_iff.1 hj).1
   simpa using this
  rw[lT _ (by omega) _ _ hjl] at hj
  exact pZ (m:=m) (w:=w) (by rw[←g6];exact c7) _ (by rw[Array.mem_toList_iff];exact Array.mem_of_getElem? hj) n rfl
 obtain⟨q1,q2⟩:=hs.new (hf st.nx (K6 _) (by omega)) (jv s2) s3 s4 ((Array.range (c.toNat*z2.cells.size)).map (z2.cells[· % z2.cells.size]!)) ti.elem (by
   rw[fc,hsize,c6,hzl]
   exact Nat.mul_le_mul_right _ (by omega)) (fun j av hj=>by
   have hjl:j<l.toNat*te.zero.length:=by
    rw[←fc]
    rcases Nat.lt_or_ge j (jX te.zero l.toNat).length with h|h
    ·exact h
    ·rw[List.getElem?_eq_none h] at hj;cases hj
   have hjc:j<c.toNat*te.zero.length:=Nat.lt_of_lt_of_le hjl (Nat.mul_le_mul_right _ (by omega))
   rw[lZ _ hzp _ _ hjl,←lZ te.zero hzp c.toNat j hjc] at hj
   obtain⟨v,e1,e2⟩:=hrow.get hj
   exact⟨v,by rw[←Array.getElem?_toList];exact e1,e2⟩) hnou
 refine ⟨.slice (some ⟨w.heap.size,0,none⟩) l.toNat c.toNat,_,_,.inl ?_,?_,q1,q2,fun b hb=>if_neg (by omega)⟩
 ·have hb:(i2.bytes:Int)*c≤281474976710656:=by
   have e1:(i2.bytes:Int)≤65536:=by omega
   have:(i2.bytes:Int)*c≤65536*65536:=Int.mul_le_mul e1 c3 (by omega) (by omega)
   omega
  have hr:=run_make (P:=P) w t ti.elem i2 z2 h2 g1 g3 .i64 .i64 l c c1 c2 hb (by omega)
  rw[←g4,←hzl] at hr
  simp[execOp,ho,dD (hO x (by simp[ho,Op.operands])) hx,dD (hO y (by simp[ho,Op.operands])) hy,hr,madeCells]
 ·rw[RV]
  exact⟨w.heap.size,c.toNat,by simp,rfl,by omega,_,ti.elem,(0,0),by show (w.heap.push _)[w.heap.size]?=_;simp;rfl,by rw[hsize,hzl];omega⟩
theorem CP {m:Nm} {w:World} {x:AV} {v:Value} {esz n:Nat} {cs:List AV} (hi:RS m w st.h.get) (hv:RV m w x v) (h:gj st x esz=some (n,cs)) (hn:n≠0) :
  ∃ ad c vs,v=.slice (some ad) n c∧RVs m w cs vs∧vs.length=n*esz∧∀ j u,vs[j]?=some u→w.cell? (ad.add j)=some u:=by
 unfold gj at h
 split at h
 ·simp only[K5,Prod.mk.injEq] at h;exact absurd h.1.symm hn
 ·rename_i b off n' e
  split at h
  ·rename_i cells hb
   split at h
   ·rename_i hc
    simp only[K5,Prod.mk.injEq] at h
    obtain⟨rfl,rfl⟩:=h
    rw[RV] at hv
    obtain⟨rb,cap,hm,rfl,_⟩:=hv
    obtain⟨c,e',q2,q3,q4,_⟩:=hi.blk b cells rb (bT hb).1 (bT hb).2 hm
    refine ⟨_,cap,(c.toList.drop off).take (n'*esz),rfl,RVs.eH (by simp;omega) fun i av ha=>?_,by simp;omega,fun j u hu=>?_⟩
    ·rw[List.getElem?_take] at ha ⊢
     split at ha
     ·rw[if_pos ‹_›]
      rw[List.getElem?_drop] at ha ⊢
      rw[Array.getElem?_toList]
      exact q4 _ _ ha
     ·cases ha
    ·rw[cR]
     unfold World.cell?
     rw[q2]
     rw[List.getElem?_take] at hu
     split at hu
     ·rw[List.getElem?_drop,Array.getElem?_toList] at hu
      simpa using hu
     ·cases hu
   ·cases h
  ·cases h
 ·cases h
theorem JG {m:Nm} {w:World} {cs:List AV} {vs:List Value} (h:RVs m w cs vs) (hc:cs.all AV.cell=true):∀ u∈vs,u.oneCell'=true:=by
 intro u hu
 obtain⟨i,hil,he⟩:=List.getElem_of_mem hu
 have hl:=h.length
 obtain⟨v',e1,e2⟩:=h.get (List.getElem?_eq_getElem (show i<cs.length by omega))
 rw[List.getElem?_eq_getElem hil] at e1
 cases e1
 rw[he] at e2
 have:=(AV.jH (List.all_eq_true.1 hc _ (List.getElem_mem _)) e2)
 cases u<;>first|rfl|exact absurd rfl (this.2.1 _)|exact absurd rfl (this.2.2 _)
theorem xF {m:Nm} {w:World} {cs:List AV} {vs:List Value} (h:RVs m w cs vs) (hc:cs.all AV.cell=true):∀ u∈vs,∀ n,u≠.int .u64 n:=by
 intro u hu n
 obtain⟨i,hil,he⟩:=List.getElem_of_mem hu
 have hl:=h.length
 obtain⟨v',e1,e2⟩:=h.get (List.getElem?_eq_getElem (show i<cs.length by omega))
 rw[List.getElem?_eq_getElem hil] at e1
 cases e1
 rw[he] at e2
 exact (AV.jH (List.all_eq_true.1 hc _ (List.getElem_mem _)) e2).1 n
theorem pC {m:Nm} {w:World} {e:TypeId} {te:TyI} {z:Value} {cs:List AV} {vs:List Value} {n cap:Nat} {st1 st':Hp} (hs:RS m w st.h.get) (hf:dA m st.nx st'.nx) (hsub:∀ b c,st1.h.get b=some c→st.h.get b=some c) (hnx:st1.nx=st.nx)
  (hz:te.zero=z.cells.toList.map ja) (hzs:te.zero.length=te.size) (hzc:te.zero.all AV.cell=true) (hv:RVs m w cs vs) (hc:∀ u∈vs,∀ n,u≠.int .u64 n) (hl:vs.length=n*te.size) (hcap:n≤cap)
  (hM:isM cs=false) (s3:st'.h.get st1.nx=some cs) (s4:∀ i,i≠st1.nx→st'.h.get i=st1.h.get i) (s5:st'.nx=st1.nx+1) (c:Array Value) (hcv:c=vs.toArray++Builtin.zeroCells z.cells (cap-n)) :
  ∃ m',RV m' (w.drew.alloc (.cells c e)) (.sl st1.nx 0 n te.size) (.slice (some ⟨w.heap.size,0,none⟩) n cap)∧RS m' (w.drew.alloc (.cells c e)) st'.h.get∧To m st.h.get w m' st'.h.get (w.drew.alloc (.cells c e))∧dp m m' st.nx st'.nx:=by
 obtain⟨a1,a2⟩:=hs.sub hsub
 obtain⟨b1,b2⟩:=a1.heap (w':=w.drew) rfl ⟨rfl,rfl,rfl⟩
 have hv':=b2.rvs hv
 have hzl:z.cells.size=te.size:=by rw[←hzs,hz];simp
 have hsz:c.size=cap*te.size:=by
  rw[hcv,Array.size_append,size_zeroCells,hzl]
  simp only[List.size_toArray,hl]
  rw[←Nat.add_mul]
  congr 1
  omega
 obtain⟨c1,c2⟩:=b1.new (nx:=st1.nx) (hf _ (by omega) (by omega)) hM s3 s4 c e (by rw[hv.length,hl,hsz];exact Nat.mul_le_mul_right _ hcap) (fun i av ha=>by
   obtain⟨v,e1,e2⟩:=hv'.get ha
   refine ⟨v,?_,e2⟩
   have hil:i<vs.length:=(List.getElem?_eq_some_iff.1 e1).1
   rw[hcv,Array.getElem?_append_left (by simpa using hil)]
   simpa using e1) (by
   intro j x hj
   rw[hcv,Array.getElem?_append] at hj
   split at hj
   ·exact hc _ (List.mem_of_getElem? (by simpa using hj)) x rfl
   ·rename_i hjl
    unfold Builtin.zeroCells at hj
    have hjs:=(Array.getElem?_eq_some_iff.1 hj).1
    simp only[Array.size_map,Array.size_range] at hjs
    have hzp:0<z.cells.size:=by
     rcases Nat.eq_zero_or_pos z.cells.size with h0|h0
     ·rw[h0] at hjs;simp at hjs
     ·exact h0
    rw[lT _ hzp _ _ hjs] at hj
    exact pZ (m:=m) (w:=w) (by rw[←hz];exact hzc) _ (by rw[Array.mem_toList_iff];exact Array.mem_of_getElem? hj) x rfl)
 refine ⟨_,?_,c1,(a2.comp b2).comp c2,fun b hb=>if_neg (by omega)⟩
 rw[RV]
 exact⟨w.heap.size,cap,by simp,rfl,hcap,c,e,(0,0),by show (w.heap.push _)[w.heap.size]?=_;simp,by rw[hsz];omega⟩
end
end Go.Sx
