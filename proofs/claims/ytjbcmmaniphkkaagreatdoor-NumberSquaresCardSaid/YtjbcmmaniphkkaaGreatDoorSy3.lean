import Derived.Test.YtjbcmmaniphkkaaGreatDoorSy2
import Derived.Test.YtjbcmmaniphkkaaGreatDoorPrS
import Derived.Test.YtjbcmmaniphkkaaGreatDoorSeat
import Derived.Test.YtjbcmmaniphkkaaGreatDoorSe
import Derived.Test.YtjbcmmaniphkkaaGreatDoorRn
set_option linter.unusedSectionVars false
set_option linter.unusedVariables false
set_option linter.unusedSimpArgs false
set_option maxRecDepth 100000
set_option maxHeartbeats 1000000
namespace Go.Proofs.YtjbcmmaniphkkaaGreatDoor
open Go.RowKit LimbNum
open Go.Sx (jf KVs)
theorem Di {ik:IntKind} {ns:List Int} {vs:List Value} (h:KVs (ns.map (Go.Sx.AV.int ik)) vs):vs=ns.map (Value.int ik):=by
 unfold KVs at h
 rw[List.map_map,show (Go.Sx.kv ∘ Go.Sx.AV.int ik)=(some ∘ Value.int ik) from rfl,←List.map_map] at h
 exact ((List.map_inj_right (fun _ _=>Option.some.inj)).1 h).symm
theorem Iu {m:Go.Sx.Nm} {w:World} {h:Go.Sx.Hf} (hg:jf m w h):E.TB w:=by
 intro w' hk
 have hgt:Go.Sx.Glob.gt.get 4=some (Lib.pow10Tab.map (Go.Sx.AV.int .u64)):=by kernel_rfl
 obtain⟨⟨c,e,h1,h2⟩,_⟩:=hg 4 _ hgt
 have h1':w'.heap[4]?=some (.cells c e (0,0)):=by rw[hk.block 4 (Array.getElem?_eq_some_iff.1 h1).1];exact h1
 have hn : Tryz.prog.globalNamed "internal/strconv.uint64pow10" = some 4 := by kernel_rfl
 unfold Lib.TabIs World.var?
 rw[hn]
 simp only[Option.bind_some,h1']
 congr 1
 have:=Di h2
 rw[←this]
end Go.Proofs.YtjbcmmaniphkkaaGreatDoor
namespace Go.Sx
open LimbNum DigNum Go.RowKit
def Fb (f:FuncId) (h:AH) (a:List AV):List (Nat × Prm)→Option AV
 | []=>none
 |(g,p)::l=>match Nat.beq f g with
  | true=>match p h a with
   | some r=>some r
   | none=>Fb f h a l
  | false=>Fb f h a l
def Ff (E:Env) (l:List (Nat × Prm)):Env:={ E with prim:=fun f h a=>match Fb f h a l with
 | some r=>some r
 | none=>E.prim f h a }
theorem qQ {f:FuncId} {h:AH} {a:List AV} {r:AV}:∀ (l:List (Nat × Prm)),Fb f h a l=some r→∃ g,(f,g)∈l∧g h a=some r
 | [],h=>by cases h
 |(k,p)::l,hg=>by
  rw[Fb] at hg
  split at hg
  ·rename_i he
   have e1:=Nat.eq_of_beq_eq_true he
   subst e1
   split at hg
   ·rename_i r' hr
    cases hg
    exact⟨p,List.mem_cons_self,hr⟩
   ·obtain⟨g,h1,h2⟩:=qQ l hg
    exact⟨g,List.mem_cons_of_mem _ h1,h2⟩
  ·obtain⟨g,h1,h2⟩:=qQ l hg
   exact⟨g,List.mem_cons_of_mem _ h1,h2⟩
theorem qU [Unk] [Glob] {P:Program} {E:Env} {l:List (Nat × Prm)} (hpr:fG P E) (hl:∀ x∈l,ay P x.1 x.2):fG P (Ff E l):=by
 refine ⟨hpr.1,fun f h args av hp m w vals hv hs=>?_⟩
 simp only[Ff] at hp
 split at hp
 ·rename_i r hr
  cases hp
  obtain⟨g,h1,h2⟩:=qQ _ hr
  exact hl _ h1 h args _ h2 m w vals hv hs
 ·exact hpr.2 f h args _ hp m w vals hv hs
end Go.Sx
namespace Go.Sx.Seat
open Go Go.Sx Go.Proofs Go.RowKit LimbNum DigNum
open Go.Proofs.YtjbcmmaniphkkaaGreatDoor (Whole)
theorem kH {w:World} {v:Value} {x:Rat} (h:ExG w v x):Go.Proofs.YtjbcmmaniphkkaaGreatDoor.E.Ex w v x:=by
 obtain⟨a,b,c,d,rfl,h0,h1,h2,h3⟩:=h
 subst h0
 subst h2
 obtain⟨a1,c1,rfl,q1⟩:=h1
 have hz:∀ n:Nat,Value.bool false=Value.bool (decide ((n:Int)<0)):=fun n=>by rw[decide_eq_false (by omega)]
 rcases h3 with h3|⟨h3,h4⟩
 ·obtain⟨a2,c2,rfl,q2⟩:=h3
  exact⟨_,_,_,_,_,_,_,_,rfl,⟨_,rfl,_,_,rfl,q1⟩,.inl ⟨_,by rw[←hz];rfl,_,_,rfl,q2⟩⟩
 ·obtain⟨a2,c2,rfl,q2⟩:=h4
  exact⟨_,_,_,_,_,_,_,_,rfl,⟨_,rfl,_,_,rfl,q1⟩,.inr ⟨h3,⟨_,rfl,_,_,rfl,q2⟩⟩⟩
theorem sW {w:World} {v:Value} {x:Rat} (h:Go.Proofs.YtjbcmmaniphkkaaGreatDoor.E.Ex w v x):ExG w v x:=by
 obtain⟨s1,a1,n1,c1,s2,a2,n2,c2,rfl,h1,h2⟩:=h
 obtain⟨l1,e1,q1⟩:=h1
 simp only[Value.agg.injEq,Array.mk.injEq,List.cons.injEq,and_true] at e1
 obtain⟨e1,rfl⟩:=e1
 refine ⟨_,_,_,_,rfl,e1,q1,?_,?_⟩
 ·show Value.bool s2=Value.bool false
  rcases h2 with ⟨l2,e2,_⟩|⟨_,l2,e2,_⟩<;>simp only[Value.agg.injEq,Array.mk.injEq,List.cons.injEq,and_true] at e2
  ·rw[e2.1,decide_eq_false (by omega)]
  ·rw[e2.1];rfl
 ·rcases h2 with ⟨l2,e2,q2⟩|⟨h3,l2,e2,q2⟩<;>simp only[Value.agg.injEq,Array.mk.injEq,List.cons.injEq,and_true] at e2
  ·obtain⟨_,rfl⟩:=e2
   exact .inl q2
  ·obtain⟨_,rfl⟩:=e2
   exact .inr ⟨h3,q2⟩
theorem KX [Unk] {m:Nm} {w:World} {h:Hf} (hs:RS m w h):Go.Proofs.YtjbcmmaniphkkaaGreatDoor.E.TB w:=Go.Proofs.YtjbcmmaniphkkaaGreatDoor.Iu hs.glob
section
variable [Unk] {ρ : Nat → Rat} {σ : Nat → ByteArray} {T : PT}
theorem Ij (hT:Sem ρ σ T):ay Tryz.prog 75 (Kw T):=JH hT fun u v p q k l w h1 h2 b1 b2 hk hl=>by
 refine (Go.Proofs.YtjbcmmaniphkkaaGreatDoor.E.BP u v _ _ k l w (kH h1) (kH h2) b1 b2 (by omega) (by omega)).mono ?_
 rintro e w' ⟨v',rfl,g1,g2⟩
 exact⟨v',rfl,sW g1,g2⟩
theorem Ii (hT:Sem ρ σ T):ay Tryz.prog 76 (Jg T):=FV hT fun u v x y k l w h1 h2 b1 b2 hk hl=>by
 refine (Go.Proofs.YtjbcmmaniphkkaaGreatDoor.E.BK u v _ _ k l w (kH h1) (kH h2) b1 b2 (by omega) (by omega)).mono ?_
 rintro e w' ⟨rfl,g2⟩
 exact⟨rfl,g2⟩
theorem EO (hT:Sem ρ σ T):ay Tryz.prog 68 (CM T):=CN hT fun u x k w h1 b1 hk=>Go.Proofs.YtjbcmmaniphkkaaGreatDoor.E.zO u _ k w (kH h1) b1 (by omega)
theorem Il (hT:Sem ρ σ T):ay Tryz.prog 121 (FX T):=FY hT fun u x k w h1 b1 hk hs=>by
 obtain⟨m,h,hs⟩:=hs
 exact Go.Proofs.YtjbcmmaniphkkaaGreatDoor.E.BY u _ k w (kH h1) b1 (by omega) (KX hs)
theorem Bv (hT:Sem ρ σ T):ay Tryz.prog 67 (sU T):=An hT fun s w hs=>by
 refine (Go.Proofs.YtjbcmmaniphkkaaGreatDoor.E.ua s w hs).mono ?_
 rintro e w' ⟨v,rfl,⟨_,g2⟩,g4,g3⟩
 exact⟨v,rfl,⟨fun h=>sW (g4 h),fun x h1 h2=>sW (g2 x h1 h2)⟩,g3⟩
theorem Iq (hT:Sem ρ σ T):ay Tryz.prog 49 (Lb T):=DV hT fun s t p q k l w h1 h2 b1 b2 hk hl=>by
 refine (Go.Proofs.YtjbcmmaniphkkaaGreatDoor.D.uc s t _ _ k l w h1 h2 b1 b2 (by omega) (by omega)).mono ?_
 rintro e w' ⟨u,rfl,g1,g2⟩
 exact⟨u,rfl,g1,g2⟩
theorem Ip (hT:Sem ρ σ T):ay Tryz.prog 44 (La T):=DV hT fun s t p q k l w h1 h2 b1 b2 hk hl=>by
 refine (Go.Proofs.YtjbcmmaniphkkaaGreatDoor.D.BQ s t _ _ k l w h1 h2 b1 b2 (by omega) (by omega)).mono ?_
 rintro e w' ⟨u,rfl,g1,g2⟩
 exact⟨u,rfl,by rw[Dx];exact g1,g2⟩
theorem Io (hT:Sem ρ σ T):ay Tryz.prog 48 (JY T):=GY hT fun s t x y k l w h1 h2 b1 b2 hk hl=>Go.Proofs.YtjbcmmaniphkkaaGreatDoor.D.BL s t _ _ k l w h1 h2 b1 b2 (by omega) (by omega)
theorem EP (hT:Sem ρ σ T):ay Tryz.prog 12 (Ev T):=Ew hT fun s x k w h1 b1 hk=>by
 refine (Go.Proofs.YtjbcmmaniphkkaaGreatDoor.D.bZ s _ w h1).mono ?_
 rintro e w' ⟨rfl,rfl⟩
 exact⟨rfl,Below.refl _ _⟩
theorem Bw (hT:Sem ρ σ T):ay Tryz.prog 9 (tN T):=Bj hT fun s w hs=>Go.Proofs.YtjbcmmaniphkkaaGreatDoor.D.mz s w hs
def sy (T:PT):List (Nat × Prm):=[(75,Kw T),(76,Jg T),(68,CM T),(121,FX T),(67,sU T),(49,Lb T),(44,La T),(48,JY T),(12,Ev T),(9,tN T)]
theorem ye (hT:Sem ρ σ T):∀ x∈sy T,ay Tryz.prog x.1 x.2:=by
 unfold sy
 simp only[List.forall_mem_cons]
 exact⟨Ij hT,Ii hT,EO hT,Il hT,Bv hT,Iq hT,Ip hT,Io hT,EP hT,Bw hT,fun x h=>by cases h⟩
end
theorem mixed:Tryz.prog.follows .mixedOrders=true:=by kernel_rfl
theorem dB:∀ t ti,E.ty.get t=some ti→TyOK Tryz.prog t ti:=@Iz vA _ _ _ Km
theorem dh:tZ Tryz.prog E ff:=@Gg vA _ _ _ (@Jm vA)
theorem mG {f:FuncId} (hb:(fnT.get f).isSome=true) {fn:Func} (h:Tryz.prog.funcs[f]?=some fn):fn.body.isNone=false:=by
 cases hg:fnT.get f with
 | none=>rw[hg] at hb;cases hb
 | some x=>
  obtain⟨n,res,code⟩:=x
  obtain⟨fn',h1,h2,_⟩:=dh f n res code hg
  rw[h] at h1
  cases h1
  rw[h2];rfl
def og (l:PT→List (Nat × Prm)):Prop:=∀ (U:Unk) (ρ:Nat→Rat) (σ:Nat→ByteArray) (T:PT),@Sem U ρ σ T→∀ x∈l T,@ay U _ Tryz.prog x.1 x.2
theorem IT:og sy:=fun U ρ σ T hT=>@ye U ρ σ T hT
def wI (f:FuncId) (r:Rule) (l:PT→List (Nat × Prm)) (T:PT):List (Nat × Prm):=(f,Ea T r)::l T
theorem og.add {l:PT→List (Nat × Prm)} (h:og l) {f:FuncId} {r:Rule} (hr:iA Tryz.prog f r):og (wI f r l):=fun U ρ σ T hT x hx=>by
 rcases List.mem_cons.1 hx with rfl|hx
 ·exact GU hr hT
 ·exact h U ρ σ T hT x hx
noncomputable def ES (l:PT→List (Nat × Prm)) (T:PT):Env:=Ff E (l T)
theorem tok0 {ρ:Nat→Rat} {K:Nat} (h:∀ i,Bd (ρ i) K):TOK ρ (fun _=>⟨#[]⟩) (wu 0 K):=
 have hn:∀ {α:Type} {x:α} {R:Prop},x∈([]:List α)→R:=fun h=>absurd h List.not_mem_nil
 ⟨fun _ hx=>hn hx,fun _ hx=>hn hx,fun _ hx=>hn hx,fun _=>Nat.zero_le _,fun _ hx=>hn hx,fun _ hx=>hn hx,fun _ hx=>hn hx,fun _ hx=>hn hx,h⟩
theorem jQ {l:PT→List (Nat × Prm)} (hl:og l) {f:FuncId} {r:Rule} (hb:(fnT.get f).isSome=true) (ho:JL r.out=true) {L:List PT}
  (hc:∀ ρ,TOK ρ (fun _=>⟨#[]⟩) (wu 0 r.K)→(∀ c∈r.need,BR ρ c)→gO ρ (fun _=>⟨#[]⟩) L)
  (hrun:∀ ρ,(L.all fun T=>@ru (gZ ρ (fun _=>⟨#[]⟩) T) _ T (ES l T) 1000 60 f r.args r.out)=true):iA Tryz.prog f r:=
 ⟨ho,fun ρ hbd hn=>leaf (E:=ES l) (hc ρ (tok0 hbd) hn) mixed (fun _=>dB) (fun _=>dh) (fun U T hT=>@qU U _ _ _ _ (@bQ U) (hl U _ _ T hT)) (fun fn h=>mG hb h) (hrun ρ)⟩
end Go.Sx.Seat
namespace Go.Proofs.YtjbcmmaniphkkaaGreatDoor.D
open Go.RowKit DigNum
open Go.Sx (Few)
theorem Jk {s:ByteArray} {x:Rat} {d:Nat} (hd:1≤d) (h:aG s x):Few s d↔nd x.num.natAbs≤d∧nd x.den≤d:=by
 constructor
 ·rintro ⟨y,h1,h2⟩
  have:=h.eq h1
  subst this
  exact⟨(eo hd).2 h2.1,(eo hd).2 h2.2⟩
 ·rintro ⟨h1,h2⟩
  exact⟨x,h,(eo hd).1 h1,(eo hd).1 h2⟩
theorem CT {s:ByteArray} {d:Nat} (h:2*d+2<s.size):¬Few s d:=by
 rintro ⟨x,h1,h2⟩
 have:=E.Bn h1 h2
 omega
theorem Gb {s:ByteArray} {d:Nat} (hd:d≤600) (h:cX (chs s)≠0):¬Few s d:=by
 rintro ⟨x,h1,h2⟩
 exact h (E.Ey h1 (h2.mono hd))
theorem wF (s:ByteArray) (w:World) (hs:s.size≤9223372036854775807) (h:62<s.size) :
  Calls Tryz.prog 43 #[.string s,.int .i64 30] w fun e w'=>e=.returned (.bool false)∧Kept w w':=by
 have d1:¬((s.size:Int)≤62):=by omega
 have Hs:=K7 hs
 clear hs h
 go_enter Tryz.func43,Tryz.ntmps43
 go_wp2
 go_ret
 exact⟨rfl,Below.refl _ _⟩
theorem zK (s:ByteArray) (w:World) (h:s.size≤62) (hc:cX (chs s)≠0) :
  Calls Tryz.prog 43 #[.string s,.int .i64 30] w fun e w'=>e=.returned (.bool false)∧Kept w w':=by
 have hC:=K7 fun w'=>mz s w' (by omega)
 have d1:(s.size:Int)≤62:=by omega
 generalize cX (chs s)=c at *
 have d2:¬((c:Int)=0):=by omega
 clear h hc
 go_enter Tryz.func43,Tryz.ntmps43
 go_wp2_with fail
 refine (hC.out _).mono ?_
 rintro e w1 ⟨rfl,q0⟩
 go_wp2
 go_ret
 exact⟨rfl,q0⟩
theorem wE (s:ByteArray) (x:Rat) (w:World) (hm:s.size≤62) (h:aG s x) (hc:cX (chs s)=0) :
  Calls Tryz.prog 43 #[.string s,.int .i64 30] w fun e w'=>e=.returned (.bool (decide (nd x.num.natAbs≤30∧nd x.den≤30)))∧Kept w w':=by
 have hC:=K7 fun w'=>mz s w' (by omega)
 rw[hc] at hC
 have hN:=K7 fun w'=>Fo s x w' h (by omega)
 have hD:=K7 fun w'=>Fm s x w' h (by omega)
 have hA:=K7 fun t (ht:aN t x.num) w'=>oF t (x.num:Rat) w' (sv ht)
 have hz:=K7 fun t (ht:aG t (gR (x.num:Rat)))=>(show t.size=nd x.num.natAbs by
  rw[ht.size,bz,bw]
  have:=@rK (x.num:Rat)
  change (gR (x.num:Rat)).num=_∧(gR (x.num:Rat)).den=_ at this
  rw[this.1,this.2]
  rw[if_neg (by omega),if_pos (by simp)];simp)
 have hz2:=K7 fun t (ht:aN t (x.den:Int))=>(show t.size=nd x.den by
  rw[ht.size,bw];rw[if_neg (by omega)];simp)
 have g1:nd x.num.natAbs≤1099511627776:=by rw[h.size,bz,bw] at hm;omega
 have g2:nd x.den≤1099511627776:=by
  rw[h.size,bz] at hm
  by_cases hd:x.den=1
  ·rw[hd,jz (by decide)];omega
  ·rw[if_neg hd] at hm;omega
 generalize nd x.num.natAbs=a at *
 generalize nd x.den=b at *
 have d1:(s.size:Int)≤62:=by omega
 by_cases h1:a≤30
 ·have hl:∀ c:Nat,c=b→decide ((c:Int)≤30)=decide (a≤30∧b≤30):=fun c hc=>decide_eq_decide.2 (by omega)
  have Hl:=K7 hl
  clear h hl hm hc
  ·skip
   go_enter Tryz.func43,Tryz.ntmps43
   go_wp2_with fail
   refine (hC.out _).mono ?_
   rintro e w1 ⟨rfl,q0⟩
   go_wp2_with fail
   refine (hN.out _).mono ?_
   rintro e w2 ⟨t,rfl,ht,q,rfl⟩
   go_wp2_with fail
   refine (hA.out t ht _).mono ?_
   rintro e w2 ⟨t2,rfl,ht2,rfl⟩
   have hs2:=hz.out t2 ht2
   clear ht ht2 hz
   go_wp2_with fail
   refine (hD.out _).mono ?_
   rintro e w2 ⟨t3,rfl,ht3,q2,rfl⟩
   have hs3:=hz2.out t3 ht3
   clear ht3 hz2 hN hD hA
   go_wp2
   go_ret
   exact⟨congrArg (fun b=>Ending.returned (Value.bool b)) (Hl.out _ (by first|rfl|exact hs3)),ar q0 _⟩
 ·have hl:decide (a≤30∧b≤30)=false:=decide_eq_false fun h=>h1 h.1
  have Hl:=K7 hl
  clear h hl hm hc
  ·skip
   go_enter Tryz.func43,Tryz.ntmps43
   go_wp2_with fail
   refine (hC.out _).mono ?_
   rintro e w1 ⟨rfl,q0⟩
   go_wp2_with fail
   refine (hN.out _).mono ?_
   rintro e w2 ⟨t,rfl,ht,q,rfl⟩
   go_wp2_with fail
   refine (hA.out t ht _).mono ?_
   rintro e w2 ⟨t2,rfl,ht2,rfl⟩
   have hs2:=hz.out t2 ht2
   clear ht ht2 hz
   clear hz2 hN hD hA
   go_wp2
   go_ret
   first|exact⟨congrArg (fun b=>Ending.returned (Value.bool b)) Hl.out.symm,ar q0 _⟩|exact⟨rfl,ar q0 _⟩
open Classical in
theorem zJ (s:ByteArray) (w:World) (hs:s.size≤9223372036854775807) :
  Calls Tryz.prog 43 #[.string s,.int .i64 30] w fun e w'=>e=.returned (.bool (decide (Few s 30)))∧Kept w w':=by
 by_cases h:62<s.size
 ·rw[decide_eq_false (CT (d:=30) h)]
  exact wF s w hs h
 ·by_cases hc:cX (chs s)=0
  ·obtain⟨x,hx,_⟩:=ux hc
   have:=wE s x w (by omega) hx hc
   rwa [show decide (nd x.num.natAbs≤30∧nd x.den≤30)=decide (Few s 30) from decide_eq_decide.2 (Jk (by decide) hx).symm] at this
  ·rw[decide_eq_false (Gb (d:=30) (by decide) hc)]
   exact zK s w (by omega) hc
end Go.Proofs.YtjbcmmaniphkkaaGreatDoor.D
namespace Go.Sx.Seat
open Go Go.Sx Go.Proofs Go.RowKit LimbNum DigNum
open Go.Proofs.YtjbcmmaniphkkaaGreatDoor (Whole)
theorem rD {w:World} {v:Value} {n:Int} (h:WhG w v n):Whole w v n:=by
 obtain⟨a,b,rfl,h0,h1⟩:=h
 unfold fW at h0 h1
 simp only[Rat.num_intCast] at h0 h1
 subst h0
 obtain⟨a1,c1,rfl,q1⟩:=h1
 exact⟨_,rfl,_,_,rfl,q1⟩
theorem BD {w:World} {v:Value} {n:Int} (h:Whole w v n):WhG w v n:=by
 obtain⟨l,rfl,q⟩:=h
 exact⟨_,_,rfl,by show _=Value.bool (decide ((n:Rat).num<0));rw[Rat.num_intCast],by show Lim _ _ ((n:Rat).num).natAbs;rw[Rat.num_intCast];exact q⟩
theorem fi {x:Int} {k:Nat} (h:Bd (x:Rat) k):x.natAbs<10^k:=by
 have:=h.1
 rwa [Rat.num_intCast] at this
section
variable [Unk] {ρ : Nat → Rat} {σ : Nat → ByteArray} {T : PT}
theorem Is (hT:Sem ρ σ T):ay Tryz.prog 81 (Kp T):=IE hT fun u v x y k l w h1 h2 b1 b2 hk hl=>by
 have e1:=fi b1
 have e2:=fi b2
 refine (Go.Proofs.YtjbcmmaniphkkaaGreatDoor.dJ u v x y w (rD h1) (rD h2) (Nat.le_trans (Go.Proofs.YtjbcmmaniphkkaaGreatDoor.E.aX e1) (by omega)) (Nat.le_trans (Go.Proofs.YtjbcmmaniphkkaaGreatDoor.E.aX e2) (by omega)) (Nat.le_trans (Go.Proofs.YtjbcmmaniphkkaaGreatDoor.E.aX (DigNum.iI e1 e2)) (by omega))).mono ?_
 rintro e w' ⟨v',rfl,g1,g2⟩
 exact⟨v',rfl,BD g1,g2⟩
theorem Ir (hT:Sem ρ σ T):ay Tryz.prog 153 (Ko T):=ID hT fun u v x y k l w h1 h2 b1 b2 hk hl=>by
 refine (Go.Proofs.YtjbcmmaniphkkaaGreatDoor.jG u v x y w (rD h1) (rD h2) (Nat.le_trans (Go.Proofs.YtjbcmmaniphkkaaGreatDoor.E.aX (fi b1)) (by omega)) (Nat.le_trans (Go.Proofs.YtjbcmmaniphkkaaGreatDoor.E.aX (fi b2)) (by omega))).mono ?_
 rintro e w' ⟨v',rfl,g1,g2⟩
 exact⟨v',rfl,BD g1,g2⟩
theorem Bz (hT:Sem ρ σ T):ay Tryz.prog 82 (yj T):=BH hT fun u v x y k l w h1 h2 b1 b2 hk hl h0=>by
 refine (Go.Proofs.YtjbcmmaniphkkaaGreatDoor.rH u v x y w (rD h1) (rD h2) (Nat.le_trans (Go.Proofs.YtjbcmmaniphkkaaGreatDoor.E.aX (fi b1)) (by omega)) (Nat.le_trans (Go.Proofs.YtjbcmmaniphkkaaGreatDoor.E.aX (fi b2)) (by omega))).mono ?_
 rintro e w' ⟨v',rfl,g1,g2⟩
 exact⟨v',rfl,BD (by rw[←Int.fdiv_eq_ediv_of_nonneg x (Int.le_of_lt h0)];exact g1),g2⟩
theorem ER (hT:Sem ρ σ T):ay Tryz.prog 72 (Fh T):=Fi hT fun u x k w h1 b1 hk=>by
 have hs:=Nat.le_trans (Go.Proofs.YtjbcmmaniphkkaaGreatDoor.E.aX (fi b1)) (show k≤16777216 by omega)
 rcases Int.lt_or_le 0 x with h|h
 ·refine (Go.Proofs.YtjbcmmaniphkkaaGreatDoor.Ca u x w (rD h1) h hs).mono ?_
  rintro e w' ⟨v',rfl,⟨r,g1,g2,g3⟩,g4⟩
  have e1:x.natAbs=x.toNat:=by omega
  rw[e1] at g1 g2
  rw[Df g1 g2]
  exact⟨v',rfl,BD g3,g4⟩
 ·refine (Go.Proofs.YtjbcmmaniphkkaaGreatDoor.zN u x w (rD h1) h hs).mono ?_
  rintro e w' ⟨v',rfl,g3,g4⟩
  rw[show x.toNat=0 by omega]
  exact⟨v',rfl,BD g3,g4⟩
theorem Ik (hT:Sem ρ σ T):ay Tryz.prog 74 (eNew T):=FW hT fun u v x y k w h1 h2 b1 b2 hk h0=>by
 refine (Go.Proofs.YtjbcmmaniphkkaaGreatDoor.E.BT u v x y k w (rD h1) (rD h2) (fi b1) (fi b2) (by omega) (by omega)).mono ?_
 rintro e w' ⟨v',rfl,g1,g2⟩
 exact⟨v',rfl,sW (by rw[←Rat.divInt_eq_div];exact g1),g2⟩
theorem Bu (hT:Sem ρ σ T):ay Tryz.prog 73 (wZ T):=Am hT fun u x k w h1 b1 hk=>by
 refine (Go.Proofs.YtjbcmmaniphkkaaGreatDoor.E.fu u x k w (kH h1) b1 (by omega)).mono ?_
 rintro e w' ⟨v',rfl,g1,g2⟩
 exact⟨v',rfl,BD g1,g2⟩
theorem By (hT:Sem ρ σ T):ay Tryz.prog 119 (xU T):=Bl hT fun s x k w h1 b1 hk h0=>by
 refine (Go.Proofs.YtjbcmmaniphkkaaGreatDoor.D.pc s x k w h1 b1 (by omega) h0).mono ?_
 rintro e w' ⟨u,rfl,g1,g2⟩
 exact⟨u,rfl,g1,g2⟩
theorem Im (hT:Sem ρ σ T):ay Tryz.prog 46 (JX T):=GX hT fun s x k w h1 b1 hk=>by
 refine (Go.Proofs.YtjbcmmaniphkkaaGreatDoor.D.oF s x w h1).mono ?_
 rintro e w' ⟨u,rfl,g1,rfl⟩
 refine ⟨u,rfl,fun y q1 q2=>?_,Below.refl _ _⟩
 have e1:(Go.Proofs.YtjbcmmaniphkkaaGreatDoor.D.gR x).num=(x.num.natAbs:Int)∧(Go.Proofs.YtjbcmmaniphkkaaGreatDoor.D.gR x).den=x.den:=by
  unfold Go.Proofs.YtjbcmmaniphkkaaGreatDoor.D.gR
  by_cases h:x.num<0
  ·rw[if_pos h];exact⟨by rw[Rat.neg_num];omega,Rat.neg_den x⟩
  ·rw[if_neg h];exact⟨by omega,rfl⟩
 rw[show y=Go.Proofs.YtjbcmmaniphkkaaGreatDoor.D.gR x from Rat.ext (q1.trans e1.1.symm) (q2.trans e1.2.symm)]
 exact g1
theorem Bx (hT:Sem ρ σ T):ay Tryz.prog 43 (GZ T 30):=Hi hT fun s w hs=>Go.Proofs.YtjbcmmaniphkkaaGreatDoor.D.zJ s w hs
end
def syW (T:PT):List (Nat × Prm):=(72,Fh T)::(81,Kp T)::(153,Ko T)::(82,yj T)::(74,eNew T)::(73,wZ T)::sy T
def syV (T:PT):List (Nat × Prm):=(119,xU T)::(46,JX T)::(43,GZ T 30)::sy T
theorem tU:og syW:=fun U ρ σ T hT x hx=>by
 unfold syW at hx
 simp only[List.mem_cons] at hx
 rcases hx with rfl|rfl|rfl|rfl|rfl|rfl|hx
 ·exact @ER U ρ σ T hT
 ·exact @Is U ρ σ T hT
 ·exact @Ir U ρ σ T hT
 ·exact @Bz U ρ σ T hT
 ·exact @Ik U ρ σ T hT
 ·exact @Bu U ρ σ T hT
 ·exact @ye U ρ σ T hT x hx
theorem EN:og syV:=fun U ρ σ T hT x hx=>by
 unfold syV at hx
 simp only[List.mem_cons] at hx
 rcases hx with rfl|rfl|rfl|hx
 ·exact @By U ρ σ T hT
 ·exact @Im U ρ σ T hT
 ·exact @Bx U ρ σ T hT
 ·exact @ye U ρ σ T hT x hx
end Go.Sx.Seat
