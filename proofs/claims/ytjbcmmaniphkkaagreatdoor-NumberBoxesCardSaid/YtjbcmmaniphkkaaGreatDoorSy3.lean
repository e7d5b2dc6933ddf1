import Derived.Test.YtjbcmmaniphkkaaGreatDoorSy2
import Derived.Test.YtjbcmmaniphkkaaGreatDoorPrS
import Derived.Test.YtjbcmmaniphkkaaGreatDoorSeat
import Derived.Test.YtjbcmmaniphkkaaGreatDoorSe
import Derived.Test.YtjbcmmaniphkkaaGreatDoorRn
set_option linter.unusedSectionVars false
set_option linter.unusedVariables false
set_option linter.unusedSimpArgs false
namespace Go.Proofs.YtjbcmmaniphkkaaGreatDoor
open Go.RowKit LimbNum
open Go.Sx (iZ KVs)
theorem Da {ik:IntKind} {ns:List Int} {vs:List Value} (h:KVs (ns.map (Go.Sx.AV.int ik)) vs):vs=ns.map (Value.int ik):=by
 unfold KVs at h
 rw[List.map_map,show (Go.Sx.kv ∘ Go.Sx.AV.int ik)=(some ∘ Value.int ik) from rfl,←List.map_map] at h
 exact ((List.map_inj_right (fun _ _=>Option.some.inj)).1 h).symm
theorem Hy {m:Go.Sx.Nm} {w:World} {h:Go.Sx.Hf} (hg:iZ m w h):E.TB w:=by
 intro w' hk
 have hgt:Go.Sx.Glob.gt.get 4=some (Lib.pow10Tab.map (Go.Sx.AV.int .u64)):=by kernel_rfl
 obtain⟨⟨c,e,h1,h2⟩,_⟩:=hg 4 _ hgt
 have h1':w'.heap[4]?=some (.cells c e (0,0)):=by rw[hk.block 4 (Array.getElem?_eq_some_iff.1 h1).1];exact h1
 have hn : Tryz.prog.globalNamed "internal/strconv.uint64pow10" = some 4 := by kernel_rfl
 unfold Lib.TabIs World.var?
 rw[hn]
 simp only[Option.bind_some,h1']
 congr 1
 have:=Da h2
 rw[←this]
end Go.Proofs.YtjbcmmaniphkkaaGreatDoor
namespace Go.Sx
open LimbNum DigNum Go.RowKit
def EN (f:FuncId) (h:AH) (a:List AV):List (Nat × Prm)→Option AV
 | []=>none
 |(g,p)::l=>match Nat.beq f g with
  | true=>match p h a with
   | some r=>some r
   | none=>EN f h a l
  | false=>EN f h a l
def ER (E:Env) (l:List (Nat × Prm)):Env:={ E with prim:=fun f h a=>match EN f h a l with
 | some r=>some r
 | none=>E.prim f h a }
theorem qP {f:FuncId} {h:AH} {a:List AV} {r:AV}:∀ (l:List (Nat × Prm)),EN f h a l=some r→∃ g,(f,g)∈l∧g h a=some r
 | [],h=>by cases h
 |(k,p)::l,hg=>by
  rw[EN] at hg
  split at hg
  ·rename_i he
   have e1:=Nat.eq_of_beq_eq_true he
   subst e1
   split at hg
   ·rename_i r' hr
    cases hg
    exact⟨p,List.mem_cons_self,hr⟩
   ·obtain⟨g,h1,h2⟩:=qP l hg
    exact⟨g,List.mem_cons_of_mem _ h1,h2⟩
  ·obtain⟨g,h1,h2⟩:=qP l hg
   exact⟨g,List.mem_cons_of_mem _ h1,h2⟩
theorem ml [Unk] [Glob] {P:Program} {E:Env} {l:List (Nat × Prm)} (hpr:fF P E) (hl:∀ x∈l,au P x.1 x.2):fF P (ER E l):=by
 refine ⟨hpr.1,fun f h args av hp m w vals hv hs=>?_⟩
 simp only[ER] at hp
 split at hp
 ·rename_i r hr
  cases hp
  obtain⟨g,h1,h2⟩:=qP _ hr
  exact hl _ h1 h args _ h2 m w vals hv hs
 ·exact hpr.2 f h args _ hp m w vals hv hs
end Go.Sx
namespace Go.Sx.Seat
open Go Go.Sx Go.Proofs Go.RowKit LimbNum DigNum
open Go.Proofs.YtjbcmmaniphkkaaGreatDoor (Whole)
theorem dN {w:World} {v:Value} {x:Rat} (h:ExG w v x):Go.Proofs.YtjbcmmaniphkkaaGreatDoor.E.Ex w v x:=by
 obtain⟨a,b,c,d,rfl,h0,h1,h2,h3⟩:=h
 subst h0
 subst h2
 obtain⟨a1,c1,rfl,q1⟩:=h1
 have hz:∀ n:Nat,Value.bool false=Value.bool (decide ((n:Int)<0)):=fun n=>by rw[decide_eq_false (by omega)]
 rcases h3 with h3|⟨h3,h4⟩
 ·obtain⟨a2,c2,rfl,q2⟩:=h3
  exact⟨_,_,_,_,_,_,_,_,rfl,⟨_,rfl,_,_,rfl,q1⟩,.inl ⟨_,by rw[←hz];rfl,_,_,rfl,q2⟩⟩
 ·obtain⟨a2,c2,rfl,q2⟩:=h4
  exact⟨_,_,_,_,_,_,_,_,rfl,⟨_,rfl,_,_,rfl,q1⟩,.inr ⟨h3,⟨_,rfl,_,_,rfl,q2⟩⟩⟩
theorem jn {w:World} {v:Value} {x:Rat} (h:Go.Proofs.YtjbcmmaniphkkaaGreatDoor.E.Ex w v x):ExG w v x:=by
 obtain⟨s1,a1,n1,c1,s2,a2,n2,c2,rfl,h1,h2⟩:=h
 obtain⟨l1,e1,q1⟩:=h1
 simp only[Value.agg.injEq,Array.mk.injEq,List.cons.injEq,and_true] at e1
 obtain⟨e1,rfl⟩:=e1
 refine ⟨_,_,_,_,rfl,e1,q1,?_,?_⟩
 ·show Value.bool s2=Value.bool false
  rcases h2 with ⟨l2,e2,_⟩|⟨_,l2,e2,_⟩<;>simp only[Value.agg.injEq,Array.mk.injEq,List.cons.injEq,and_true] at e2
  ·rw[e2.1,decide_eq_false (by omega)]
  ·rw[e2.1];rfl
 ·rcases h2 with ⟨l2,e2,q2⟩|⟨h3,l2,e2,q2⟩<;>simp only[Value.agg.injEq,Array.mk.injEq,List.cons.injEq,and_true] at e2
  ·obtain⟨_,rfl⟩:=e2
   exact .inl q2
  ·obtain⟨_,rfl⟩:=e2
   exact .inr ⟨h3,q2⟩
theorem Kx [Unk] {m:Nm} {w:World} {h:Hf} (hs:RS m w h):Go.Proofs.YtjbcmmaniphkkaaGreatDoor.E.TB w:=Go.Proofs.YtjbcmmaniphkkaaGreatDoor.Hy hs.glob
section
variable [Unk] {ρ : Nat → Rat} {σ : Nat → ByteArray} {T : PT}
theorem GS (hT:Sem ρ σ T):au Tryz.prog 175 (Kc T):=xL hT fun u v p q k l w h1 h2 b1 b2 hk hl=>by
 refine (Go.Proofs.YtjbcmmaniphkkaaGreatDoor.E.tW u v _ _ k l w (dN h1) (dN h2) b1 b2 (by omega) (by omega)).mono ?_
 rintro e w' ⟨v',rfl,g1,g2⟩
 exact⟨v',rfl,jn g1,g2⟩
theorem GY (hT:Sem ρ σ T):au Tryz.prog 126 (Ke T):=xL hT fun u v p q k l w h1 h2 b1 b2 hk hl=>by
 refine (Go.Proofs.YtjbcmmaniphkkaaGreatDoor.E.BY u v _ _ k l w (dN h1) (dN h2) b1 b2 (by omega) (by omega)).mono ?_
 rintro e w' ⟨v',rfl,g1,g2⟩
 exact⟨v',rfl,jn g1,g2⟩
theorem GV (hT:Sem ρ σ T):au Tryz.prog 75 (Kd T):=xL hT fun u v p q k l w h1 h2 b1 b2 hk hl=>by
 refine (Go.Proofs.YtjbcmmaniphkkaaGreatDoor.E.BR u v _ _ k l w (dN h1) (dN h2) b1 b2 (by omega) (by omega)).mono ?_
 rintro e w' ⟨v',rfl,g1,g2⟩
 exact⟨v',rfl,jn g1,g2⟩
theorem GU (hT:Sem ρ σ T):au Tryz.prog 76 (II T):=FI hT fun u v x y k l w h1 h2 b1 b2 hk hl=>by
 refine (Go.Proofs.YtjbcmmaniphkkaaGreatDoor.E.BL u v _ _ k l w (dN h1) (dN h2) b1 b2 (by omega) (by omega)).mono ?_
 rintro e w' ⟨rfl,g2⟩
 exact⟨rfl,g2⟩
theorem GW (hT:Sem ρ σ T):au Tryz.prog 180 (IJ T):=FJ hT fun u x k w h1 b1 hk=>by
 refine (Go.Proofs.YtjbcmmaniphkkaaGreatDoor.E.ud u _ k w (dN h1) b1 (by omega)).mono ?_
 rintro e w' ⟨v',rfl,g1,g2⟩
 exact⟨v',rfl,jn g1,g2⟩
theorem EE (hT:Sem ρ σ T):au Tryz.prog 68 (CI T):=CJ hT fun u x k w h1 b1 hk=>Go.Proofs.YtjbcmmaniphkkaaGreatDoor.E.zQ u _ k w (dN h1) b1 (by omega)
theorem GX (hT:Sem ρ σ T):au Tryz.prog 121 (FK T):=FL hT fun u x k w h1 b1 hk hs=>by
 obtain⟨m,h,hs⟩:=hs
 exact Go.Proofs.YtjbcmmaniphkkaaGreatDoor.E.BW u _ k w (dN h1) b1 (by omega) (Kx hs)
theorem GR (hT:Sem ρ σ T):au Tryz.prog 227 (IH T):=FH hT fun u x k w h1 b1 hk=>by
 refine (Go.Proofs.YtjbcmmaniphkkaaGreatDoor.E.BJ u _ k w (dN h1) b1 (by omega)).mono ?_
 rintro e w' ⟨v',rfl,g1,g2⟩
 refine ⟨v',rfl,fun y h1 h2=>?_,g2⟩
 have:=Go.Proofs.YtjbcmmaniphkkaaGreatDoor.E.qo x
 rw[show y=Go.Proofs.YtjbcmmaniphkkaaGreatDoor.E.wJ x from Rat.ext (h1.trans this.1.symm) (h2.trans this.2.symm)]
 exact jn g1
theorem yk (hT:Sem ρ σ T):au Tryz.prog 174 (sS T):=xe hT fun u x k w h1 b1 hk=>by
 refine (Go.Proofs.YtjbcmmaniphkkaaGreatDoor.E.ug u _ k w (dN h1) b1 (by omega)).mono ?_
 rintro e w' ⟨v',rfl,g1,g2⟩
 exact⟨v',rfl,jn g1,g2⟩
theorem By (hT:Sem ρ σ T):au Tryz.prog 253 (xd T):=Ap hT fun u v x y k l w h1 h2 b1 b2 hk hl=>by
 refine (Go.Proofs.YtjbcmmaniphkkaaGreatDoor.wG u v _ _ k l w (dN h1) (dN h2) b1 b2 (by omega) (by omega)).mono ?_
 rintro e w' ⟨rfl,g2⟩
 exact⟨rfl,g2⟩
theorem Bz (hT:Sem ρ σ T):au Tryz.prog 67 (sR T):=Aq hT fun s w hs=>by
 refine (Go.Proofs.YtjbcmmaniphkkaaGreatDoor.E.ue s w hs).mono ?_
 rintro e w' ⟨v,rfl,⟨_,g2⟩,g4,g3⟩
 exact⟨v,rfl,⟨fun h=>jn (g4 h),fun x h1 h2=>jn (g2 x h1 h2)⟩,g3⟩
theorem GZ (hT:Sem ρ σ T):au Tryz.prog 94 (Ky T):=xN hT fun s t p q k l w h1 h2 b1 b2 hk hl=>by
 refine (Go.Proofs.YtjbcmmaniphkkaaGreatDoor.D.tY s t _ _ k l w h1 h2 b1 b2 (by omega) (by omega)).mono ?_
 rintro e w' ⟨u,rfl,g1,g2⟩
 exact⟨u,rfl,g1,g2⟩
theorem Hj (hT:Sem ρ σ T):au Tryz.prog 49 (KA T):=xN hT fun s t p q k l w h1 h2 b1 b2 hk hl=>by
 refine (Go.Proofs.YtjbcmmaniphkkaaGreatDoor.D.ui s t _ _ k l w h1 h2 b1 b2 (by omega) (by omega)).mono ?_
 rintro e w' ⟨u,rfl,g1,g2⟩
 exact⟨u,rfl,g1,g2⟩
theorem Hi (hT:Sem ρ σ T):au Tryz.prog 44 (Kz T):=xN hT fun s t p q k l w h1 h2 b1 b2 hk hl=>by
 refine (Go.Proofs.YtjbcmmaniphkkaaGreatDoor.D.BS s t _ _ k l w h1 h2 b1 b2 (by omega) (by omega)).mono ?_
 rintro e w' ⟨u,rfl,g1,g2⟩
 exact⟨u,rfl,g1,g2⟩
theorem Hc (hT:Sem ρ σ T):au Tryz.prog 48 (Jz T):=GG hT fun s t x y k l w h1 h2 b1 b2 hk hl=>Go.Proofs.YtjbcmmaniphkkaaGreatDoor.D.BM s t _ _ k l w h1 h2 b1 b2 (by omega) (by omega)
theorem EF (hT:Sem ρ σ T):au Tryz.prog 12 (Ek T):=El hT fun s x k w h1 b1 hk=>by
 refine (Go.Proofs.YtjbcmmaniphkkaaGreatDoor.D.cU s _ w h1).mono ?_
 rintro e w' ⟨rfl,rfl⟩
 exact⟨rfl,Below.refl _ _⟩
theorem BB (hT:Sem ρ σ T):au Tryz.prog 224 (yc T):=Bm hT fun s x k w h1 b1 hk=>Go.Proofs.YtjbcmmaniphkkaaGreatDoor.D.zP s _ w h1 (by have:=Go.Proofs.YtjbcmmaniphkkaaGreatDoor.E.Bq h1 b1;omega)
theorem BA (hT:Sem ρ σ T):au Tryz.prog 9 (tK T):=Bl hT fun s w hs=>Go.Proofs.YtjbcmmaniphkkaaGreatDoor.D.zI s w hs
def sy (T:PT):List (Nat × Prm):=[(175,Kc T),(126,Ke T),(75,Kd T),(76,II T),(180,IJ T),(68,CI T),(227,IH T),(174,sS T),(253,xd T),(121,FK T),(67,sR T),(94,Ky T),(49,KA T),(44,Kz T),(48,Jz T),(12,Ek T),(224,yc T),(9,tK T)]
theorem JK (hT:Sem ρ σ T):∀ x∈sy T,au Tryz.prog x.1 x.2:=by
 unfold sy
 simp only[List.forall_mem_cons]
 exact⟨GS hT,GY hT,GV hT,GU hT,GW hT,EE hT,GR hT,yk hT,By hT,GX hT,Bz hT,GZ hT,Hj hT,Hi hT,Hc hT,EF hT,BB hT,BA hT,fun x h=>by cases h⟩
end
theorem mixed:Tryz.prog.follows .mixedOrders=true:=by kernel_rfl
theorem dr:∀ t ti,E.ty.get t=some ti→TyOK Tryz.prog t ti:=@Ie zd _ _ _ JS
theorem dc:ua Tryz.prog E fl:=@FT zd _ _ _ (@IP zd)
theorem jC {f:FuncId} (hb:(fnT.get f).isSome=true) {fn:Func} (h:Tryz.prog.funcs[f]?=some fn):fn.body.isNone=false:=by
 cases hg:fnT.get f with
 | none=>rw[hg] at hb;cases hb
 | some x=>
  obtain⟨n,res,code⟩:=x
  obtain⟨fn',h1,h2,_⟩:=dc f n res code hg
  rw[h] at h1
  cases h1
  rw[h2];rfl
def ub (l:PT→List (Nat × Prm)):Prop:=∀ (U:Unk) (ρ:Nat→Rat) (σ:Nat→ByteArray) (T:PT),@Sem U ρ σ T→∀ x∈l T,@au U _ Tryz.prog x.1 x.2
theorem iU:ub sy:=fun U ρ σ T hT=>@JK U ρ σ T hT
def sK (f:FuncId) (r:Rule) (l:PT→List (Nat × Prm)) (T:PT):List (Nat × Prm):=(f,DT T r)::l T
theorem ub.add {l:PT→List (Nat × Prm)} (h:ub l) {f:FuncId} {r:Rule} (hr:fG Tryz.prog f r):ub (sK f r l):=fun U ρ σ T hT x hx=>by
 rcases List.mem_cons.1 hx with rfl|hx
 ·exact GC hr hT
 ·exact h U ρ σ T hT x hx
noncomputable def ES (l:PT→List (Nat × Prm)) (T:PT):Env:=ER E (l T)
theorem tok0 {ρ:Nat→Rat} {K:Nat} (h:∀ i,Bd (ρ i) K):TOK ρ (fun _=>⟨#[]⟩) (mg 0 K):=
 have hn:∀ {α:Type} {x:α} {R:Prop},x∈([]:List α)→R:=fun h=>absurd h List.not_mem_nil
 ⟨fun _ hx=>hn hx,fun _ hx=>hn hx,fun _ hx=>hn hx,fun _=>Nat.zero_le _,fun _ hx=>hn hx,fun _ hx=>hn hx,fun _ hx=>hn hx,fun _ hx=>hn hx,h⟩
theorem gB {l:PT→List (Nat × Prm)} (hl:ub l) {f:FuncId} {r:Rule} (hb:(fnT.get f).isSome=true) (ho:Jj r.out=true) {L:List PT}
  (hc:∀ ρ,TOK ρ (fun _=>⟨#[]⟩) (mg 0 r.K)→(∀ c∈r.need,uc ρ c)→cC ρ (fun _=>⟨#[]⟩) L)
  (hrun:∀ ρ,(L.all fun T=>@qp (gn ρ (fun _=>⟨#[]⟩) T) _ T (ES l T) 1000 60 f r.args r.out)=true):fG Tryz.prog f r:=
 ⟨ho,fun ρ hbd hn=>leaf (E:=ES l) (hc ρ (tok0 hbd) hn) mixed (fun _=>dr) (fun _=>dc) (fun U T hT=>@ml U _ _ _ _ (@bI U) (hl U _ _ T hT)) (fun fn h=>jC hb h) (hrun ρ)⟩
end Go.Sx.Seat
