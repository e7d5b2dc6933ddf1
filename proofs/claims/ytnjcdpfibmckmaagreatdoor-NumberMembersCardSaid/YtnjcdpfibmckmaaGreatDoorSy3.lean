import Derived.Test.YtnjcdpfibmckmaaGreatDoorSy2
import Derived.Test.YtnjcdpfibmckmaaGreatDoorPrS
import Derived.Test.YtnjcdpfibmckmaaGreatDoorSeat
import Derived.Test.YtnjcdpfibmckmaaGreatDoorSe
import Derived.Test.YtnjcdpfibmckmaaGreatDoorRn
set_option linter.unusedSectionVars false
set_option linter.unusedVariables false
set_option linter.unusedSimpArgs false
set_option maxRecDepth 100000
set_option maxHeartbeats 1000000
namespace Go.Proofs.YtnjcdpfibmckmaaGreatDoor.D
open Go.RowKit DigNum
open Go.Sx (Few)
theorem BX {s:ByteArray} {x:Rat} {d:Nat} (hd:1≤d) (h:aC s x):Few s d↔nd x.num.natAbs≤d∧nd x.den≤d:=by
 constructor
 ·rintro ⟨y,h1,h2⟩
  have:=h.eq h1
  subst this
  exact⟨(ew hd).2 h2.1,(ew hd).2 h2.2⟩
 ·rintro ⟨h1,h2⟩
  exact⟨x,h,(ew hd).1 h1,(ew hd).1 h2⟩
theorem uf {s:ByteArray} {d:Nat} (h:2*d+2<s.size):¬Few s d:=by
 rintro ⟨x,h1,h2⟩
 have:=E.mJ h1 h2
 omega
theorem xW {s:ByteArray} {d:Nat} (hd:d≤600) (h:cN (chs s)≠0):¬Few s d:=by
 rintro ⟨x,h1,h2⟩
 exact h (E.CZ h1 (h2.mono hd))
theorem zc (s:ByteArray) (w:World) (hs:s.size≤9223372036854775807) (h:12<s.size) :
  Calls Tryz.prog 72 #[.string s,.int .i64 5] w fun e w'=>e=.returned (.bool false)∧Kept w w':=by
 have d1:¬((s.size:Int)≤12):=by omega
 have Hs:=K7 hs
 clear hs h
 go_enter Tryz.func72,Tryz.ntmps72
 go_wp2
 go_ret
 exact⟨rfl,Below.refl _ _⟩
theorem AQ (s:ByteArray) (w:World) (h:s.size≤12) (hc:cN (chs s)≠0) :
  Calls Tryz.prog 72 #[.string s,.int .i64 5] w fun e w'=>e=.returned (.bool false)∧Kept w w':=by
 have hC:=K7 fun w'=>gM s w' (by omega)
 have d1:(s.size:Int)≤12:=by omega
 generalize cN (chs s)=c at *
 have d2:¬((c:Int)=0):=by omega
 clear h hc
 go_enter Tryz.func72,Tryz.ntmps72
 go_wp2_with fail
 refine (hC.out _).mono ?_
 rintro e w1 ⟨rfl,q0⟩
 go_wp2
 go_ret
 exact⟨rfl,q0⟩
theorem zb (s:ByteArray) (x:Rat) (w:World) (hm:s.size≤12) (h:aC s x) (hc:cN (chs s)=0) :
  Calls Tryz.prog 72 #[.string s,.int .i64 5] w fun e w'=>e=.returned (.bool (decide (nd x.num.natAbs≤5∧nd x.den≤5)))∧Kept w w':=by
 have hC:=K7 fun w'=>gM s w' (by omega)
 rw[hc] at hC
 have hN:=K7 fun w'=>se s x w' h (by omega)
 have hD:=K7 fun w'=>sc s x w' h (by omega)
 have hA:=K7 fun t (ht:aH t x.num) w'=>kI t (x.num:Rat) w' (jG ht)
 have hz:=K7 fun t (ht:aC t (fX (x.num:Rat)))=>(show t.size=nd x.num.natAbs by
  rw[ht.size,aT,aS]
  have:=@jt (x.num:Rat)
  change (fX (x.num:Rat)).num=_∧(fX (x.num:Rat)).den=_ at this
  rw[this.1,this.2]
  rw[if_neg (by omega),if_pos (by simp)];simp)
 have hz2:=K7 fun t (ht:aH t (x.den:Int))=>(show t.size=nd x.den by
  rw[ht.size,aS];rw[if_neg (by omega)];simp)
 have g1:nd x.num.natAbs≤1099511627776:=by rw[h.size,aT,aS] at hm;omega
 have g2:nd x.den≤1099511627776:=by
  rw[h.size,aT] at hm
  by_cases hd:x.den=1
  ·rw[hd,dD (by decide)];omega
  ·rw[if_neg hd] at hm;omega
 generalize nd x.num.natAbs=a at *
 generalize nd x.den=b at *
 have d1:(s.size:Int)≤12:=by omega
 by_cases h1:a≤5
 ·have hl:∀ c:Nat,c=b→decide ((c:Int)≤5)=decide (a≤5∧b≤5):=fun c hc=>decide_eq_decide.2 (by omega)
  have Hl:=K7 hl
  clear h hl hm hc
  ·skip
   go_enter Tryz.func72,Tryz.ntmps72
   go_wp2_with fail
   refine (hC.out _).mono ?_
   rintro e w1 ⟨rfl,q0⟩
   go_wp2_with fail
   refine (hN.out _).mono ?_
   rintro e w2 ⟨t,rfl,ht,q,rfl⟩
   go_wp2_with fail
   refine (hA.out t ht _).mono ?_
   rintro e w2 ⟨t2,rfl,ht2,rfl⟩
   have hs2:=hz.out t2 ht2
   clear ht ht2 hz
   go_wp2_with fail
   refine (hD.out _).mono ?_
   rintro e w2 ⟨t3,rfl,ht3,q2,rfl⟩
   have hs3:=hz2.out t3 ht3
   clear ht3 hz2 hN hD hA
   go_wp2
   go_ret
   exact⟨congrArg (fun b=>Ending.returned (Value.bool b)) (Hl.out _ (by first|rfl|exact hs3)),ak q0 _⟩
 ·have hl:decide (a≤5∧b≤5)=false:=decide_eq_false fun h=>h1 h.1
  have Hl:=K7 hl
  clear h hl hm hc
  ·skip
   go_enter Tryz.func72,Tryz.ntmps72
   go_wp2_with fail
   refine (hC.out _).mono ?_
   rintro e w1 ⟨rfl,q0⟩
   go_wp2_with fail
   refine (hN.out _).mono ?_
   rintro e w2 ⟨t,rfl,ht,q,rfl⟩
   go_wp2_with fail
   refine (hA.out t ht _).mono ?_
   rintro e w2 ⟨t2,rfl,ht2,rfl⟩
   have hs2:=hz.out t2 ht2
   clear ht ht2 hz
   clear hz2 hN hD hA
   go_wp2
   go_ret
   first|exact⟨congrArg (fun b=>Ending.returned (Value.bool b)) Hl.out.symm,ak q0 _⟩|exact⟨rfl,ak q0 _⟩
open Classical in
theorem AP (s:ByteArray) (w:World) (hs:s.size≤9223372036854775807) :
  Calls Tryz.prog 72 #[.string s,.int .i64 5] w fun e w'=>e=.returned (.bool (decide (Few s 5)))∧Kept w w':=by
 by_cases h:12<s.size
 ·rw[decide_eq_false (uf (d:=5) h)]
  exact zc s w hs h
 ·by_cases hc:cN (chs s)=0
  ·obtain⟨x,hx,_⟩:=oJ hc
   have:=zb s x w (by omega) hx hc
   rwa [show decide (nd x.num.natAbs≤5∧nd x.den≤5)=decide (Few s 5) from decide_eq_decide.2 (BX (by decide) hx).symm] at this
  ·rw[decide_eq_false (xW (d:=5) (by decide) hc)]
   exact AQ s w (by omega) hc
end Go.Proofs.YtnjcdpfibmckmaaGreatDoor.D
namespace Go.Proofs.YtnjcdpfibmckmaaGreatDoor
open Go.RowKit LimbNum
open Go.Sx (iZ KVs)
theorem Ca {ik:IntKind} {ns:List Int} {vs:List Value} (h:KVs (ns.map (Go.Sx.AV.int ik)) vs):vs=ns.map (Value.int ik):=by
 unfold KVs at h
 rw[List.map_map,show (Go.Sx.kv ∘ Go.Sx.AV.int ik)=(some ∘ Value.int ik) from rfl,←List.map_map] at h
 exact ((List.map_inj_right (fun _ _=>Option.some.inj)).1 h).symm
theorem FA {m:Go.Sx.Nm} {w:World} {h:Go.Sx.Hf} (hg:iZ m w h):E.TB w:=by
 intro w' hk
 have hgt:Go.Sx.Glob.gt.get 4=some (Lib.pow10Tab.map (Go.Sx.AV.int .u64)):=by kernel_rfl
 obtain⟨⟨c,e,h1,h2⟩,_⟩:=hg 4 _ hgt
 have h1':w'.heap[4]?=some (.cells c e (0,0)):=by rw[hk.block 4 (Array.getElem?_eq_some_iff.1 h1).1];exact h1
 have hn : Tryz.prog.globalNamed "internal/strconv.uint64pow10" = some 4 := by kernel_rfl
 unfold Lib.TabIs World.var?
 rw[hn]
 simp only[Option.bind_some,h1']
 congr 1
 have:=Ca h2
 rw[←this]
end Go.Proofs.YtnjcdpfibmckmaaGreatDoor
namespace Go.Sx
open LimbNum DigNum Go.RowKit
def Dr (f:FuncId) (h:AH) (a:List AV):List (Nat × Prm)→Option AV
 | []=>none
 |(g,p)::l=>match Nat.beq f g with
  | true=>match p h a with
   | some r=>some r
   | none=>Dr f h a l
  | false=>Dr f h a l
def Du (E:Env) (l:List (Nat × Prm)):Env:={ E with prim:=fun f h a=>match Dr f h a l with
 | some r=>some r
 | none=>E.prim f h a }
theorem qn {f:FuncId} {h:AH} {a:List AV} {r:AV}:∀ (l:List (Nat × Prm)),Dr f h a l=some r→∃ g,(f,g)∈l∧g h a=some r
 | [],h=>by cases h
 |(k,p)::l,hg=>by
  rw[Dr] at hg
  split at hg
  ·rename_i he
   have e1:=Nat.eq_of_beq_eq_true he
   subst e1
   split at hg
   ·rename_i r' hr
    cases hg
    exact⟨p,List.mem_cons_self,hr⟩
   ·obtain⟨g,h1,h2⟩:=qn l hg
    exact⟨g,List.mem_cons_of_mem _ h1,h2⟩
  ·obtain⟨g,h1,h2⟩:=qn l hg
   exact⟨g,List.mem_cons_of_mem _ h1,h2⟩
theorem vK [Unk] [Glob] {P:Program} {E:Env} {l:List (Nat × Prm)} (hpr:fI P E) (hl:∀ x∈l,au P x.1 x.2):fI P (Du E l):=by
 refine ⟨hpr.1,fun f h args av hp m w vals hv hs=>?_⟩
 simp only[Du] at hp
 split at hp
 ·rename_i r hr
  cases hp
  obtain⟨g,h1,h2⟩:=qn _ hr
  exact hl _ h1 h args _ h2 m w vals hv hs
 ·exact hpr.2 f h args _ hp m w vals hv hs
end Go.Sx
namespace Go.Sx.Seat
open Go Go.Sx Go.Proofs Go.RowKit LimbNum DigNum
open Go.Proofs.YtnjcdpfibmckmaaGreatDoor (Whole)
theorem eF {w:World} {v:Value} {x:Rat} (h:ExG w v x):Go.Proofs.YtnjcdpfibmckmaaGreatDoor.E.Ex w v x:=by
 obtain⟨a,b,c,d,rfl,h0,h1,h2,h3⟩:=h
 subst h0
 subst h2
 obtain⟨a1,c1,rfl,q1⟩:=h1
 have hz:∀ n:Nat,Value.bool false=Value.bool (decide ((n:Int)<0)):=fun n=>by rw[decide_eq_false (by omega)]
 rcases h3 with h3|⟨h3,h4⟩
 ·obtain⟨a2,c2,rfl,q2⟩:=h3
  exact⟨_,_,_,_,_,_,_,_,rfl,⟨_,rfl,_,_,rfl,q1⟩,.inl ⟨_,by rw[←hz];rfl,_,_,rfl,q2⟩⟩
 ·obtain⟨a2,c2,rfl,q2⟩:=h4
  exact⟨_,_,_,_,_,_,_,_,rfl,⟨_,rfl,_,_,rfl,q1⟩,.inr ⟨h3,⟨_,rfl,_,_,rfl,q2⟩⟩⟩
theorem mi {w:World} {v:Value} {x:Rat} (h:Go.Proofs.YtnjcdpfibmckmaaGreatDoor.E.Ex w v x):ExG w v x:=by
 obtain⟨s1,a1,n1,c1,s2,a2,n2,c2,rfl,h1,h2⟩:=h
 obtain⟨l1,e1,q1⟩:=h1
 simp only[Value.agg.injEq,Array.mk.injEq,List.cons.injEq,and_true] at e1
 obtain⟨e1,rfl⟩:=e1
 refine ⟨_,_,_,_,rfl,e1,q1,?_,?_⟩
 ·show Value.bool s2=Value.bool false
  rcases h2 with ⟨l2,e2,_⟩|⟨_,l2,e2,_⟩<;>simp only[Value.agg.injEq,Array.mk.injEq,List.cons.injEq,and_true] at e2
  ·rw[e2.1,decide_eq_false (by omega)]
  ·rw[e2.1];rfl
 ·rcases h2 with ⟨l2,e2,q2⟩|⟨h3,l2,e2,q2⟩<;>simp only[Value.agg.injEq,Array.mk.injEq,List.cons.injEq,and_true] at e2
  ·obtain⟨_,rfl⟩:=e2
   exact .inl q2
  ·obtain⟨_,rfl⟩:=e2
   exact .inr ⟨h3,q2⟩
theorem Iy [Unk] {m:Nm} {w:World} {h:Hf} (hs:RS m w h):Go.Proofs.YtnjcdpfibmckmaaGreatDoor.E.TB w:=Go.Proofs.YtnjcdpfibmckmaaGreatDoor.FA hs.glob
section
variable [Unk] {ρ : Nat → Rat} {σ : Nat → ByteArray} {T : PT}
theorem Fi (hT:Sem ρ σ T):au Tryz.prog 145 (I1 T):=xf hT fun u v p q k l w h1 h2 b1 b2 hk hl=>by
 refine (Go.Proofs.YtnjcdpfibmckmaaGreatDoor.E.tz u v _ _ k l w (eF h1) (eF h2) b1 b2 (by omega) (by omega)).mono ?_
 rintro e w' ⟨v',rfl,g1,g2⟩
 exact⟨v',rfl,mi g1,g2⟩
theorem Fq (hT:Sem ρ σ T):au Tryz.prog 109 (I3 T):=xf hT fun u v p q k l w h1 h2 b1 b2 hk hl=>by
 refine (Go.Proofs.YtnjcdpfibmckmaaGreatDoor.E.Bb u v _ _ k l w (eF h1) (eF h2) b1 b2 (by omega) (by omega)).mono ?_
 rintro e w' ⟨v',rfl,g1,g2⟩
 exact⟨v',rfl,mi g1,g2⟩
theorem Fk (hT:Sem ρ σ T):au Tryz.prog 102 (I2 T):=xf hT fun u v p q k l w h1 h2 b1 b2 hk hl=>by
 refine (Go.Proofs.YtnjcdpfibmckmaaGreatDoor.E.oC u v _ _ k l w (eF h1) (eF h2) b1 b2 (by omega) (by omega)).mono ?_
 rintro e w' ⟨v',rfl,g1,g2⟩
 exact⟨v',rfl,mi g1,g2⟩
theorem Fo (hT:Sem ρ σ T):au Tryz.prog 151 (G8 T):=E8 hT fun u v x y k l w h1 h2 b1 b2 hk hl h0=>by
 refine (Go.Proofs.YtnjcdpfibmckmaaGreatDoor.E.AY u v _ _ k l w (eF h1) (eF h2) b1 b2 (by omega) (by omega) h0).mono ?_
 rintro e w' ⟨v',rfl,g1,g2⟩
 exact⟨v',rfl,mi g1,g2⟩
theorem Fj (hT:Sem ρ σ T):au Tryz.prog 82 (G6 T):=E6 hT fun u v x y k l w h1 h2 b1 b2 hk hl=>by
 refine (Go.Proofs.YtnjcdpfibmckmaaGreatDoor.E.AL u v _ _ k l w (eF h1) (eF h2) b1 b2 (by omega) (by omega)).mono ?_
 rintro e w' ⟨rfl,g2⟩
 exact⟨rfl,g2⟩
theorem Fm (hT:Sem ρ σ T):au Tryz.prog 91 (G7 T):=E7 hT fun u x k w h1 b1 hk=>by
 refine (Go.Proofs.YtnjcdpfibmckmaaGreatDoor.E.tF u _ k w (eF h1) b1 (by omega)).mono ?_
 rintro e w' ⟨v',rfl,g1,g2⟩
 exact⟨v',rfl,mi g1,g2⟩
theorem Dg (hT:Sem ρ σ T):au Tryz.prog 95 (BQ T):=BR hT fun u x k w h1 b1 hk=>Go.Proofs.YtnjcdpfibmckmaaGreatDoor.E.lQ u _ k w (eF h1) b1 (by omega)
theorem Fp (hT:Sem ρ σ T):au Tryz.prog 56 (E9 T):=Ea hT fun u x k w h1 b1 hk hs=>by
 obtain⟨m,h,hs⟩:=hs
 exact Go.Proofs.YtnjcdpfibmckmaaGreatDoor.E.B9 u _ k w (eF h1) b1 (by omega) (Iy hs)
theorem Az (hT:Sem ρ σ T):au Tryz.prog 57 (su T):=zI hT fun s w hs=>by
 refine (Go.Proofs.YtnjcdpfibmckmaaGreatDoor.E.vQ s w hs).mono ?_
 rintro e w' ⟨v,rfl,⟨g1,g2⟩,g3⟩
 exact⟨v,rfl,⟨g1,fun x h1 h2=>mi (g2 x h1 h2)⟩,g3⟩
theorem Fs (hT:Sem ρ σ T):au Tryz.prog 22 (Iz T):=xi hT fun s t p q k l w h1 h2 b1 b2 hk hl=>by
 refine (Go.Proofs.YtnjcdpfibmckmaaGreatDoor.D.tA s t _ _ k l w h1 h2 b1 b2 (by omega) (by omega)).mono ?_
 rintro e w' ⟨u,rfl,g1,g2⟩
 exact⟨u,rfl,g1,g2⟩
theorem Fy (hT:Sem ρ σ T):au Tryz.prog 23 (IC T):=xi hT fun s t p q k l w h1 h2 b1 b2 hk hl=>by
 refine (Go.Proofs.YtnjcdpfibmckmaaGreatDoor.D.tI s t _ _ k l w h1 h2 b1 b2 (by omega) (by omega)).mono ?_
 rintro e w' ⟨u,rfl,g1,g2⟩
 exact⟨u,rfl,g1,g2⟩
theorem Fv (hT:Sem ρ σ T):au Tryz.prog 24 (IA T):=xi hT fun s t p q k l w h1 h2 b1 b2 hk hl=>by
 refine (Go.Proofs.YtnjcdpfibmckmaaGreatDoor.D.tD s t _ _ k l w h1 h2 b1 b2 (by omega) (by omega)).mono ?_
 rintro e w' ⟨u,rfl,g1,g2⟩
 exact⟨u,rfl,g1,g2⟩
theorem Fu (hT:Sem ρ σ T):au Tryz.prog 28 (GR T):=F5 hT fun s t x y k l w h1 h2 b1 b2 hk hl h0=>by
 refine (Go.Proofs.YtnjcdpfibmckmaaGreatDoor.D.AO s t _ _ k l w h1 h2 b1 b2 (by omega) (by omega) h0).mono ?_
 rintro e w' ⟨u,rfl,g1,g2⟩
 exact⟨u,rfl,g1,g2⟩
theorem Ft (hT:Sem ρ σ T):au Tryz.prog 26 (GQ T):=F4 hT fun s t x y k l w h1 h2 b1 b2 hk hl=>Go.Proofs.YtnjcdpfibmckmaaGreatDoor.D.AM s t _ _ k l w h1 h2 b1 b2 (by omega) (by omega)
theorem Fx (hT:Sem ρ σ T):au Tryz.prog 36 (IB T):=GD hT fun s p k w h1 b1 hk=>by
 refine (Go.Proofs.YtnjcdpfibmckmaaGreatDoor.D.tG s _ w h1 (by have:=Go.Proofs.YtnjcdpfibmckmaaGreatDoor.E.mJ h1 b1;omega)).mono ?_
 rintro e w' ⟨u,rfl,g1,rfl⟩
 exact⟨u,rfl,g1,Below.refl _ _⟩
theorem Dj (hT:Sem ρ σ T):au Tryz.prog 37 (CX T):=CY hT fun s x k w h1 b1 hk=>by
 refine (Go.Proofs.YtnjcdpfibmckmaaGreatDoor.D.cR s _ w h1).mono ?_
 rintro e w' ⟨rfl,rfl⟩
 exact⟨rfl,Below.refl _ _⟩
theorem AB (hT:Sem ρ σ T):au Tryz.prog 60 (xy T):=Ap hT fun s x k w h1 b1 hk=>Go.Proofs.YtnjcdpfibmckmaaGreatDoor.D.zi s _ w h1 (by have:=Go.Proofs.YtnjcdpfibmckmaaGreatDoor.E.mJ h1 b1;omega)
theorem AA (hT:Sem ρ σ T):au Tryz.prog 13 (tc T):=An hT fun s w hs=>Go.Proofs.YtnjcdpfibmckmaaGreatDoor.D.gM s w hs
theorem Dh (hT:Sem ρ σ T):au Tryz.prog 72 (Ao T 5):=yM hT fun s w hs=>Go.Proofs.YtnjcdpfibmckmaaGreatDoor.D.AP s w hs
theorem H5 (hT:Sem ρ σ T):au Tryz.prog 12 sOf:=GS hT fun n d w hn h1 h2=>Go.Proofs.YtnjcdpfibmckmaaGreatDoor.D.jW n d w (by omega) (by omega) (by omega)
def sy (T:PT):List (Nat × Prm):=[(145,I1 T),(109,I3 T),(102,I2 T),(151,G8 T),(82,G6 T),(91,G7 T),(95,BQ T),(56,E9 T),(57,su T),
 (22,Iz T),(23,IC T),(24,IA T),(28,GR T),(26,GQ T),(36,IB T),(37,CX T),(60,xy T),(13,tc T),(72,Ao T 5),(12,sOf)]
theorem H4 (hT:Sem ρ σ T):∀ x∈sy T,au Tryz.prog x.1 x.2:=by
 unfold sy
 simp only[List.forall_mem_cons]
 exact⟨Fi hT,Fq hT,Fk hT,Fo hT,Fj hT,Fm hT,Dg hT,Fp hT,Az hT,Fs hT,Fy hT,Fv hT,Fu hT,Ft hT,Fx hT,Dj hT,AB hT,AA hT,Dh hT,H5 hT,fun x h=>by cases h⟩
end
theorem mixed:Tryz.prog.follows .mixedOrders=true:=by kernel_rfl
theorem dJ:∀ t ti,E.ty.get t=some ti→TyOK Tryz.prog t ti:=@FE yx _ _ _ Hi
theorem dC:tC Tryz.prog E fl:=@Eh yx _ _ _ (@Gd yx)
theorem qR {f:FuncId} (hb:(fnT.get f).isSome=true) {fn:Func} (h:Tryz.prog.funcs[f]?=some fn):fn.body.isNone=false:=by
 cases hg:fnT.get f with
 | none=>rw[hg] at hb;cases hb
 | some x=>
  obtain⟨n,res,code⟩:=x
  obtain⟨fn',h1,h2,_⟩:=dC f n res code hg
  rw[h] at h1
  cases h1
  rw[h2];rfl
def vP (l:PT→List (Nat × Prm)):Prop:=∀ (U:Unk) (ρ:Nat→Rat) (σ:Nat→ByteArray) (T:PT),@Sem U ρ σ T→∀ x∈l T,@au U _ Tryz.prog x.1 x.2
theorem jn:vP sy:=fun U ρ σ T hT=>@H4 U ρ σ T hT
def gE (f:FuncId) (r:Rule) (l:PT→List (Nat × Prm)) (T:PT):List (Nat × Prm):=(f,CJ T r)::l T
theorem vP.add {l:PT→List (Nat × Prm)} (h:vP l) {f:FuncId} {r:Rule} (hr:cg Tryz.prog f r):vP (gE f r l):=fun U ρ σ T hT x hx=>by
 rcases List.mem_cons.1 hx with rfl|hx
 ·exact F0 hr hT
 ·exact h U ρ σ T hT x hx
noncomputable def ES (l:PT→List (Nat × Prm)) (T:PT):Env:=Du E (l T)
theorem tok0 {ρ:Nat→Rat} {K:Nat} (h:∀ i,Bd (ρ i) K):TOK ρ (fun _=>⟨#[]⟩) (mN 0 K):=
 have hn:∀ {α:Type} {x:α} {R:Prop},x∈([]:List α)→R:=fun h=>absurd h List.not_mem_nil
 ⟨fun _ hx=>hn hx,fun _ hx=>hn hx,fun _ hx=>hn hx,fun _=>Nat.zero_le _,fun _ hx=>hn hx,fun _ hx=>hn hx,fun _ hx=>hn hx,fun _ hx=>hn hx,h⟩
theorem bQ {l:PT→List (Nat × Prm)} (hl:vP l) {f:FuncId} {r:Rule} (hb:(fnT.get f).isSome=true) (ho:GF r.out=true) {L:List PT}
  (hc:∀ ρ,TOK ρ (fun _=>⟨#[]⟩) (mN 0 r.K)→(∀ c∈r.need,tE ρ c)→bY ρ (fun _=>⟨#[]⟩) L)
  (hrun:∀ ρ,(L.all fun T=>@Ai (lv ρ (fun _=>⟨#[]⟩) T) _ T (ES l T) 1000 60 f r.args r.out)=true):cg Tryz.prog f r:=
 ⟨ho,fun ρ hbd hn=>leaf (E:=ES l) (hc ρ (tok0 hbd) hn) mixed (fun _=>dJ) (fun _=>dC) (fun U T hT=>@vK U _ _ _ _ (@bN U) (hl U _ _ T hT)) (fun fn h=>qR hb h) (hrun ρ)⟩
end Go.Sx.Seat
