import Derived.Test.YtjbcmmaniphkkaaGreatDoorSy4
set_option linter.unusedSectionVars false
set_option linter.unusedVariables false
set_option linter.unusedSimpArgs false
namespace Go.Sx.Seat
open Go Go.Sx Go.Proofs Go.RowKit LimbNum DigNum
theorem Eo:ub [1,2]:=fun ρ σ=>by kernel_rfl
theorem Ep:ub [3,4]:=fun ρ σ=>by kernel_rfl
theorem Er:ub [5,6]:=fun ρ σ=>by kernel_rfl
theorem Es:ub [7,8]:=fun ρ σ=>by kernel_rfl
theorem Et:ub [9,10]:=fun ρ σ=>by kernel_rfl
theorem KY {n:Nat} (h1:1≤n) (h2:n≤10):ub [n]:=fun ρ σ=>by
 have one:∀ ks,ub ks→n∈ks→ub [n]:=fun ks h hm ρ σ=>by
  rw[List.all_cons,List.all_nil,Bool.and_true]
  exact List.all_eq_true.1 (h ρ σ) n hm
 have:n=1∨n=2∨n=3∨n=4∨n=5∨n=6∨n=7∨n=8∨n=9∨n=10:=by omega
 rcases this with rfl|rfl|rfl|rfl|rfl|rfl|rfl|rfl|rfl|rfl
 ·exact one _ Eo (by decide) ρ σ
 ·exact one _ Eo (by decide) ρ σ
 ·exact one _ Ep (by decide) ρ σ
 ·exact one _ Ep (by decide) ρ σ
 ·exact one _ Er (by decide) ρ σ
 ·exact one _ Er (by decide) ρ σ
 ·exact one _ Es (by decide) ρ σ
 ·exact one _ Es (by decide) ρ σ
 ·exact one _ Et (by decide) ρ σ
 ·exact one _ Et (by decide) ρ σ
open Classical in
noncomputable def Fc (d:Nat) (s:ByteArray):Rat:=if h:Few s d then h.choose else 0
theorem zB {d:Nat} {s:ByteArray} (h:Few s d):aG s (Fc d s):=by
 unfold Fc;rw[dif_pos h];exact h.choose_spec.1
theorem IB {d:Nat} (s:ByteArray) (hd:1≤d):Bd (Fc d s) d:=by
 unfold Fc
 split
 ·rename_i h;exact h.choose_spec.2
 ·exact lA hd
noncomputable def fZ (σ:Nat→ByteArray) (k:Int) (i:Nat):Rat:=if i<2 then Fc 30 (σ i) else if i=2000 then (k:Rat) else 0
theorem zk (σ:Nat→ByteArray) {k:Int} (hk:k.natAbs≤9223372036854775808) (i:Nat):Bd (fZ σ k i) 30:=by
 unfold fZ
 split
 ·exact IB _ (by decide)
 ·split
  ·have h:(9223372036854775808:Nat)<10^30:=by decide
   exact jh k (by omega) (by decide)
  ·exact lA (by decide)
section
variable {σ : Nat → ByteArray} {k : Int} (hs : ∀ i, (σ i).size ≤ 9223372036854775807) (hk : k.natAbs ≤ 9223372036854775808)
include hs hk
open Classical in
theorem yH {l:Cm} {fw:List (Nat × Nat × Bool)} (h1:∀ x∈l,sg (x.1.val (fZ σ k)) (x.2.1.val (fZ σ k))=x.2.2) (h2:∀ x∈fw,decide (Few (σ x.1) x.2.1)=x.2.2):TOK (fZ σ k) σ (kC l fw) where
 cmp:=h1
 chk:=fun x hx=>absurd hx List.not_mem_nil
 says:=fun x hx=>absurd hx List.not_mem_nil
 len:=hs
 clen:=fun x hx=>absurd hx List.not_mem_nil
 lrg:=fun x hx=>absurd hx List.not_mem_nil
 le:=fun x hx=>absurd hx List.not_mem_nil
 few:=h2
 bd:=zk σ hk
open Classical in
theorem Lh (f0:Few (σ 0) 30) (f1:Few (σ 1) 30) {x:Cm × Le} (h1:∀ y∈x.1,sg (y.1.val (fZ σ k)) (y.2.1.val (fZ σ k))=y.2.2) (h2:∀ y∈x.2,y.1.val (fZ σ k)≤y.2.val (fZ σ k)):TOK (fZ σ k) σ (tQ x) where
 cmp:=h1
 chk:=fun y hy=>by
  simp only[tQ,List.mem_cons,List.not_mem_nil,or_false] at hy
  rcases hy with rfl|rfl
  ·obtain⟨z,g1,g2⟩:=f0
   rw[show chs (σ 0)=cg z from g1];exact gS (g2.mono (by decide))
  ·obtain⟨z,g1,g2⟩:=f1
   rw[show chs (σ 1)=cg z from g1];exact gS (g2.mono (by decide))
 says:=fun y hy _=>by
  simp only[tQ,List.mem_cons,List.not_mem_nil,or_false] at hy
  rcases hy with rfl|rfl
  ·exact zB f0
  ·exact zB f1
 len:=hs
 clen:=fun y hy=>by
  simp only[tQ,List.mem_cons,List.not_mem_nil,or_false] at hy
  have key:∀ s,Few s 30→s.size≤1000000:=fun s ⟨z,g1,g2⟩=>haveI:Unk:=vA;qB g1 (g2.mono (by decide))
  rcases hy with rfl|rfl
  ·exact key _ f0
  ·exact key _ f1
 lrg:=fun y hy=>absurd hy List.not_mem_nil
 le:=h2
 few:=fun y hy=>by
  simp only[tQ,List.mem_cons,List.not_mem_nil,or_false] at hy
  rcases hy with rfl|rfl
  ·exact decide_eq_true f0
  ·exact decide_eq_true f1
 bd:=zk σ hk
end
section
variable {ρ : Nat → Rat}
theorem Ld (y:Rat):0≤y*y:=by
 rcases Rat.le_total (a:=0) (b:=y) with h|h
 ·exact Rat.mul_nonneg h h
 ·have:=Rat.mul_nonneg (a:=-y) (b:=-y) (by grind) (by grind)
  grind
theorem Kr:∀ x∈bC (sg (ρ 1) 0),sg (x.1.val ρ) (x.2.1.val ρ)=x.2.2:=by
 intro x hx
 simp only[bC,List.mem_cons,List.not_mem_nil,or_false] at hx
 rcases hx with rfl|rfl
 ·rfl
 ·refine cW.2 ?_
  rw[IN (ρ:=ρ) (v:=wB) (y:=ρ 1) rfl,ym]
  unfold abT
  rcases eg (ρ 1) 0 with h|h|h
  ·rw[h,if_pos (iZ.1 h)];rfl
  ·rw[h,if_neg (fun hc=>by rw[iZ.2 hc] at h;exact absurd h (by decide))];rfl
  ·rw[h,if_neg (fun hc=>by rw[iZ.2 hc] at h;exact absurd h (by decide))];rfl
theorem Ks:∀ x∈bL,x.1.val ρ≤x.2.val ρ:=by
 intro x hx
 have e:(rSq wB).val ρ=wB.val ρ:=qt (y:=ρ 1) rfl
 simp only[bL,List.mem_cons,List.not_mem_nil,or_false] at hx
 rcases hx with rfl|rfl|rfl
 ·exact Ld (ρ 1)
 ·show (rSq wB).val ρ≤wB.val ρ
  rw[e];exact Rat.le_refl
 ·show wB.val ρ≤(rSq wB).val ρ
  rw[e];exact Rat.le_refl
def Fit (ρ:Nat→Rat) (x:Cm × Le):Prop:=(∀ y∈x.1,sg (y.1.val ρ) (y.2.1.val ρ)=y.2.2)∧∀ y∈x.2,y.1.val ρ≤y.2.val ρ
theorem a_ok (k:Nat):∃ x∈zQ k,Fit ρ x:=by
 have e0:(SE.int 0).val ρ=0:=rfl
 rcases eg (ρ 0) 0 with h|h|h
 ·exact⟨IV,by simp[zQ],fun y hy=>by
   simp only[IV,List.mem_cons,List.not_mem_nil,or_false] at hy;subst hy;exact h,fun y hy=>absurd hy List.not_mem_nil⟩
 ·have hx:=cW.1 h
  have e:sqX.val ρ=ρ 0:=qt (v:=.v 0) (y:=0) (by show ρ 0=0*0;rw[hx,Rat.zero_mul])
  have hr:(rX (.v 0)).val ρ=0:=by
   have h2:(rX (.v 0)).val ρ*(rX (.v 0)).val ρ=0:=e.trans hx
   rcases Rat.mul_eq_zero.1 h2 with h3|h3<;>exact h3
  refine ⟨aEx k 0,by simp[zQ],fun y hy=>?_,fun y hy=>absurd hy List.not_mem_nil⟩
  simp only[aEx,List.mem_cons,List.not_mem_nil,or_false] at hy
  rcases hy with rfl|rfl|rfl|rfl
  ·exact h
  ·exact cW.2 e
  ·exact cW.2 hr
  ·refine iZ.2 ?_
   show (rX (.v 0)).val ρ-(rX (.v 0)).val ρ<_
   rw[Rat.sub_self]
   exact yX k
 ·have hx:0<ρ 0:=iZ.1 (by rw[gD,h])
  have hx0:0≤(SE.v 0).val ρ:=Rat.le_of_lt hx
  by_cases e:sqX.val ρ=ρ 0
  ·have hr:sg ((rX (.v 0)).val ρ) 0=1:=by
    refine sgp ?_
    rcases Rat.le_iff_lt_or_eq.1 (KS (ρ:=ρ) (v:=.v 0)) with h3|h3
    ·exact h3
    ·have:(rX (.v 0)).val ρ*(rX (.v 0)).val ρ=ρ 0:=e
     rw[←h3,Rat.zero_mul] at this
     rw[←this] at hx
     exact absurd hx (by decide)
   refine ⟨aEx k 1,by simp[zQ],fun y hy=>?_,fun y hy=>absurd hy List.not_mem_nil⟩
   simp only[aEx,List.mem_cons,List.not_mem_nil,or_false] at hy
   rcases hy with rfl|rfl|rfl|rfl
   ·exact h
   ·exact cW.2 e
   ·exact hr
   ·refine iZ.2 ?_
    show (rX (.v 0)).val ρ-(rX (.v 0)).val ρ<_
    rw[Rat.sub_self]
    exact yX k
  ·have hl:=ij.1 (KC (ρ:=ρ) (v:=.v 0) k)
   have hl2:sg ((lo k).val ρ) 0=0∨sg ((lo k).val ρ) 0=1:=by
    have e2:sg ((lo k).val ρ) 0 = - sg 0 ((lo k).val ρ):=gD _ _
    have hl:sg 0 ((lo k).val ρ)≤0:=hl
    rcases eg ((lo k).val ρ) 0 with q|q|q
    ·omega
    ·exact .inl q
    ·exact .inr q
   have hc:sg (sqX.val ρ) (ρ 0) = -1∨sg (sqX.val ρ) (ρ 0)=1:=by
    rcases eg (sqX.val ρ) (ρ 0) with q|q|q
    ·exact .inl q
    ·exact absurd (cW.1 q) e
    ·exact .inr q
   refine ⟨aNo k (sg (sqX.val ρ) (ρ 0)) (sg ((lo k).val ρ) 0),by rcases hc with q|q<;>rcases hl2 with q2|q2<;>rw[q,q2]<;>simp[zQ],fun y hy=>?_,fun y hy=>?_⟩
   ·simp only[aNo,List.mem_cons,List.not_mem_nil,or_false] at hy
    rcases hy with rfl|rfl|rfl|rfl|rfl|rfl
    ·exact h
    ·rfl
    ·rfl
    ·exact iZ.2 (KB hx0 e k)
    ·exact sgp (Kz hx0 k)
    ·exact cW.2 (Ky k)
   ·simp only[aNo,List.mem_cons,List.not_mem_nil,or_false] at hy
    rcases hy with rfl|rfl|rfl|rfl
    ·exact vi k
    ·exact vi (k+2)
    ·exact Jv hx0 k
    ·exact Jp hx0 k
theorem Db (x y:Rat):sg x y∈three:=by
 rcases eg x y with h|h|h<;>rw[h]<;>decide
end
theorem Ck {α:Type} {P:α→Prop} {l m:List α} (h1:∀ e∈l,P e) (h2:∀ e∈m,P e):∀ e∈l++m,P e:=fun e he=>(List.mem_append.1 he).elim (h1 e) (h2 e)
open Classical in
theorem wh (a b:ByteArray) (ha:a.size≤9223372036854775807) (hb:b.size≤9223372036854775807) (k:Int) (hk : -9223372036854775808≤k∧k≤9223372036854775807) (w:World) (ht:Cc w) :
  Calls Tryz.prog LQ #[.string a,.string b,.int .i64 k] w fun e w'=>e=.returned (.bool true)∧Below w.heap.size w w':=by
 have hs:∀ i,(sig [a,b] i).size≤9223372036854775807:=fun i=>by
  unfold sig
  match i with
  | 0=>exact ha
  | 1=>exact hb
  | _+2=>exact Nat.zero_le _
 have hk':k.natAbs≤9223372036854775808:=by omega
 have fin:∀ kv,(∀ (U:Unk) T m,@Sem U (fZ (sig [a,b]) k) (sig [a,b]) T→@RV U m w kv (.int .i64 k))→Yields Tryz.prog (fZ (sig [a,b]) k) (sig [a,b]) LQ (zh kv) (.bool true)→Calls Tryz.prog LQ #[.string a,.string b,.int .i64 k] w fun e w'=>e=.returned (.bool true)∧Below w.heap.size w w':=by
  rintro kv hkv ⟨U,T,hT,H⟩
  have hst:∀ i,@RV U (fun _=>none) w (.sym (.st i)) (.string (sig [a,b] i)):=fun i=>by
   rw[@RV.eq_def U];simp only;rw[@Sem.is U _ _ _ hT];rfl
  refine (H w [.string a,.string b,.int .i64 k] ht (by
   unfold zh
   rw[@RVs.eq_def U];refine ⟨_,_,rfl,hst 0,?_⟩
   rw[@RVs.eq_def U];refine ⟨_,_,rfl,hst 1,?_⟩
   rw[@RVs.eq_def U];exact⟨_,_,rfl,hkv U T _ hT,by rw[@RVs.eq_def U]⟩)).mono ?_
  rintro e w' ⟨v,rfl,g1,g2⟩
  rw[@RV.eq_def U] at g1
  simp only at g1
  subst g1
  exact⟨rfl,g2⟩
 generalize sig [a,b]=σ at *
 have hsi:∀ (U:Unk) T m,@Sem U (fZ σ k) σ T→@RV U m w (.sym (.si 1000)) (.int .i64 k):=fun U T m hT=>by
  rw[@RV.eq_def U];simp only;rw[@Sem.is U _ _ _ hT]
  unfold km
  simp only
  rw[show Nat.blt 1000 500=false from rfl,show Nat.blt 1000 1000=false from rfl]
  refine ⟨k,rfl,?_⟩
  unfold fZ
  rw[if_neg (by decide),if_pos rfl]
 have out:∀ T∈outs,TOK (fZ σ k) σ T→Calls Tryz.prog LQ #[.string a,.string b,.int .i64 k] w fun e w'=>e=.returned (.bool true)∧Below w.heap.size w w':=fun T hm hT=>fin _ hsi
  (leaf (E:=ES (lvA syV)) (fuel:=1000) (d:=60) (gO.one hT) mixed (fun _=>dB) (fun _=>dh) (fun U T hT=>@qU U _ _ _ _ (@bQ U) (Dt EN U _ _ T hT)) (fun fn h=>mG (by kernel_rfl) h) (by
   rw[List.all_cons,List.all_nil,Bool.and_true]
   exact List.all_eq_true.1 (GW (fZ σ k) σ) T hm))
 have two:∀ {x y:Nat × Nat × Bool} {P:Nat × Nat × Bool→Prop},P x→P y→∀ z∈[x,y],P z:=fun h1 h2 z hz=>by
  simp only[List.mem_cons,List.not_mem_nil,or_false] at hz
  rcases hz with rfl|rfl<;>assumption
 have e2000:(SE.v 2000).val (fZ σ k)=(k:Rat):=by
  show fZ σ k 2000=_
  unfold fZ
  rw[if_neg (by decide),if_pos rfl]
 by_cases f0:Few (σ 0) 30
 case neg=>exact out _ (by simp[outs]) (yH (l:=[]) (fw:=[(0,30,false)]) hs hk' (fun x hx=>absurd hx List.not_mem_nil) (fun x hx=>by rw[List.mem_singleton] at hx;subst hx;exact decide_eq_false f0))
 by_cases f1:Few (σ 1) 30
 case neg=>exact out _ (by simp[outs]) (yH (l:=[]) (fw:=[(0,30,true),(1,30,false)]) hs hk' (fun x hx=>absurd hx List.not_mem_nil) (two (decide_eq_true f0) (decide_eq_false f1)))
 by_cases k1:k<1
 ·refine out _ (by simp[outs]) (yH (l:=[(.v 2000,.int 1,-1)]) (fw:=[(0,30,true),(1,30,true)]) hs hk' (fun x hx=>?_) (two (decide_eq_true f0) (decide_eq_true f1)))
  rw[List.mem_singleton] at hx
  subst hx
  rw[e2000]
  exact (oS k 1).trans (Int.sign_eq_neg_one_of_neg (by omega))
 by_cases k2:10<k
 ·refine out _ (by simp[outs]) (yH (l:=[(.v 2000,.int 1,1),(.v 2000,.int 10,1)]) (fw:=[(0,30,true),(1,30,true)]) hs hk' (fun x hx=>?_) (two (decide_eq_true f0) (decide_eq_true f1)))
  simp only[List.mem_cons,List.not_mem_nil,or_false] at hx
  rcases hx with rfl|rfl
  ·rw[e2000];exact (oS k 1).trans (Int.sign_eq_one_of_pos (by omega))
  ·rw[e2000];exact (oS k 10).trans (Int.sign_eq_one_of_pos (by omega))
 obtain⟨n,rfl⟩:∃ n:Nat,k=Int.ofNat n:=⟨k.toNat,by show k=((k.toNat:Nat):Int);omega⟩
 have n1:1≤n:=by have:Int.ofNat n=(n:Int):=rfl;omega
 have n2:n≤10:=by have:Int.ofNat n=(n:Int):=rfl;omega
 obtain⟨x,hx,hf⟩:=a_ok (ρ:=fZ σ (Int.ofNat n)) n
 have hT:=Lh hs hk' f0 f1 (x:=(bC (sg (fZ σ (Int.ofNat n) 1) 0)++x.1,bL++x.2)) (Ck Kr hf.1) (Ck Ks hf.2)
 have hd:n∈mI∧n+2∈mI:=by
  have:n=1∨n=2∨n=3∨n=4∨n=5∨n=6∨n=7∨n=8∨n=9∨n=10:=by omega
  rcases this with rfl|rfl|rfl|rfl|rfl|rfl|rfl|rfl|rfl|rfl<;>decide
 have hr:=KY n1 n2 (fZ σ (Int.ofNat n)) σ
 rw[List.all_cons,List.all_nil,Bool.and_true] at hr
 refine fin (.int .i64 (.ofNat n)) (fun U T m hT=>by rw[@RV.eq_def U]) (leaf (E:=ES (lvQ n)) (fuel:=1000) (d:=60) (gO.one hT) mixed (fun _=>dB) (fun _=>dh) (fun U T hT=>@qU U _ _ _ _ (@bQ U) (Jw hd.1 hd.2 U _ _ T hT)) (fun fn h=>mG (by kernel_rfl) h) ?_)
 rw[List.all_cons,List.all_nil,Bool.and_true]
 exact List.all_eq_true.1 hr _ (List.mem_flatMap.2 ⟨_,Db _ _,List.mem_map.2 ⟨x,hx,rfl⟩⟩)
end Go.Sx.Seat
