import Derived.Test.YtjbcmmaniphkkaaGreatDoorRj
set_option linter.unusedSectionVars false
set_option linter.unusedVariables false
set_option linter.unusedSimpArgs false
set_option maxRecDepth 100000
set_option maxHeartbeats 2000000
namespace Go.Proofs.YtjbcmmaniphkkaaGreatDoor.D
open Go.RowKit DigNum
theorem nJ (n:Nat) (w:World) (hn:(n:Int)≤9223372036854775807) :
  Calls Tryz.prog 183 #[.int .i64 n,.int .i64 1] w fun e w'=>∃ s:ByteArray,e=.returned (.string s)∧chs s=bh n∧∃ q,w'=w.drewN q:=by
 refine (js n 1 w hn (by decide)).mono ?_
 rintro e w' ⟨s,k,rfl,h1,h2,h3,h4,h5⟩
 exact⟨s,rfl,h1.trans (oH ⟨k,rfl,h2,h3,h4⟩),h5⟩
theorem vU {n:Nat} (h:(n:Int)≤9223372036854775807):size n≤100000000:=by
 refine Nat.le_trans (size_le (k:=3) ?_) (by decide)
 rw[show DigNum.B=1000000000 from rfl]
 have:(1000000000:Nat)^3=1000000000000000000000000000:=by decide
 omega
theorem bY {t:ByteArray} {n:Nat} (h:chs t=bh n) (hn:(n:Int)≤4000000000000000000):t.size≤20:=by
 rw[←ah,h,aD]
 refine (eo (by decide)).2 ?_
 have:(10:Nat)^20=100000000000000000000:=by decide
 omega
theorem GN {num den:Int} {x:Rat} (hx:Rat.divInt num den=x) (hd:den≠0):x.num=az (decide (den.sign*num<0)) (num.natAbs/Nat.gcd num.natAbs den.natAbs)∧x.den=den.natAbs/Nat.gcd num.natAbs den.natAbs ∧
  cg x=(if decide (den.sign*num<0)=true then [45] else [])++bh (num.natAbs/Nat.gcd num.natAbs den.natAbs)++(if den.natAbs/Nat.gcd num.natAbs den.natAbs=1 then [] else 47::bh (den.natAbs/Nat.gcd num.natAbs den.natAbs)):=by
 obtain⟨h1,h2⟩:=pB num den hd
 rw[hx] at h1 h2
 refine ⟨h1,h2,?_⟩
 unfold cg bB
 rw[h2,h1,cT,iP]
 have hgp:=lP (n:=num.natAbs) (d:=den.natAbs) (by omega)
 by_cases hn:den.sign*num<0
 ·have h0:num≠0:=fun h=>by rw[h,Int.mul_zero] at hn;omega
  have h3:0<num.natAbs/Nat.gcd num.natAbs den.natAbs:=Nat.div_pos (Nat.le_of_dvd (by omega) (Nat.gcd_dvd_left _ _)) hgp
  simp[hn,h3]
 ·simp[hn]
theorem BW (num den:Int) (w:World) (hd:den≠0) (hn:(num.natAbs:Int)≤9223372036854775807) (hm:(den.natAbs:Int)≤9223372036854775807)
  (hl:num < -4000000000000000000∨num>4000000000000000000∨den < -4000000000000000000∨den>4000000000000000000) :
  Calls Tryz.prog 115 #[.int .i64 num,.int .i64 den] w fun e w'=>∃ t:ByteArray,e=.returned (.string t)∧aG t (Rat.divInt num den)∧Kept w w':=by
 have H1:=K7 fun w'=>qT num w' hn
 have H2:=K7 fun w'=>qT den w' hm
 have HF:=K7 fun va vb w' h1 h2=>fm va vb num den w' h1 h2 hd (vU hn) (vU hm)
 clear hn hm hd
 by_cases g1:num < -4000000000000000000
 ·clear hl
  go_enter Tryz.func115,Tryz.ntmps115
  go_wp2_with fail
  refine (H1.out _).mono ?_
  rintro e w2 ⟨v1,rfl,hv1,hk1⟩
  clear H1
  go_wp2_with fail
  refine (H2.out _).mono ?_
  rintro e w3 ⟨v2,rfl,hv2,hk2⟩
  have hv1:=hv1.kept hk2
  have hk:=Kept.comp _ _ _ hk1 hk2
  clear H2 hk1 hk2
  go_wp2_with fail
  refine (HF.out _ _ _ hv1 hv2).mono ?_
  rintro e w4 ⟨t,rfl,ht,hk1⟩
  have hk:=Kept.comp _ _ _ hk hk1
  have HT:=K7 ht
  clear HF hk1 hv1 hv2 ht
  go_wp2
  go_ret
  exact⟨_,rfl,HT.out,hk⟩
 by_cases g2:num>4000000000000000000
 ·clear hl
  go_enter Tryz.func115,Tryz.ntmps115
  go_wp2_with fail
  refine (H1.out _).mono ?_
  rintro e w2 ⟨v1,rfl,hv1,hk1⟩
  clear H1
  go_wp2_with fail
  refine (H2.out _).mono ?_
  rintro e w3 ⟨v2,rfl,hv2,hk2⟩
  have hv1:=hv1.kept hk2
  have hk:=Kept.comp _ _ _ hk1 hk2
  clear H2 hk1 hk2
  go_wp2_with fail
  refine (HF.out _ _ _ hv1 hv2).mono ?_
  rintro e w4 ⟨t,rfl,ht,hk1⟩
  have hk:=Kept.comp _ _ _ hk hk1
  have HT:=K7 ht
  clear HF hk1 hv1 hv2 ht
  go_wp2
  go_ret
  exact⟨_,rfl,HT.out,hk⟩
 by_cases g3:den < -4000000000000000000
 ·clear hl
  go_enter Tryz.func115,Tryz.ntmps115
  go_wp2_with fail
  refine (H1.out _).mono ?_
  rintro e w2 ⟨v1,rfl,hv1,hk1⟩
  clear H1
  go_wp2_with fail
  refine (H2.out _).mono ?_
  rintro e w3 ⟨v2,rfl,hv2,hk2⟩
  have hv1:=hv1.kept hk2
  have hk:=Kept.comp _ _ _ hk1 hk2
  clear H2 hk1 hk2
  go_wp2_with fail
  refine (HF.out _ _ _ hv1 hv2).mono ?_
  rintro e w4 ⟨t,rfl,ht,hk1⟩
  have hk:=Kept.comp _ _ _ hk hk1
  have HT:=K7 ht
  clear HF hk1 hv1 hv2 ht
  go_wp2
  go_ret
  exact⟨_,rfl,HT.out,hk⟩
 have g4:den>4000000000000000000:=by omega
 clear hl
 go_enter Tryz.func115,Tryz.ntmps115
 go_wp2_with fail
 refine (H1.out _).mono ?_
 rintro e w2 ⟨v1,rfl,hv1,hk1⟩
 clear H1
 go_wp2_with fail
 refine (H2.out _).mono ?_
 rintro e w3 ⟨v2,rfl,hv2,hk2⟩
 have hv1:=hv1.kept hk2
 have hk:=Kept.comp _ _ _ hk1 hk2
 clear H2 hk1 hk2
 go_wp2_with fail
 refine (HF.out _ _ _ hv1 hv2).mono ?_
 rintro e w4 ⟨t,rfl,ht,hk1⟩
 have hk:=Kept.comp _ _ _ hk hk1
 have HT:=K7 ht
 clear HF hk1 hv1 hv2 ht
 go_wp2
 go_ret
 exact⟨_,rfl,HT.out,hk⟩
theorem BX (num den:Int) (w:World) (hd:den≠0) (hs:¬(num < -4000000000000000000∨num>4000000000000000000∨den < -4000000000000000000∨den>4000000000000000000)) :
  Calls Tryz.prog 115 #[.int .i64 num,.int .i64 den] w fun e w'=>∃ t:ByteArray,e=.returned (.string t)∧aG t (Rat.divInt num den)∧Kept w w':=by
 obtain⟨x,hx⟩:∃ x,Rat.divInt num den=x:=⟨_,rfl⟩
 obtain⟨f1,f2,f3⟩:=GN hx hd
 rw[hx]
 have HR:Hid (∀ t:ByteArray,chs t=cg x→aG t x):=K7 fun t h=>h
 rw[f3] at HR
 clear hx f1 f2 f3
 have hgp:=lP (n:=num.natAbs) (d:=den.natAbs) (by omega)
 obtain⟨n2,hn2⟩:=Nat.gcd_dvd_left num.natAbs den.natAbs
 obtain⟨d2,hd2⟩:=Nat.gcd_dvd_right num.natAbs den.natAbs
 have e1:num.natAbs/Nat.gcd num.natAbs den.natAbs=n2:=by
  conv=>lhs;lhs;rw[hn2]
  exact Nat.mul_div_cancel_left _ hgp
 have e2:den.natAbs/Nat.gcd num.natAbs den.natAbs=d2:=by
  conv=>lhs;lhs;rw[hd2]
  exact Nat.mul_div_cancel_left _ hgp
 rw[e1,e2] at HR
 clear e1 e2
 have HG:=K7 fun w'=>Gi num.natAbs den.natAbs w' (by omega) (by omega)
 generalize hg:Nat.gcd num.natAbs den.natAbs=g at *
 have hn2l:n2≤num.natAbs:=by rw[hn2];exact Nat.le_mul_of_pos_left _ hgp
 have hd2l:d2≤den.natAbs:=by rw[hd2];exact Nat.le_mul_of_pos_left _ hgp
 have HDn:=K7 fun w'=>nJ n2 w' (by omega)
 have HDd:=K7 fun w'=>nJ d2 w' (by omega)
 have hd2p:0<d2:=by
  rcases Nat.eq_zero_or_pos d2 with h|h
  ·rw[h,Nat.mul_zero] at hd2;omega
  ·exact h
 have s1:¬num < -4000000000000000000:=fun h=>hs (.inl h)
 have s2:¬num>4000000000000000000:=fun h=>hs (.inr (.inl h))
 have s3:¬den < -4000000000000000000:=fun h=>hs (.inr (.inr (.inl h)))
 have s4:¬den>4000000000000000000:=fun h=>hs (.inr (.inr (.inr h)))
 have hgn:¬((g:Int)=0):=by omega
 have hgb:((g:Int)==0)=false:=by rw[beq_eq_false_iff_ne];exact hgn
 have zn:n2=0↔num.natAbs=0:=by
  rw[hn2]
  constructor
  ·rintro rfl;rfl
  ·intro h;rcases Nat.mul_eq_zero.1 h with h|h<;>omega
 clear hs hg
 by_cases hq:den<0
 ·rcases Int.lt_trichotomy num 0 with hp|hp|hp
  ·have hden:den = -(den.natAbs:Int):=by omega
   have hnum:num = -(num.natAbs:Int):=by omega
   have hs0:decide (den.sign*num<0)=false:=by rw[Int.sign_eq_neg_one_of_neg hq];simp;omega
   rw[hs0] at HR
   clear hs0
   have hNl:(num.natAbs:Int)≤4000000000000000000:=by omega
   have hMl:(den.natAbs:Int)≤4000000000000000000:=by omega
   have hMp:0<(den.natAbs:Int):=by omega
   have hNp:0<(num.natAbs:Int):=by omega
   have HZ:=K7 fun t h=>bY (n:=n2) (t:=t) h (by omega)
   have HZd:=K7 fun t h=>bY (n:=d2) (t:=t) h (by omega)
   have Hn2:=K7 hn2
   have Hd2:=K7 hd2
   have Hzn:=K7 zn
   clear hn2 hd2 zn hd hp hq s1 s2 s3 s4
   generalize num.natAbs=N at *
   generalize den.natAbs=M at *
   subst hden hnum
   go_enter Tryz.func115,Tryz.ntmps115
   go_wp2_with fail
   refine (HG.out _).mono ?_
   rintro e w2 ⟨rfl,q,rfl⟩
   have q1:((N:Int)).tdiv (g:Int)=(n2:Int):=by rw[Hn2.out];rw[Int.natCast_mul,Int.mul_tdiv_cancel_left _ (by omega)]
   have q2:(M:Int).tdiv (g:Int)=(d2:Int):=by rw[Hd2.out];rw[Int.natCast_mul,Int.mul_tdiv_cancel_left _ (by omega)]
   have hn2m:(n2:Int)≤4000000000000000000:=by omega
   have hn2p:0<n2:=by have:=Hzn.out;omega
   have hd2m:(d2:Int)≤4000000000000000000:=by omega
   clear HG hn2l hd2l hgp
   go_wp2_with fail
   go_quiet (fail)
   go_wp2_with fail
   refine (HDn.out _).mono ?_
   rintro e w3 ⟨t,rfl,ht,q3,rfl⟩
   have htz:=HZ.out t ht
   have Ht:=K7 ht
   clear HDn HZ ht q1 q2
   have c45:Hid (chs (ByteArray.mk #[45])=[45]):=K7 rfl
   have c47:Hid (chs (ByteArray.mk #[47])=[47]):=K7 rfl
   have c0:Hid (chs (ByteArray.mk #[])=[]):=K7 rfl
   by_cases h1:d2=1
   ·subst h1
    go_wp2
    go_ret
    exact⟨_,rfl,HR.out _ (by simp[aH,Ht.out,c45.out,c0.out]),ar (Below.refl _ _) _⟩
   ·have h1':((d2:Int)>1):=by omega
    have H1:=K7 h1
    clear h1
    go_wp2_with fail
    refine (HDd.out _).mono ?_
    rintro e w4 ⟨u,rfl,hu,q4,rfl⟩
    have huz:=HZd.out u hu
    have Hu:=K7 hu
    have z1:(ByteArray.mk #[45]++t).size=1+t.size:=by rw[ByteArray.size_append];rfl
    have z2:(ByteArray.mk #[]++t).size=t.size:=by rw[ByteArray.size_append];simp;rfl
    have z3:(ByteArray.mk #[45]++t++ByteArray.mk #[47]).size=2+t.size:=by rw[ByteArray.size_append,ByteArray.size_append,show (ByteArray.mk #[45]).size=1 from rfl,show (ByteArray.mk #[47]).size=1 from rfl];omega
    have z4:(t++ByteArray.mk #[47]).size=1+t.size:=by rw[ByteArray.size_append,show (ByteArray.mk #[47]).size=1 from rfl];omega
    clear HDd hu HZd
    go_wp2
    go_ret
    exact⟨_,rfl,HR.out _ (by simp[aH,Ht.out,Hu.out,c45.out,c47.out,c0.out,H1.out]),ar (Below.refl _ _) _⟩
  ·have hden:den = -(den.natAbs:Int):=by omega
   have hnum:num=(num.natAbs:Int):=by omega
   have hs0:decide (den.sign*num<0)=false:=by rw[Int.sign_eq_neg_one_of_neg hq];simp;omega
   rw[hs0] at HR
   clear hs0
   have hNl:(num.natAbs:Int)≤4000000000000000000:=by omega
   have hMl:(den.natAbs:Int)≤4000000000000000000:=by omega
   have hMp:0<(den.natAbs:Int):=by omega
   have hNp:(num.natAbs:Int)=0:=by omega
   have HZ:=K7 fun t h=>bY (n:=n2) (t:=t) h (by omega)
   have HZd:=K7 fun t h=>bY (n:=d2) (t:=t) h (by omega)
   have Hn2:=K7 hn2
   have Hd2:=K7 hd2
   have Hzn:=K7 zn
   clear hn2 hd2 zn hd hp hq s1 s2 s3 s4
   generalize num.natAbs=N at *
   generalize den.natAbs=M at *
   obtain rfl:N=0:=by omega
   subst hden hnum
   go_enter Tryz.func115,Tryz.ntmps115
   go_wp2_with fail
   refine (HG.out _).mono ?_
   rintro e w2 ⟨rfl,q,rfl⟩
   have q1:(((0:Nat):Int)).tdiv (g:Int)=(n2:Int):=by rw[Hn2.out];rw[Int.natCast_mul,Int.mul_tdiv_cancel_left _ (by omega)]
   have q2:(M:Int).tdiv (g:Int)=(d2:Int):=by rw[Hd2.out];rw[Int.natCast_mul,Int.mul_tdiv_cancel_left _ (by omega)]
   have hn2m:(n2:Int)≤4000000000000000000:=by omega
   obtain rfl:n2=0:=Hzn.out.2 trivial
   have hd2m:(d2:Int)≤4000000000000000000:=by omega
   clear HG hn2l hd2l hgp
   go_wp2_with fail
   go_quiet (fail)
   go_wp2_with fail
   refine (HDn.out _).mono ?_
   rintro e w3 ⟨t,rfl,ht,q3,rfl⟩
   have htz:=HZ.out t ht
   have Ht:=K7 ht
   clear HDn HZ ht q1 q2
   have c45:Hid (chs (ByteArray.mk #[45])=[45]):=K7 rfl
   have c47:Hid (chs (ByteArray.mk #[47])=[47]):=K7 rfl
   have c0:Hid (chs (ByteArray.mk #[])=[]):=K7 rfl
   by_cases h1:d2=1
   ·subst h1
    go_wp2
    go_ret
    exact⟨_,rfl,HR.out _ (by simp[aH,Ht.out,c45.out,c0.out]),ar (Below.refl _ _) _⟩
   ·have h1':((d2:Int)>1):=by omega
    have H1:=K7 h1
    clear h1
    go_wp2_with fail
    refine (HDd.out _).mono ?_
    rintro e w4 ⟨u,rfl,hu,q4,rfl⟩
    have huz:=HZd.out u hu
    have Hu:=K7 hu
    have z1:(ByteArray.mk #[45]++t).size=1+t.size:=by rw[ByteArray.size_append];rfl
    have z2:(ByteArray.mk #[]++t).size=t.size:=by rw[ByteArray.size_append];simp;rfl
    have z3:(ByteArray.mk #[45]++t++ByteArray.mk #[47]).size=2+t.size:=by rw[ByteArray.size_append,ByteArray.size_append,show (ByteArray.mk #[45]).size=1 from rfl,show (ByteArray.mk #[47]).size=1 from rfl];omega
    have z4:(t++ByteArray.mk #[47]).size=1+t.size:=by rw[ByteArray.size_append,show (ByteArray.mk #[47]).size=1 from rfl];omega
    clear HDd hu HZd
    go_wp2
    go_ret
    exact⟨_,rfl,HR.out _ (by simp[aH,Ht.out,Hu.out,c45.out,c47.out,c0.out,H1.out]),ar (Below.refl _ _) _⟩
  ·have hden:den = -(den.natAbs:Int):=by omega
   have hnum:num=(num.natAbs:Int):=by omega
   have hs0:decide (den.sign*num<0)=true:=by rw[Int.sign_eq_neg_one_of_neg hq];simp;omega
   rw[hs0] at HR
   clear hs0
   have hNl:(num.natAbs:Int)≤4000000000000000000:=by omega
   have hMl:(den.natAbs:Int)≤4000000000000000000:=by omega
   have hMp:0<(den.natAbs:Int):=by omega
   have hNp:0<(num.natAbs:Int):=by omega
   have HZ:=K7 fun t h=>bY (n:=n2) (t:=t) h (by omega)
   have HZd:=K7 fun t h=>bY (n:=d2) (t:=t) h (by omega)
   have Hn2:=K7 hn2
   have Hd2:=K7 hd2
   have Hzn:=K7 zn
   clear hn2 hd2 zn hd hp hq s1 s2 s3 s4
   generalize num.natAbs=N at *
   generalize den.natAbs=M at *
   subst hden hnum
   go_enter Tryz.func115,Tryz.ntmps115
   go_wp2_with fail
   refine (HG.out _).mono ?_
   rintro e w2 ⟨rfl,q,rfl⟩
   have q1:(-(N:Int)).tdiv (g:Int) = -(n2:Int):=by rw[Hn2.out];rw[Int.neg_tdiv];rw[Int.natCast_mul,Int.mul_tdiv_cancel_left _ (by omega)]
   have q2:(M:Int).tdiv (g:Int)=(d2:Int):=by rw[Hd2.out];rw[Int.natCast_mul,Int.mul_tdiv_cancel_left _ (by omega)]
   have hn2m:(n2:Int)≤4000000000000000000:=by omega
   have hn2p:0<n2:=by have:=Hzn.out;omega
   have hd2m:(d2:Int)≤4000000000000000000:=by omega
   clear HG hn2l hd2l hgp
   go_wp2_with fail
   go_quiet (fail)
   go_wp2_with fail
   refine (HDn.out _).mono ?_
   rintro e w3 ⟨t,rfl,ht,q3,rfl⟩
   have htz:=HZ.out t ht
   have Ht:=K7 ht
   clear HDn HZ ht q1 q2
   have c45:Hid (chs (ByteArray.mk #[45])=[45]):=K7 rfl
   have c47:Hid (chs (ByteArray.mk #[47])=[47]):=K7 rfl
   have c0:Hid (chs (ByteArray.mk #[])=[]):=K7 rfl
   by_cases h1:d2=1
   ·subst h1
    go_wp2
    go_ret
    exact⟨_,rfl,HR.out _ (by simp[aH,Ht.out,c45.out,c0.out]),ar (Below.refl _ _) _⟩
   ·have h1':((d2:Int)>1):=by omega
    have H1:=K7 h1
    clear h1
    go_wp2_with fail
    refine (HDd.out _).mono ?_
    rintro e w4 ⟨u,rfl,hu,q4,rfl⟩
    have huz:=HZd.out u hu
    have Hu:=K7 hu
    have z1:(ByteArray.mk #[45]++t).size=1+t.size:=by rw[ByteArray.size_append];rfl
    have z2:(ByteArray.mk #[]++t).size=t.size:=by rw[ByteArray.size_append];simp;rfl
    have z3:(ByteArray.mk #[45]++t++ByteArray.mk #[47]).size=2+t.size:=by rw[ByteArray.size_append,ByteArray.size_append,show (ByteArray.mk #[45]).size=1 from rfl,show (ByteArray.mk #[47]).size=1 from rfl];omega
    have z4:(t++ByteArray.mk #[47]).size=1+t.size:=by rw[ByteArray.size_append,show (ByteArray.mk #[47]).size=1 from rfl];omega
    clear HDd hu HZd
    go_wp2
    go_ret
    exact⟨_,rfl,HR.out _ (by simp[aH,Ht.out,Hu.out,c45.out,c47.out,c0.out,H1.out]),ar (Below.refl _ _) _⟩
 ·rcases Int.lt_trichotomy num 0 with hp|hp|hp
  ·have hden:den=(den.natAbs:Int):=by omega
   have hnum:num = -(num.natAbs:Int):=by omega
   have hs0:decide (den.sign*num<0)=true:=by rw[Int.sign_eq_one_of_pos (by omega)];simp;omega
   rw[hs0] at HR
   clear hs0
   have hNl:(num.natAbs:Int)≤4000000000000000000:=by omega
   have hMl:(den.natAbs:Int)≤4000000000000000000:=by omega
   have hMp:0<(den.natAbs:Int):=by omega
   have hNp:0<(num.natAbs:Int):=by omega
   have HZ:=K7 fun t h=>bY (n:=n2) (t:=t) h (by omega)
   have HZd:=K7 fun t h=>bY (n:=d2) (t:=t) h (by omega)
   have Hn2:=K7 hn2
   have Hd2:=K7 hd2
   have Hzn:=K7 zn
   clear hn2 hd2 zn hd hp hq s1 s2 s3 s4
   generalize num.natAbs=N at *
   generalize den.natAbs=M at *
   subst hden hnum
   go_enter Tryz.func115,Tryz.ntmps115
   go_wp2_with fail
   refine (HG.out _).mono ?_
   rintro e w2 ⟨rfl,q,rfl⟩
   have q1:(-(N:Int)).tdiv (g:Int) = -(n2:Int):=by rw[Hn2.out];rw[Int.neg_tdiv];rw[Int.natCast_mul,Int.mul_tdiv_cancel_left _ (by omega)]
   have q2:(M:Int).tdiv (g:Int)=(d2:Int):=by rw[Hd2.out];rw[Int.natCast_mul,Int.mul_tdiv_cancel_left _ (by omega)]
   have hn2m:(n2:Int)≤4000000000000000000:=by omega
   have hn2p:0<n2:=by have:=Hzn.out;omega
   have hd2m:(d2:Int)≤4000000000000000000:=by omega
   clear HG hn2l hd2l hgp
   go_wp2_with fail
   go_quiet (fail)
   go_wp2_with fail
   refine (HDn.out _).mono ?_
   rintro e w3 ⟨t,rfl,ht,q3,rfl⟩
   have htz:=HZ.out t ht
   have Ht:=K7 ht
   clear HDn HZ ht q1 q2
   have c45:Hid (chs (ByteArray.mk #[45])=[45]):=K7 rfl
   have c47:Hid (chs (ByteArray.mk #[47])=[47]):=K7 rfl
   have c0:Hid (chs (ByteArray.mk #[])=[]):=K7 rfl
   by_cases h1:d2=1
   ·subst h1
    go_wp2
    go_ret
    exact⟨_,rfl,HR.out _ (by simp[aH,Ht.out,c45.out,c0.out]),ar (Below.refl _ _) _⟩
   ·have h1':((d2:Int)>1):=by omega
    have H1:=K7 h1
    clear h1
    go_wp2_with fail
    refine (HDd.out _).mono ?_
    rintro e w4 ⟨u,rfl,hu,q4,rfl⟩
    have huz:=HZd.out u hu
    have Hu:=K7 hu
    have z1:(ByteArray.mk #[45]++t).size=1+t.size:=by rw[ByteArray.size_append];rfl
    have z2:(ByteArray.mk #[]++t).size=t.size:=by rw[ByteArray.size_append];simp;rfl
    have z3:(ByteArray.mk #[45]++t++ByteArray.mk #[47]).size=2+t.size:=by rw[ByteArray.size_append,ByteArray.size_append,show (ByteArray.mk #[45]).size=1 from rfl,show (ByteArray.mk #[47]).size=1 from rfl];omega
    have z4:(t++ByteArray.mk #[47]).size=1+t.size:=by rw[ByteArray.size_append,show (ByteArray.mk #[47]).size=1 from rfl];omega
    clear HDd hu HZd
    go_wp2
    go_ret
    exact⟨_,rfl,HR.out _ (by simp[aH,Ht.out,Hu.out,c45.out,c47.out,c0.out,H1.out]),ar (Below.refl _ _) _⟩
  ·have hden:den=(den.natAbs:Int):=by omega
   have hnum:num=(num.natAbs:Int):=by omega
   have hs0:decide (den.sign*num<0)=false:=by rw[Int.sign_eq_one_of_pos (by omega)];simp;omega
   rw[hs0] at HR
   clear hs0
   have hNl:(num.natAbs:Int)≤4000000000000000000:=by omega
   have hMl:(den.natAbs:Int)≤4000000000000000000:=by omega
   have hMp:0<(den.natAbs:Int):=by omega
   have hNp:(num.natAbs:Int)=0:=by omega
   have HZ:=K7 fun t h=>bY (n:=n2) (t:=t) h (by omega)
   have HZd:=K7 fun t h=>bY (n:=d2) (t:=t) h (by omega)
   have Hn2:=K7 hn2
   have Hd2:=K7 hd2
   have Hzn:=K7 zn
   clear hn2 hd2 zn hd hp hq s1 s2 s3 s4
   generalize num.natAbs=N at *
   generalize den.natAbs=M at *
   obtain rfl:N=0:=by omega
   subst hden hnum
   go_enter Tryz.func115,Tryz.ntmps115
   go_wp2_with fail
   refine (HG.out _).mono ?_
   rintro e w2 ⟨rfl,q,rfl⟩
   have q1:(((0:Nat):Int)).tdiv (g:Int)=(n2:Int):=by rw[Hn2.out];rw[Int.natCast_mul,Int.mul_tdiv_cancel_left _ (by omega)]
   have q2:(M:Int).tdiv (g:Int)=(d2:Int):=by rw[Hd2.out];rw[Int.natCast_mul,Int.mul_tdiv_cancel_left _ (by omega)]
   have hn2m:(n2:Int)≤4000000000000000000:=by omega
   obtain rfl:n2=0:=Hzn.out.2 trivial
   have hd2m:(d2:Int)≤4000000000000000000:=by omega
   clear HG hn2l hd2l hgp
   go_wp2_with fail
   go_quiet (fail)
   go_wp2_with fail
   refine (HDn.out _).mono ?_
   rintro e w3 ⟨t,rfl,ht,q3,rfl⟩
   have htz:=HZ.out t ht
   have Ht:=K7 ht
   clear HDn HZ ht q1 q2
   have c45:Hid (chs (ByteArray.mk #[45])=[45]):=K7 rfl
   have c47:Hid (chs (ByteArray.mk #[47])=[47]):=K7 rfl
   have c0:Hid (chs (ByteArray.mk #[])=[]):=K7 rfl
   by_cases h1:d2=1
   ·subst h1
    go_wp2
    go_ret
    exact⟨_,rfl,HR.out _ (by simp[aH,Ht.out,c45.out,c0.out]),ar (Below.refl _ _) _⟩
   ·have h1':((d2:Int)>1):=by omega
    have H1:=K7 h1
    clear h1
    go_wp2_with fail
    refine (HDd.out _).mono ?_
    rintro e w4 ⟨u,rfl,hu,q4,rfl⟩
    have huz:=HZd.out u hu
    have Hu:=K7 hu
    have z1:(ByteArray.mk #[45]++t).size=1+t.size:=by rw[ByteArray.size_append];rfl
    have z2:(ByteArray.mk #[]++t).size=t.size:=by rw[ByteArray.size_append];simp;rfl
    have z3:(ByteArray.mk #[45]++t++ByteArray.mk #[47]).size=2+t.size:=by rw[ByteArray.size_append,ByteArray.size_append,show (ByteArray.mk #[45]).size=1 from rfl,show (ByteArray.mk #[47]).size=1 from rfl];omega
    have z4:(t++ByteArray.mk #[47]).size=1+t.size:=by rw[ByteArray.size_append,show (ByteArray.mk #[47]).size=1 from rfl];omega
    clear HDd hu HZd
    go_wp2
    go_ret
    exact⟨_,rfl,HR.out _ (by simp[aH,Ht.out,Hu.out,c45.out,c47.out,c0.out,H1.out]),ar (Below.refl _ _) _⟩
  ·have hden:den=(den.natAbs:Int):=by omega
   have hnum:num=(num.natAbs:Int):=by omega
   have hs0:decide (den.sign*num<0)=false:=by rw[Int.sign_eq_one_of_pos (by omega)];simp;omega
   rw[hs0] at HR
   clear hs0
   have hNl:(num.natAbs:Int)≤4000000000000000000:=by omega
   have hMl:(den.natAbs:Int)≤4000000000000000000:=by omega
   have hMp:0<(den.natAbs:Int):=by omega
   have hNp:0<(num.natAbs:Int):=by omega
   have HZ:=K7 fun t h=>bY (n:=n2) (t:=t) h (by omega)
   have HZd:=K7 fun t h=>bY (n:=d2) (t:=t) h (by omega)
   have Hn2:=K7 hn2
   have Hd2:=K7 hd2
   have Hzn:=K7 zn
   clear hn2 hd2 zn hd hp hq s1 s2 s3 s4
   generalize num.natAbs=N at *
   generalize den.natAbs=M at *
   subst hden hnum
   go_enter Tryz.func115,Tryz.ntmps115
   go_wp2_with fail
   refine (HG.out _).mono ?_
   rintro e w2 ⟨rfl,q,rfl⟩
   have q1:((N:Int)).tdiv (g:Int)=(n2:Int):=by rw[Hn2.out];rw[Int.natCast_mul,Int.mul_tdiv_cancel_left _ (by omega)]
   have q2:(M:Int).tdiv (g:Int)=(d2:Int):=by rw[Hd2.out];rw[Int.natCast_mul,Int.mul_tdiv_cancel_left _ (by omega)]
   have hn2m:(n2:Int)≤4000000000000000000:=by omega
   have hn2p:0<n2:=by have:=Hzn.out;omega
   have hd2m:(d2:Int)≤4000000000000000000:=by omega
   clear HG hn2l hd2l hgp
   go_wp2_with fail
   go_quiet (fail)
   go_wp2_with fail
   refine (HDn.out _).mono ?_
   rintro e w3 ⟨t,rfl,ht,q3,rfl⟩
   have htz:=HZ.out t ht
   have Ht:=K7 ht
   clear HDn HZ ht q1 q2
   have c45:Hid (chs (ByteArray.mk #[45])=[45]):=K7 rfl
   have c47:Hid (chs (ByteArray.mk #[47])=[47]):=K7 rfl
   have c0:Hid (chs (ByteArray.mk #[])=[]):=K7 rfl
   by_cases h1:d2=1
   ·subst h1
    go_wp2
    go_ret
    exact⟨_,rfl,HR.out _ (by simp[aH,Ht.out,c45.out,c0.out]),ar (Below.refl _ _) _⟩
   ·have h1':((d2:Int)>1):=by omega
    have H1:=K7 h1
    clear h1
    go_wp2_with fail
    refine (HDd.out _).mono ?_
    rintro e w4 ⟨u,rfl,hu,q4,rfl⟩
    have huz:=HZd.out u hu
    have Hu:=K7 hu
    have z1:(ByteArray.mk #[45]++t).size=1+t.size:=by rw[ByteArray.size_append];rfl
    have z2:(ByteArray.mk #[]++t).size=t.size:=by rw[ByteArray.size_append];simp;rfl
    have z3:(ByteArray.mk #[45]++t++ByteArray.mk #[47]).size=2+t.size:=by rw[ByteArray.size_append,ByteArray.size_append,show (ByteArray.mk #[45]).size=1 from rfl,show (ByteArray.mk #[47]).size=1 from rfl];omega
    have z4:(t++ByteArray.mk #[47]).size=1+t.size:=by rw[ByteArray.size_append,show (ByteArray.mk #[47]).size=1 from rfl];omega
    clear HDd hu HZd
    go_wp2
    go_ret
    exact⟨_,rfl,HR.out _ (by simp[aH,Ht.out,Hu.out,c45.out,c47.out,c0.out,H1.out]),ar (Below.refl _ _) _⟩
theorem jg (num den:Int) (w:World) (hd:den≠0) (hn:(num.natAbs:Int)≤9223372036854775807) (hm:(den.natAbs:Int)≤9223372036854775807) :
  Calls Tryz.prog 115 #[.int .i64 num,.int .i64 den] w fun e w'=>∃ t:ByteArray,e=.returned (.string t)∧aG t (Rat.divInt num den)∧Kept w w':=by
 by_cases h:num < -4000000000000000000∨num>4000000000000000000∨den < -4000000000000000000∨den>4000000000000000000
 ·exact BW num den w hd hn hm h
 ·exact BX num den w hd h
def Small (a b:Int):Prop:=a.natAbs<1000000000∧b.natAbs<1000000000
theorem iK (s:ByteArray) (x:Rat) (w:World) (h:aG s x) :
  Calls Tryz.prog 114 #[.string s] w fun e w'=>((e=.returned (.tuple #[.int .i64 x.num,.int .i64 (x.den:Int),.bool true])∧Small x.num x.den)∨e=.returned (.tuple #[.int .i64 0,.int .i64 0,.bool false]))∧∃ q,w'=w.drewN q:=by
 refine (Ba s x w h).mono ?_
 rintro e w' ⟨⟨h1,h2,h3⟩|h1,hq⟩
 ·exact⟨.inl ⟨h1,h2,by rw[Int.natAbs_natCast];exact h3⟩,hq⟩
 ·exact⟨.inr h1,hq⟩
theorem fg {a b:Int} (ha:a.natAbs<1000000000) (hb:b.natAbs<1000000000):(a*b).natAbs<1000000000000000000:=by
 rw[Int.natAbs_mul]
 exact Nat.lt_of_lt_of_le (Nat.mul_lt_mul'' ha hb) (by decide)
theorem jV {a:Int} (h:a.natAbs<3000000000000000000):wrap64 a=a:=IntWalk.wrap64_in _ (by omega)
theorem bN {a b:Int} {k l:Nat} (ha:a.natAbs<10^k) (hb:b.natAbs<10^l):(a*b).natAbs<10^(k+l):=by
 rw[Int.natAbs_mul,Nat.pow_add];exact Nat.mul_lt_mul'' ha hb
theorem pU {n k:Nat} (h:n<10^k):((n:Nat):Int).natAbs<10^k:=by rw[Int.natAbs_natCast];exact h
theorem IX {a b:Int} {k:Nat} (ha:a.natAbs<10^k) (hb:b.natAbs<10^k):(a+b).natAbs<10^(k+1):=by
 have:=Int.natAbs_add_le a b
 rw[Nat.pow_succ];omega
theorem den_mul (x y:Rat):(x.den:Int)*(y.den:Int)≠0:=by
 have:=x.den_nz
 have:=y.den_nz
 intro h
 rcases Int.mul_eq_zero.1 h with h|h<;>omega
theorem Ih (x y:Rat):Rat.divInt (x.num*y.den+y.num*x.den) ((x.den:Int)*y.den)=x+y:=by
 rw[←Int.natCast_mul,Rat.divInt_ofNat,←Rat.add_def']
theorem vI (x y:Rat):Rat.divInt (x.num*y.num) ((x.den:Int)*y.den)=x*y:=by
 rw[←Int.natCast_mul,Rat.divInt_ofNat,←Rat.mul_def']
end Go.Proofs.YtjbcmmaniphkkaaGreatDoor.D
