import Derived.Test.YtjbcmmaniphkkaaGreatDoorRl
set_option linter.unusedSectionVars false
set_option linter.unusedVariables false
set_option linter.unusedSimpArgs false
set_option maxRecDepth 100000
set_option maxHeartbeats 4000000
namespace Go.Proofs.YtjbcmmaniphkkaaGreatDoor.D
open Go.RowKit DigNum
theorem Gm {x:Rat}:Rat.divInt (x.den:Int) x.num=x⁻¹:=(Rat.inv_def x).symm
theorem uc (s t:ByteArray) (x y:Rat) (k l:Nat) (w:World) (hx:aG s x) (hy:aG t y) (bx:Bd x k) (bl:Bd y l) (hk:k≤1000000) (hl:l≤1000000) :
  Calls Tryz.prog 49 #[.string s,.string t] w fun e w'=>∃ u:ByteArray,e=.returned (.string u)∧aG u (x-y)∧Kept w w':=by
 have HN:=K7 fun w'=>BS t y w' hy (by rw[hy.size];have:=gC bl;omega)
 have HA:=K7 fun u w' (hu:aG u (-y))=>BJ s u x (-y) k l w' hx hu bx (wQ bl) hk hl
 rw[←Rat.sub_eq_add_neg] at HA
 clear hx hy bx bl hk hl
 go_enter Tryz.func49,Tryz.ntmps49
 go_wp2_with fail
 refine (HN.out _).mono ?_
 rintro e w2 ⟨u,rfl,hu,rfl⟩
 go_wp2_with fail
 refine (HA.out _ _ hu).mono ?_
 rintro e w2 ⟨v,rfl,hv,hk⟩
 have HV:=K7 hv
 clear HN HA hu hv
 go_wp2
 go_ret
 exact⟨_,rfl,HV.out,hk⟩
theorem pc (s:ByteArray) (x:Rat) (k:Nat) (w:World) (hx:aG s x) (bx:Bd x k) (hk:k≤1000000) (h0:x≠0) :
  Calls Tryz.prog 119 #[.string s] w fun e w'=>∃ u:ByteArray,e=.returned (.string u)∧aG u (x⁻¹)∧Kept w w':=by
 have HP:=K7 fun w'=>ib s x w' hx (by rw[hx.size];have:=gC bx;omega)
 have HF:=K7 fun va vb w' (h1:Big w' va (x.den:Int)) (h2:Big w' vb x.num)=>fm va vb x.den x.num w' h1 h2 (fun h=>h0 (Rat.num_eq_zero.1 h)) (Nat.le_trans (bt (pU bx.2)) (by omega)) (Nat.le_trans (bt bx.1) (by omega))
 rw[Gm] at HF
 clear hx bx hk h0
 generalize x.num=a at *
 generalize (x.den:Int)=b at *
 go_enter Tryz.func119,Tryz.ntmps119
 go_wp2_with fail
 refine (HP.out _).mono ?_
 rintro e w2 ⟨v1,v2,rfl,hv1,hv2,hk⟩
 obtain⟨s1,a1,n1,c1,rfl⟩:=aM hv1
 obtain⟨s2,a2,n2,c2,rfl⟩:=aM hv2
 obtain⟨hk2,B1,B2⟩:=bp w2 [.bool s1,.slice a1 n1 c1] [.bool s2,.slice a2 n2 c2] 117 117
 have q1:=B1.cell 0 rfl
 have q2:=B1.cell 1 rfl
 have q3:=B2.cell 0 rfl
 have q4:=B2.cell 1 rfl
 clear HP
 go_wp2_with fail
 have hv1:=hv1.kept hk2
 have hv2:=hv2.kept hk2
 have hk:=Kept.comp _ _ _ hk hk2
 generalize (w2.alloc (.cells [.bool s1,.slice a1 n1 c1].toArray _)).alloc (.cells [.bool s2,.slice a2 n2 c2].toArray _)=u2 at *
 refine (HF.out _ _ _ hv2 hv1).mono ?_
 rintro e w3 ⟨v,rfl,hv,hk3⟩
 have hk:=Kept.comp _ _ _ hk hk3
 have HV:=K7 hv
 clear HF hv hv1 hv2 hk2 hk3 B1 B2 q1 q2 q3 q4
 go_wp2
 go_ret
 exact⟨_,rfl,HV.out,hk⟩
theorem BL (s t:ByteArray) (x y:Rat) (k l:Nat) (w:World) (hx:aG s x) (hy:aG t y) (bx:Bd x k) (bl:Bd y l) (hk:k≤1000000) (hl:l≤1000000) :
  Calls Tryz.prog 48 #[.string s,.string t] w fun e w'=>e=.returned (.int .i64 (x-y).num.sign)∧Kept w w':=by
 have HN:=K7 fun w'=>uc s t x y k l w' hx hy bx bl hk hl
 have HA:=K7 fun u w' (hu:aG u (x-y))=>bZ u (x-y) w' hu
 clear hx hy bx bl hk hl
 generalize x-y=z at *
 generalize z.num.sign=g at *
 go_enter Tryz.func48,Tryz.ntmps48
 go_wp2_with fail
 refine (HN.out _).mono ?_
 rintro e w2 ⟨u,rfl,hu,hk1⟩
 go_wp2_with fail
 refine (HA.out _ _ hu).mono ?_
 rintro e w3 ⟨rfl,rfl⟩
 clear HN HA hu
 go_wp2
 go_ret
 exact⟨rfl,hk1⟩
theorem iL {t:ByteArray} (h:bG (chs t)=true):aN t (aL (chs t):Nat):=by
 show chs t=bB _
 rw[di];exact du.1 h
theorem uF (s:ByteArray):s.extract 0 s.size=s:=iF (by rw[aC,List.drop_zero,List.take_of_length_le (by rw[ah];omega)])
theorem jK {t:ByteArray} {n k:Nat} (h:aN t (n:Int)) (hk:t.size≤k):n<10^k:=by
 have:=h.size
 rw[bw,if_neg (by omega),Int.natAbs_natCast] at this
 have h1:=dx n
 exact Nat.lt_of_lt_of_le h1 (Nat.pow_le_pow_right (by decide) (by omega))
theorem uw {s t:ByteArray} {neg:Bool} {k:Nat} (hn:decide ((chs s).getD 0 0=45)=neg) (ht:chs t=aE (chs s)) (hk:aq (chs t)=k) :
  cX (chs s)=if (!bG (chs (t.extract 0 k)) || (neg&&((t.extract 0 k).toList==[48])))=true then 1
   else if (decide (k<t.size)&&(!bG (chs (t.extract (k+1) t.size)) || ((t.extract (k+1) t.size).toList==[48]) || ((t.extract (k+1) t.size).toList==[49])))=true then 1
   else if (decide (600<k) || decide (600<t.size-k-1))=true then 4
   else if (decide (k<t.size) && !decide (Nat.gcd (aL (chs (t.extract 0 k))) (aL (chs (t.extract (k+1) t.size)))=1))=true then 1
   else 0:=by
 have e1:chs (t.extract 0 k)=(chs t).take k:=by rw[aC,List.drop_zero,Nat.sub_zero]
 have e2:chs (t.extract (k+1) t.size)=(chs t).drop (k+1):=by rw[aC,List.take_of_length_le (by rw[List.length_drop,ah];omega)]
 unfold cX
 rw[cE,cE,cE,e1,e2,←ht,hk,hn,ah]
 rfl
theorem zG (s:ByteArray) (w:World) (hm:s.size≤1000000) (hp:0<s.size) (hh:((s[0].toNat:Int)==45)=true) :
  Calls Tryz.prog 9 #[.string s] w fun e w'=>e=.returned (.int .i64 ((cX (chs s):Nat):Int))∧Kept w w':=by
 have hneg:decide ((chs s).getD 0 0=45)=true:=by
  rw[bP hp]
  have:=eq_of_beq hh
  rw[decide_eq_true_eq];omega
 have hbody:chs (s.extract 1 s.size)=aE (chs s):=by
  unfold aE
  rw[if_pos (of_decide_eq_true hneg),aC,List.take_of_length_le (by rw[List.length_drop,ah];omega)]
 obtain⟨k,hk⟩:∃ k,aq (chs (s.extract 1 s.size))=k:=⟨_,rfl⟩
 have H:=K7 (uw hneg hbody hk)
 have hS:=K7 fun w'=>dz (s.extract 1 s.size) w' (by rw[←ah,aC,List.length_take];omega)
 rw[hk] at hS
 have Hkl:=K7 (show k≤((s.extract 1 s.size)).size by have h:=fB (chs (s.extract 1 s.size));rw[hk,ah] at h;exact h)
 have Htl:=K7 (show ((s.extract 1 s.size)).size≤1000000 by rw[←ah,aC,List.length_take];omega)
 have Hks:=K7 hk
 clear hneg hbody hk
 generalize cX (chs s)=z at *
 go_enter Tryz.func9,Tryz.ntmps9
 go_wp2_with fail
 refine (hS.out _).mono ?_
 rintro e w2 ⟨rfl,q,rfl⟩
 clear hS
 generalize s.extract 1 s.size=s' at *
 have hk:=Hks.out
 have hkl:=Hkl.out
 have htl:=Htl.out
 have H:=H.out
 clear Hks Hkl Htl
 have HP:=K7 fun n d w' hle h1 h2=>kU s' k n d w' hk hle h1 h2 (by omega)
 have htopz:((s').extract 0 k).size≤1000000:=by rw[←ah,aC,List.length_take];omega
 have hbotz:((s').extract (k+1) (s').size).size≤1000000:=by rw[←ah,aC,List.length_take];omega
 have HT:=K7 fun w'=>cS ((s').extract 0 k) w' (by omega)
 have HB:=K7 fun w'=>cS ((s').extract (k+1) (s').size) w' (by omega)
 have F1:=K7 fun h=>iL (t:=(s').extract 0 k) h
 have F2:=K7 fun h=>iL (t:=(s').extract (k+1) (s').size) h
 have Z1:=K7 fun n (h:aN ((s').extract 0 k) (n:Nat))=>Nat.le_trans (bt (jK h htopz)) (show 1000000≤536870912 by omega)
 have Z2:=K7 fun n (h:aN ((s').extract (k+1) (s').size) (n:Nat))=>Nat.le_trans (bt (jK h hbotz)) (show 1000000≤536870912 by omega)
 clear htopz hbotz hk
 generalize aL (chs ((s').extract 0 k))=N at *
 generalize aL (chs ((s').extract (k+1) (s').size))=M at *
 generalize bG (chs ((s').extract 0 k))=T at *
 generalize bG (chs ((s').extract (k+1) (s').size))=B at *
 have hkl':¬(s').size<k:=by omega
 have Hh:=K7 H
 clear H
 go_wp2_with fail
 refine (HT.out _).mono ?_
 rintro e w2 ⟨rfl,q1,rfl⟩
 clear HT
 have H:=Hh.out
 clear Hh
 cases T
 case false=>
  have HR:=K7 (H.trans rfl)
  clear H HP HB F1 F2
  have hk:=ar (Below.refl _ w) (q+q1)
  go_wp2
  go_ret
  exact⟨congrArg (fun n:Nat=>Ending.returned (Value.int .i64 (n:Int))) HR.out.symm,hk⟩
 case true=>
 cases htop:((s').extract 0 k).toList==[48]
 case true=>
  have HR:=K7 (H.trans (by rw[htop]<;>rfl))
  clear H HP HB F1 F2
  have hk:=ar (Below.refl _ w) (q+q1)
  go_wp2
  go_ret
  exact⟨congrArg (fun n:Nat=>Ending.returned (Value.int .i64 (n:Int))) HR.out.symm,hk⟩
 case false=>
 rw[htop] at H
 have HF1:=K7 (F1.out rfl)
 clear F1
 by_cases hlt:k<(s').size
 ·rw[decide_eq_true hlt] at H
  have hlt1:¬(s').size<k+1:=by omega
  have hlti:((k:Int)<((s').size:Int)):=by omega
  have x1:IntKind.i64.wrap ((k:Int)+1)=((k+1:Nat):Int):=by rw[IntWalk.i64_in _ (by omega)];omega
  have hlt2:¬(((s').size:Int)<(k:Int)+1):=by omega
  have Hh:=K7 H
  clear H
  go_wp2_with fail
  refine (HB.out _).mono ?_
  rintro e w2 ⟨rfl,q2,rfl⟩
  clear HB
  have hk:=ar (Below.refl _ w) (q+q1+q2)
  have H:=Hh.out
  clear Hh
  cases B
  case false=>
   have HR:=K7 (H.trans rfl)
   clear H HP F2 HF1
   go_wp2
   go_ret
   exact⟨congrArg (fun n:Nat=>Ending.returned (Value.int .i64 (n:Int))) HR.out.symm,hk⟩
  case true=>
  cases hb0:((s').extract (k+1) (s').size).toList==[48]
  case true=>
   have HR:=K7 (H.trans (by rw[hb0]<;>rfl))
   clear H HP F2 HF1
   go_wp2
   go_ret
   exact⟨congrArg (fun n:Nat=>Ending.returned (Value.int .i64 (n:Int))) HR.out.symm,hk⟩
  case false=>
  rw[hb0] at H
  cases hb1:((s').extract (k+1) (s').size).toList==[49]
  case true=>
   have HR:=K7 (H.trans (by rw[hb1]<;>rfl))
   clear H HP F2 HF1
   go_wp2
   go_ret
   exact⟨congrArg (fun n:Nat=>Ending.returned (Value.int .i64 (n:Int))) HR.out.symm,hk⟩
  case false=>
  rw[hb1] at H
  have HF2:=K7 (F2.out rfl)
  clear F2
  have x2:IntKind.i64.wrap (((s').size:Int)-(k:Int))=(((s').size-k:Nat):Int):=by rw[IntWalk.i64_in _ (by omega)];omega
  have x3:IntKind.i64.wrap ((((s').size-k:Nat):Int)-1)=(((s').size-k-1:Nat):Int):=by rw[IntWalk.i64_in _ (by omega)];omega
  have hmk:=K7 (show k+1≤(s').size by omega)
  have hr6:(s').size-k-1≤1000000:=by omega
  have hp6:(s').size-k≤1000000:=by omega
  obtain⟨r,hr⟩:∃ r,(s').size-k-1=r:=⟨_,rfl⟩
  obtain⟨p,hpk⟩:∃ p,(s').size-k=p:=⟨_,rfl⟩
  rw[hr] at H hr6
  rw[hpk] at x2 hp6
  rw[hr,hpk] at x3
  clear hr hpk
  by_cases h6:600<k
  ·have HR:=K7 (H.trans (by rw[decide_eq_true h6]<;>rfl))
   have h6i:((k:Int)>600):=by omega
   clear H HP HF1 HF2
   go_wp2
   go_ret
   exact⟨congrArg (fun n:Nat=>Ending.returned (Value.int .i64 (n:Int))) HR.out.symm,hk⟩
  have h6i:¬((k:Int)>600):=by omega
  rw[decide_eq_false h6] at H
  by_cases h7:600<r
  ·have HR:=K7 (H.trans (by rw[decide_eq_true h7]<;>rfl))
   have h7i:((r:Int)>600):=by omega
   clear H HP HF1 HF2
   go_wp2
   go_ret
   exact⟨congrArg (fun n:Nat=>Ending.returned (Value.int .i64 (n:Int))) HR.out.symm,hk⟩
  have h7i:¬((r:Int)>600):=by omega
  rw[decide_eq_false h7] at H
  have HP:=K7 fun w'=>HP.out N M w' hmk.out HF1.out HF2.out
  have HC:=K7 fun l1 l2 w' h1 h2=>kD l1 l2 N M w' h1 h2 (Z1.out _ HF1.out) (Z2.out _ HF2.out)
  have HNat:Hid (((N:Nat):Int).natAbs=N∧((M:Nat):Int).natAbs=M):=K7 ⟨Int.natAbs_natCast _,Int.natAbs_natCast _⟩
  have Hh:=K7 H
  clear HF1 HF2 hmk H Z1 Z2
  go_wp2_with fail
  generalize w.drewN (q+q1+q2)=u0 at *
  refine (HP.out _).mono ?_
  rintro e u1 ⟨v1,v2,rfl,hv1,hv2,hk1⟩
  have hk:=Kept.comp _ _ _ hk hk1
  obtain⟨s1,a1,n1,c1,rfl⟩:=aM hv1
  obtain⟨s2,a2,n2,c2,rfl⟩:=aM hv2
  obtain⟨hk2,B1,B2⟩:=bp u1 [.bool s1,.slice a1 n1 c1] [.bool s2,.slice a2 n2 c2] 117 117
  have q1':=B1.cell 0 rfl
  have q2':=B1.cell 1 rfl
  have q3':=B2.cell 0 rfl
  have q4':=B2.cell 1 rfl
  clear HP hk1
  go_wp2_with fail
  have hv1:=hv1.kept hk2
  have hv2:=hv2.kept hk2
  have hk:=Kept.comp _ _ _ hk hk2
  generalize (u1.alloc (.cells [.bool s1,.slice a1 n1 c1].toArray _)).alloc (.cells [.bool s2,.slice a2 n2 c2].toArray _)=u2 at *
  have hL1:=hv1.int.2
  have hL2:=hv2.int.2
  rw[HNat.out.1] at hL1
  rw[HNat.out.2] at hL2
  refine (HC.out _ _ _ hL1 hL2).mono ?_
  rintro e u3 ⟨vg,rfl,hg,hk3⟩
  have hk:=Kept.comp _ _ _ hk hk3
  have H:=Hh.out
  clear HC hv1 hv2 hk2 hk3 B1 B2 q1' q2' q3' q4' hL1 hL2 Hh
  obtain⟨g,hg0⟩:∃ g,Nat.gcd N M=g:=⟨_,rfl⟩
  rw[hg0] at hg
  simp only[hg0] at H
  clear hg0
  obtain⟨a6,c6,e6,o6⟩:=lS hg
  by_cases hg1:g=1
  ·have HR:=K7 (H.trans (by rw[hg1]<;>rfl))
   rw[hg1] at o6 e6
   rw[(cH (n:=1) (by decide) (by decide)).1,(cH (n:=1) (by decide) (by decide)).2] at o6
   rw[(cH (n:=1) (by decide) (by decide)).2] at e6
   obtain⟨b6,f6,rfl,o7⟩:=o6 (by decide)
   clear o6
   have o6:=o7 0 (by decide)
   clear o7
   change _=some (Value.int .i64 1) at o6
   rw[Nat.add_zero] at o6
   subst e6
   clear hg hg1 H
   go_wp2
   go_ret
   exact⟨congrArg (fun n:Nat=>Ending.returned (Value.int .i64 (n:Int))) HR.out.symm,hk⟩
  ·have HR:=K7 (H.trans (by rw[decide_eq_false hg1]<;>rfl))
   by_cases hs1:size g=1
   ·have hio:=tj hs1
    rw[hs1] at e6
    obtain⟨b6,f6,rfl,o7⟩:=o6 (by omega)
    clear o6
    have o6:=o7 0 (by omega)
    clear o7
    rw[hio,Nat.add_zero] at o6
    subst e6
    have hnb:((g:Int)==1)=false:=by rw[beq_eq_false_iff_ne];omega
    clear hg hs1 hio hg1 H
    go_wp2
    go_ret
    exact⟨congrArg (fun n:Nat=>Ending.returned (Value.int .i64 (n:Int))) HR.out.symm,hk⟩
   ·subst e6
    have hnb:¬(((size g:Nat):Int)=1):=by omega
    have hnb2:(((size g:Nat):Int) != 1)=true:=by rw[bne_iff_ne];exact hnb
    clear hg o6 hg1 hs1 H
    generalize size g=zz at *
    go_wp2
    go_ret
    exact⟨congrArg (fun n:Nat=>Ending.returned (Value.int .i64 (n:Int))) HR.out.symm,hk⟩
 ·have hltd:decide (k<(s').size)=false:=decide_eq_false hlt
  have hlti:¬((k:Int)<((s').size:Int)):=by omega
  have x2:IntKind.i64.wrap (((s').size:Int)-(k:Int))=0:=by rw[IntWalk.i64_in _ (by omega)];omega
  have hz0:(s').size-k-1=0:=by omega
  rw[hltd,hz0] at H
  have hk:=ar (Below.refl _ w) (q+q1)
  clear hltd hz0 hlt HP HB F2 HF1
  by_cases h6:600<k
  ·have HR:=K7 (H.trans (by rw[decide_eq_true h6]<;>rfl))
   have h6i:((k:Int)>600):=by omega
   clear H
   go_wp2
   go_ret
   exact⟨congrArg (fun n:Nat=>Ending.returned (Value.int .i64 (n:Int))) HR.out.symm,hk⟩
  ·have HR:=K7 (H.trans (by rw[decide_eq_false h6]<;>rfl))
   have h6i:¬((k:Int)>600):=by omega
   clear H
   go_wp2
   go_ret
   exact⟨congrArg (fun n:Nat=>Ending.returned (Value.int .i64 (n:Int))) HR.out.symm,hk⟩
theorem zH (s:ByteArray) (w:World) (hm:s.size≤1000000) (hp:0<s.size) (hh:((s[0].toNat:Int)==45)=false) :
  Calls Tryz.prog 9 #[.string s] w fun e w'=>e=.returned (.int .i64 ((cX (chs s):Nat):Int))∧Kept w w':=by
 have hneg:decide ((chs s).getD 0 0=45)=false:=by
  rw[bP hp]
  have:=ne_of_beq_false hh
  rw[decide_eq_false_iff_not];omega
 have hbody:chs s=aE (chs s):=by
  unfold aE
  rw[if_neg (of_decide_eq_false hneg)]
 obtain⟨k,hk⟩:∃ k,aq (chs s)=k:=⟨_,rfl⟩
 have H:=K7 (uw hneg hbody hk)
 have hS:=K7 fun w'=>dz s w' (by omega)
 rw[hk] at hS
 have Hkl:=K7 (show k≤(s).size by have h:=fB (chs s);rw[hk,ah] at h;exact h)
 have Htl:=K7 (show (s).size≤1000000 by omega)
 have Hks:=K7 hk
 clear hneg hbody hk
 generalize cX (chs s)=z at *
 go_enter Tryz.func9,Tryz.ntmps9
 go_wp2_with fail
 refine (hS.out _).mono ?_
 rintro e w2 ⟨rfl,q,rfl⟩
 clear hS
 skip
 have hk:=Hks.out
 have hkl:=Hkl.out
 have htl:=Htl.out
 have H:=H.out
 clear Hks Hkl Htl
 have HP:=K7 fun n d w' hle h1 h2=>kU s k n d w' hk hle h1 h2 (by omega)
 have htopz:((s).extract 0 k).size≤1000000:=by rw[←ah,aC,List.length_take];omega
 have hbotz:((s).extract (k+1) (s).size).size≤1000000:=by rw[←ah,aC,List.length_take];omega
 have HT:=K7 fun w'=>cS ((s).extract 0 k) w' (by omega)
 have HB:=K7 fun w'=>cS ((s).extract (k+1) (s).size) w' (by omega)
 have F1:=K7 fun h=>iL (t:=(s).extract 0 k) h
 have F2:=K7 fun h=>iL (t:=(s).extract (k+1) (s).size) h
 have Z1:=K7 fun n (h:aN ((s).extract 0 k) (n:Nat))=>Nat.le_trans (bt (jK h htopz)) (show 1000000≤536870912 by omega)
 have Z2:=K7 fun n (h:aN ((s).extract (k+1) (s).size) (n:Nat))=>Nat.le_trans (bt (jK h hbotz)) (show 1000000≤536870912 by omega)
 clear htopz hbotz hk
 generalize aL (chs ((s).extract 0 k))=N at *
 generalize aL (chs ((s).extract (k+1) (s).size))=M at *
 generalize bG (chs ((s).extract 0 k))=T at *
 generalize bG (chs ((s).extract (k+1) (s).size))=B at *
 have hkl':¬(s).size<k:=by omega
 have Hh:=K7 H
 clear H
 go_wp2_with fail
 refine (HT.out _).mono ?_
 rintro e w2 ⟨rfl,q1,rfl⟩
 clear HT
 have H:=Hh.out
 clear Hh
 cases T
 case false=>
  have HR:=K7 (H.trans rfl)
  clear H HP HB F1 F2
  have hk:=ar (Below.refl _ w) (q+q1)
  go_wp2
  go_ret
  exact⟨congrArg (fun n:Nat=>Ending.returned (Value.int .i64 (n:Int))) HR.out.symm,hk⟩
 case true=>
 have HF1:=K7 (F1.out rfl)
 clear F1
 by_cases hlt:k<(s).size
 ·rw[decide_eq_true hlt] at H
  have hlt1:¬(s).size<k+1:=by omega
  have hlti:((k:Int)<((s).size:Int)):=by omega
  have x1:IntKind.i64.wrap ((k:Int)+1)=((k+1:Nat):Int):=by rw[IntWalk.i64_in _ (by omega)];omega
  have hlt2:¬(((s).size:Int)<(k:Int)+1):=by omega
  have Hh:=K7 H
  clear H
  go_wp2_with fail
  refine (HB.out _).mono ?_
  rintro e w2 ⟨rfl,q2,rfl⟩
  clear HB
  have hk:=ar (Below.refl _ w) (q+q1+q2)
  have H:=Hh.out
  clear Hh
  cases B
  case false=>
   have HR:=K7 (H.trans rfl)
   clear H HP F2 HF1
   go_wp2
   go_ret
   exact⟨congrArg (fun n:Nat=>Ending.returned (Value.int .i64 (n:Int))) HR.out.symm,hk⟩
  case true=>
  cases hb0:((s).extract (k+1) (s).size).toList==[48]
  case true=>
   have HR:=K7 (H.trans (by rw[hb0]<;>rfl))
   clear H HP F2 HF1
   go_wp2
   go_ret
   exact⟨congrArg (fun n:Nat=>Ending.returned (Value.int .i64 (n:Int))) HR.out.symm,hk⟩
  case false=>
  rw[hb0] at H
  cases hb1:((s).extract (k+1) (s).size).toList==[49]
  case true=>
   have HR:=K7 (H.trans (by rw[hb1]<;>rfl))
   clear H HP F2 HF1
   go_wp2
   go_ret
   exact⟨congrArg (fun n:Nat=>Ending.returned (Value.int .i64 (n:Int))) HR.out.symm,hk⟩
  case false=>
  rw[hb1] at H
  have HF2:=K7 (F2.out rfl)
  clear F2
  have x2:IntKind.i64.wrap (((s).size:Int)-(k:Int))=(((s).size-k:Nat):Int):=by rw[IntWalk.i64_in _ (by omega)];omega
  have x3:IntKind.i64.wrap ((((s).size-k:Nat):Int)-1)=(((s).size-k-1:Nat):Int):=by rw[IntWalk.i64_in _ (by omega)];omega
  have hmk:=K7 (show k+1≤(s).size by omega)
  have hr6:(s).size-k-1≤1000000:=by omega
  have hp6:(s).size-k≤1000000:=by omega
  obtain⟨r,hr⟩:∃ r,(s).size-k-1=r:=⟨_,rfl⟩
  obtain⟨p,hpk⟩:∃ p,(s).size-k=p:=⟨_,rfl⟩
  rw[hr] at H hr6
  rw[hpk] at x2 hp6
  rw[hr,hpk] at x3
  clear hr hpk
  by_cases h6:600<k
  ·have HR:=K7 (H.trans (by rw[decide_eq_true h6]<;>rfl))
   have h6i:((k:Int)>600):=by omega
   clear H HP HF1 HF2
   go_wp2
   go_ret
   exact⟨congrArg (fun n:Nat=>Ending.returned (Value.int .i64 (n:Int))) HR.out.symm,hk⟩
  have h6i:¬((k:Int)>600):=by omega
  rw[decide_eq_false h6] at H
  by_cases h7:600<r
  ·have HR:=K7 (H.trans (by rw[decide_eq_true h7]<;>rfl))
   have h7i:((r:Int)>600):=by omega
   clear H HP HF1 HF2
   go_wp2
   go_ret
   exact⟨congrArg (fun n:Nat=>Ending.returned (Value.int .i64 (n:Int))) HR.out.symm,hk⟩
  have h7i:¬((r:Int)>600):=by omega
  rw[decide_eq_false h7] at H
  have HP:=K7 fun w'=>HP.out N M w' hmk.out HF1.out HF2.out
  have HC:=K7 fun l1 l2 w' h1 h2=>kD l1 l2 N M w' h1 h2 (Z1.out _ HF1.out) (Z2.out _ HF2.out)
  have HNat:Hid (((N:Nat):Int).natAbs=N∧((M:Nat):Int).natAbs=M):=K7 ⟨Int.natAbs_natCast _,Int.natAbs_natCast _⟩
  have Hh:=K7 H
  clear HF1 HF2 hmk H Z1 Z2
  go_wp2_with fail
  generalize w.drewN (q+q1+q2)=u0 at *
  refine (HP.out _).mono ?_
  rintro e u1 ⟨v1,v2,rfl,hv1,hv2,hk1⟩
  have hk:=Kept.comp _ _ _ hk hk1
  obtain⟨s1,a1,n1,c1,rfl⟩:=aM hv1
  obtain⟨s2,a2,n2,c2,rfl⟩:=aM hv2
  obtain⟨hk2,B1,B2⟩:=bp u1 [.bool s1,.slice a1 n1 c1] [.bool s2,.slice a2 n2 c2] 117 117
  have q1':=B1.cell 0 rfl
  have q2':=B1.cell 1 rfl
  have q3':=B2.cell 0 rfl
  have q4':=B2.cell 1 rfl
  clear HP hk1
  go_wp2_with fail
  have hv1:=hv1.kept hk2
  have hv2:=hv2.kept hk2
  have hk:=Kept.comp _ _ _ hk hk2
  generalize (u1.alloc (.cells [.bool s1,.slice a1 n1 c1].toArray _)).alloc (.cells [.bool s2,.slice a2 n2 c2].toArray _)=u2 at *
  have hL1:=hv1.int.2
  have hL2:=hv2.int.2
  rw[HNat.out.1] at hL1
  rw[HNat.out.2] at hL2
  refine (HC.out _ _ _ hL1 hL2).mono ?_
  rintro e u3 ⟨vg,rfl,hg,hk3⟩
  have hk:=Kept.comp _ _ _ hk hk3
  have H:=Hh.out
  clear HC hv1 hv2 hk2 hk3 B1 B2 q1' q2' q3' q4' hL1 hL2 Hh
  obtain⟨g,hg0⟩:∃ g,Nat.gcd N M=g:=⟨_,rfl⟩
  rw[hg0] at hg
  simp only[hg0] at H
  clear hg0
  obtain⟨a6,c6,e6,o6⟩:=lS hg
  by_cases hg1:g=1
  ·have HR:=K7 (H.trans (by rw[hg1]<;>rfl))
   rw[hg1] at o6 e6
   rw[(cH (n:=1) (by decide) (by decide)).1,(cH (n:=1) (by decide) (by decide)).2] at o6
   rw[(cH (n:=1) (by decide) (by decide)).2] at e6
   obtain⟨b6,f6,rfl,o7⟩:=o6 (by decide)
   clear o6
   have o6:=o7 0 (by decide)
   clear o7
   change _=some (Value.int .i64 1) at o6
   rw[Nat.add_zero] at o6
   subst e6
   clear hg hg1 H
   go_wp2
   go_ret
   exact⟨congrArg (fun n:Nat=>Ending.returned (Value.int .i64 (n:Int))) HR.out.symm,hk⟩
  ·have HR:=K7 (H.trans (by rw[decide_eq_false hg1]<;>rfl))
   by_cases hs1:size g=1
   ·have hio:=tj hs1
    rw[hs1] at e6
    obtain⟨b6,f6,rfl,o7⟩:=o6 (by omega)
    clear o6
    have o6:=o7 0 (by omega)
    clear o7
    rw[hio,Nat.add_zero] at o6
    subst e6
    have hnb:((g:Int)==1)=false:=by rw[beq_eq_false_iff_ne];omega
    clear hg hs1 hio hg1 H
    go_wp2
    go_ret
    exact⟨congrArg (fun n:Nat=>Ending.returned (Value.int .i64 (n:Int))) HR.out.symm,hk⟩
   ·subst e6
    have hnb:¬(((size g:Nat):Int)=1):=by omega
    have hnb2:(((size g:Nat):Int) != 1)=true:=by rw[bne_iff_ne];exact hnb
    clear hg o6 hg1 hs1 H
    generalize size g=zz at *
    go_wp2
    go_ret
    exact⟨congrArg (fun n:Nat=>Ending.returned (Value.int .i64 (n:Int))) HR.out.symm,hk⟩
 ·have hltd:decide (k<(s).size)=false:=decide_eq_false hlt
  have hlti:¬((k:Int)<((s).size:Int)):=by omega
  have x2:IntKind.i64.wrap (((s).size:Int)-(k:Int))=0:=by rw[IntWalk.i64_in _ (by omega)];omega
  have hz0:(s).size-k-1=0:=by omega
  rw[hltd,hz0] at H
  have hk:=ar (Below.refl _ w) (q+q1)
  clear hltd hz0 hlt HP HB F2 HF1
  by_cases h6:600<k
  ·have HR:=K7 (H.trans (by rw[decide_eq_true h6]<;>rfl))
   have h6i:((k:Int)>600):=by omega
   clear H
   go_wp2
   go_ret
   exact⟨congrArg (fun n:Nat=>Ending.returned (Value.int .i64 (n:Int))) HR.out.symm,hk⟩
  ·have HR:=K7 (H.trans (by rw[decide_eq_false h6]<;>rfl))
   have h6i:¬((k:Int)>600):=by omega
   clear H
   go_wp2
   go_ret
   exact⟨congrArg (fun n:Nat=>Ending.returned (Value.int .i64 (n:Int))) HR.out.symm,hk⟩
theorem wC (s:ByteArray) (w:World) (hp:s.size=0) :
  Calls Tryz.prog 9 #[.string s] w fun e w'=>e=.returned (.int .i64 ((cX (chs s):Nat):Int))∧Kept w w':=by
 obtain rfl:s=ByteArray.mk #[]:=iF (by
  have:(chs s).length=0:=by rw[ah];exact hp
  rw[List.length_eq_zero_iff.1 this];rfl)
 have HR:=K7 (show cX (chs (ByteArray.mk #[]))=1 from rfl)
 have hS:=K7 fun w'=>dz (ByteArray.mk #[]) w' (by decide)
 have HT:=K7 fun w'=>cS (ByteArray.mk #[]) w' (by decide)
 rw[show aq (chs (ByteArray.mk #[]))=0 from rfl] at hS
 rw[show bG (chs (ByteArray.mk #[]))=false from rfl] at HT
 have e0:(ByteArray.mk #[]).extract 0 0=ByteArray.mk #[]:=uF _
 go_enter Tryz.func9,Tryz.ntmps9
 go_wp2_with fail
 refine (hS.out _).mono ?_
 rintro e w2 ⟨rfl,q,rfl⟩
 clear hS
 go_wp2_with fail
 refine (HT.out _).mono ?_
 rintro e w2 ⟨rfl,q1,rfl⟩
 have hk:=ar (Below.refl _ w) (q+q1)
 clear HT
 go_wp2
 go_ret
 exact⟨congrArg (fun n:Nat=>Ending.returned (Value.int .i64 (n:Int))) HR.out.symm,hk⟩
theorem mz (s:ByteArray) (w:World) (hm:s.size≤1000000) :
  Calls Tryz.prog 9 #[.string s] w fun e w'=>e=.returned (.int .i64 ((cX (chs s):Nat):Int))∧Kept w w':=by
 by_cases hp:0<s.size
 ·cases hh:((s[0].toNat:Int)==45)
  ·exact zH s w hm hp hh
  ·exact zG s w hm hp hh
 ·exact wC s w (by omega)
end Go.Proofs.YtjbcmmaniphkkaaGreatDoor.D
