import Derived.Test.YtjbcmmaniphkkaaGreatDoorRd
set_option linter.unusedSectionVars false
set_option linter.unusedVariables false
set_option linter.unusedSimpArgs false
set_option maxRecDepth 100000
set_option maxHeartbeats 1000000
namespace Go.Proofs.YtjbcmmaniphkkaaGreatDoor.D
open Go.RowKit DigNum
theorem JK {x y:Nat} (h:x<y):ord x y<0:=by
 unfold ord
 rw[if_pos h];decide
theorem AW {y:Nat} (h:size y=1):ai y=[y]∧0<y∧y<DigNum.B:=by
 have h0:y≠0:=by
  intro h0;subst h0;simp[bW] at h
 have h1:y<DigNum.B:=by
  have:=lt_size y
  rwa [h,Nat.pow_one] at this
 refine ⟨?_,by omega,h1⟩
 rw[br h0,Nat.mod_eq_of_lt h1,Nat.div_eq_of_lt h1];rfl
theorem po (va vb:Value) (x y:Nat) (w:World) (ha:Lim w va x) (hb:Lim w vb y) (hx:size x≤536870912) (hlt:x<y) :
  Calls Tryz.prog 165 #[va,vb] w fun e w'=>∃ q r,e=.returned (.tuple #[q,r])∧Lim w' q (x/y)∧Lim w' r (x%y)∧Kept w w':=by
 have hord:=JK hlt
 have hC:=K7 fun w' (hk:Kept w w')=>aV va vb x y w' (ha.kept hk) (hb.kept hk) (by omega)
 rw[Nat.div_eq_of_lt hlt,Nat.mod_eq_of_lt hlt]
 obtain⟨ad1,c1,rfl,hc1,r1⟩:=id ha
 obtain⟨ad2,c2,rfl,hc2,r2⟩:=id hb
 generalize ord x y=od at *
 clear r1 r2 hc1 hc2
 go_enter Tryz.func165,Tryz.ntmps165
 go_wp2_with fail
 refine (hC.out _ (Below.refl _ _)).mono ?_
 rintro e w1 ⟨rfl,q1,rfl⟩
 go_wp2
 go_ret2
 exact⟨_,_,rfl,Lim.fe _,ha.kept (ar (Below.refl _ _) q1),ar (Below.refl _ _) q1⟩
theorem rl (va vb:Value) (x y:Nat) (w:World) (ha:Lim w va x) (hb:Lim w vb y) (hx:size x≤536870912) (hy:size y=1) (hle:y≤x) :
  Calls Tryz.prog 165 #[va,vb] w fun e w'=>∃ q r,e=.returned (.tuple #[q,r])∧Lim w' q (x/y)∧Lim w' r (x%y)∧Kept w w':=by
 have hord:=DU hle
 obtain⟨hl,hy0,hyB⟩:=AW hy
 have hC:=K7 fun w' (hk:Kept w w')=>aV va vb x y w' (ha.kept hk) (hb.kept hk) (by omega)
 have hD:=K7 fun w' (hk:Kept w w')=>lK va (ai x) y w' (ha.kept hk).row (ao _) (by show size x≤_;omega) hy0 hyB
 rw[au] at hD
 have hrow:=hb.row
 rw[hl] at hrow
 obtain⟨ad1,c1,rfl,hc1,r1⟩:=id ha
 obtain⟨ad2,c2,rfl,hc2,r2⟩:=hrow.opened
 obtain⟨b2,o2,rfl,hb2,hcb⟩:=r2 (by simp)
 have hct:=hcb 0 (by simp)
 rw[Nat.add_zero,show [y].getD 0 0=y from rfl] at hct
 change Calls _ _ #[_,.slice (some ⟨b2,o2,none⟩) 1 c2] w _
 change Hid (∀ w':World,Kept w w'→Calls _ _ #[_,.slice (some ⟨b2,o2,none⟩) 1 c2] w' _) at hC
 generalize ord x y=od at *
 have hxr:x%y<y:=Nat.mod_lt _ hy0
 clear r1 r2 hc1 hc2 hb hrow hl hcb ha
 generalize size x=nx at *
 generalize x%y=r at *
 generalize x/y=q at *
 go_enter Tryz.func165,Tryz.ntmps165
 go_wp2_with fail
 refine (hC.out _ (Below.refl _ _)).mono ?_
 rintro e w1 ⟨rfl,q1,rfl⟩
 have hk1:Kept w (w.drewN q1):=ar (Below.refl _ _) q1
 have hct1:(w.drewN q1).cell? ⟨b2,o2,none⟩=some (.int .i64 (y:Int)):=hct
 generalize w.drewN q1=w1 at *
 clear hct
 go_wp2_with fail
 refine (hD.out _ hk1).mono ?_
 rintro e w2 ⟨v,rfl,hq,hk2⟩
 go_wp2_with fail
 refine (fV _ [r] _ (row_one w2 r) (Fit.cons (by omega) Fit.nil) (by simp)).mono ?_
 rintro e w3 ⟨vr,rfl,hr,hk3⟩
 rw[show val [r]=r by simp[val]] at hr
 have hk4:=Kept.comp _ _ _ (bK w2 _) hk3
 have hq':=hq.kept hk4
 obtain⟨a5,c5,rfl,_⟩:=id hq'
 obtain⟨a6,c6,rfl,_⟩:=id hr
 go_wp2
 go_ret2
 exact⟨_,_,rfl,hq',hr,Kept.comp _ _ _ hk1 (Kept.comp _ _ _ hk2 hk4)⟩
theorem gH (va vb:Value) (x y:Nat) (w:World) (ha:Lim w va x) (hb:Lim w vb y) (hx:size x≤536870912) (hy:0<y) :
  Calls Tryz.prog 165 #[va,vb] w fun e w'=>∃ q r,e=.returned (.tuple #[q,r])∧Lim w' q (x/y)∧Lim w' r (x%y)∧Kept w w':=by
 rcases Nat.lt_or_ge x y with h|h
 ·exact po va vb x y w ha hb hx h
 ·have h0:0<size y:=im.2 hy
  by_cases h1:size y=1
  ·exact rl va vb x y w ha hb hx h1 h
  ·exact pq va vb x y w ha hb hx (by omega) h
end Go.Proofs.YtjbcmmaniphkkaaGreatDoor.D
namespace Go.Proofs.YtjbcmmaniphkkaaGreatDoor.D
open Go.RowKit DigNum
theorem Lim.inj {w:World} {v:Value} {m n:Nat} (h1:Lim w v m) (h2:Lim w v n):m=n:=by
 obtain⟨a1,c1,e1,_,r1⟩:=h1.row.opened
 obtain⟨a2,c2,e2,_,r2⟩:=h2.row.opened
 rw[e1] at e2
 simp only[Value.slice.injEq] at e2
 obtain⟨rfl,hl,rfl⟩:=e2
 rw[←au m,←au n]
 congr 1
 refine List.ext_getElem hl fun i h h'=>?_
 obtain⟨b1,o1,rfl,_,c1⟩:=r1 (by omega)
 obtain⟨b2,o2,e,_,c2⟩:=r2 (by omega)
 simp only[K5,Addr.mk.injEq,and_true] at e
 obtain⟨rfl,rfl⟩:=e
 have:=(c1 i h).symm.trans (c2 i h')
 simp only[K5,Value.int.injEq,true_and,List.getD_eq_getElem?_getD,List.getElem?_eq_getElem h,List.getElem?_eq_getElem h',Option.getD_some] at this
 omega
open Classical in
noncomputable def numOf (w:World) (v:Value):Nat:=if h:∃ n,Lim w v n then h.choose else 0
theorem ct {w:World} {v:Value} {n:Nat} (h:Lim w v n):numOf w v=n:=by
 have h':∃ n,Lim w v n:=⟨n,h⟩
 unfold numOf
 rw[dif_pos h']
 exact h'.choose_spec.inj h
theorem kD (va vb:Value) (x y:Nat) (w:World) (ha:Lim w va x) (hb:Lim w vb y) (hx:size x≤536870912) (hy:size y≤536870912) :
  Calls Tryz.prog 86 #[va,vb] w fun e w'=>∃ v,e=.returned v∧Lim w' v (Nat.gcd x y)∧Kept w w':=by
 go_enter Tryz.func86,Tryz.ntmps86
 have hk0:Kept w w:=Kept.rfl' w
 obtain⟨w0,hw0⟩:∃ w0:World,w0=w:=⟨_,rfl⟩
 rw[show Kept w w=Kept w0 w by rw[hw0]] at hk0
 have Hw0:=K7 hw0
 clear hw0
 go_wp2
 go_loopw [0,1,5,6] (fun u v _ _ wr=>∃ X Y:Nat,Lim wr u X∧Lim wr v Y∧Hid (Nat.gcd X Y=Nat.gcd x y∧size X≤536870912∧size Y≤536870912)∧Kept w0 wr) (fun _ v _ _ wr=>numOf wr v)
 case atStart=>exact⟨x,y,ha,hb,K7 ⟨rfl,hx,hy⟩,hk0⟩
 case round=>
  clear ha hb hk0
  obtain⟨X,Y,hu,hv,hh,hbel⟩:=hrel
  by_cases hY:Y=0
  ·subst hY
   obtain⟨g1,g2,g3⟩:=hh.out
   rw[Nat.gcd_zero_right] at g1
   have hu':=hu
   obtain⟨a2,c2,rfl,_⟩:=id hv
   obtain⟨a1,c1,rfl,_⟩:=id hu
   rw[bW]
   go_wp2
   go_ret
   exact⟨_,rfl,g1 ▸ hu',Hw0.out ▸ hbel⟩
  ·have hnum:=K7 (ct hv)
   obtain⟨g1,g2,g3⟩:=hh.out
   have hd:=K7 (gH _ _ X Y _ hu hv g2 (by omega))
   have hYp:0<size Y:=im.2 (by omega)
   obtain⟨a2,c2,rfl,_⟩:=id hv
   obtain⟨a1,c1,rfl,_⟩:=id hu
   go_wp2_with fail
   refine hd.out.mono ?_
   rintro e w7 ⟨q,r,rfl,hq,hr,hk7⟩
   have hv7:=hv.kept hk7
   have hlt:=Nat.mod_lt X (show Y>0 by omega)
   have R:=K7 (show Nat.gcd Y (X%Y)=Nat.gcd x y∧size Y≤536870912∧size (X%Y)≤536870912 from ⟨by rw[←g1,Nat.gcd_comm X Y,Nat.gcd_rec Y X,Nat.gcd_comm],g3,Nat.le_trans (aK (Nat.le_of_lt hlt)) g3⟩)
   obtain⟨a3,c3,rfl,_⟩:=id hq
   obtain⟨a4,c4,rfl,_⟩:=id hr
   have hk:Kept w0 w7:=Kept.comp _ _ _ hbel hk7
   have hn2:=K7 (ct hr)
   clear hq
   go_wp2
   go_roundw
   case rel=>exact⟨Y,X%Y,hv7,hr,R,hk⟩
   case measure=>rw[hn2.out,hnum.out];exact hlt
theorem Gi (a b:Nat) (w:World) (ha:(a:Int)≤9223372036854775807) (hb:(b:Int)≤9223372036854775807) :
  Calls Tryz.prog 182 #[.int .i64 a,.int .i64 b] w fun e w'=>e=.returned (.int .i64 ((Nat.gcd a b:Nat):Int))∧∃ q,w'=w.drewN q:=by
 go_enter Tryz.func182,Tryz.ntmps182
 go_wp2
 go_loopw [0,1] (fun u v wr=>∃ X Y:Nat,u=.int .i64 X∧v=.int .i64 Y∧Hid (Nat.gcd X Y=Nat.gcd a b)∧(X:Int)≤9223372036854775807∧(Y:Int)≤9223372036854775807∧∃ q,wr=w.drewN q) (fun _ v _=>(intOf v).toNat)
 case atStart=>exact⟨a,b,rfl,rfl,K7 rfl,ha,hb,0,rfl⟩
 case round=>
  obtain⟨X,Y,rfl,rfl,hh,hX,hY,q,rfl⟩:=hrel
  by_cases h0:Y=0
  ·subst h0
   have g:=hh.out
   rw[Nat.gcd_zero_right] at g
   go_wp2
   go_ret
   subst g
   exact⟨rfl,q,rfl⟩
  ·have hYp:(0:Int)<(Y:Int):=by omega
   have hne:(Y:Int)≠0:=by omega
   have e1:=mv X Y
   have hlt:=Nat.mod_lt X (show Y>0 by omega)
   have hY2:((X%Y:Nat):Int)≤9223372036854775807:=by omega
   have R:=K7 (show Nat.gcd Y (X%Y)=Nat.gcd a b from by rw[←hh.out,Nat.gcd_comm X Y,Nat.gcd_rec Y X,Nat.gcd_comm])
   generalize X%Y=Z at *
   go_wp2
   go_region
   go_roundw
   case rel=>exact⟨_,_,_,_,_,_,_,_,⟨Y,Z,rfl,rfl,R,hY,hY2,q+1,rfl⟩,rfl⟩
   case measure=>simp[intOf];omega
theorem dz (s:ByteArray) (w:World) (hs:s.size≤1099511627776) :
  Calls Tryz.prog 83 #[.string s] w fun e w'=>e=.returned (.int .i64 ((aq (chs s):Nat):Int))∧∃ q,w'=w.drewN q:=by
 have HS:=K7 fun k hk h h1=>@nC (chs s) k (by rw[ah];exact hk) h (by rw[ah];exact h1)
 go_enter Tryz.func83,Tryz.ntmps83
 go_wp2
 go_loopw [3] (fun i wr=>∃ k:Nat,i=.int .i64 k∧k≤s.size∧Hid (∀ i,i<k→(chs s).getD i 0≠47)∧∃ q,wr=w.drewN q) (fun i _=>s.size-(intOf i).toNat)
 case atStart=>exact⟨0,rfl,Nat.zero_le _,K7 fun i h=>absurd h (Nat.not_lt_zero i),0,rfl⟩
 case round=>
  obtain⟨k,rfl,hk,hno,q,rfl⟩:=hrel
  by_cases hlt:k<s.size
  ·have hg:=bP hlt
   by_cases h47:s[k].toNat=47
   ·have hb:((s[k].toNat:Int)==47)=true:=by simp[h47]
    have hend:=K7 (HS.out k hk hno.out fun _=>by rw[hg,h47])
    clear HS hno
    go_wp2
    go_ret
    exact⟨congrArg (fun n:Nat=>Ending.returned (Value.int .i64 (n:Int))) hend.out.symm,q,rfl⟩
   ·have hb:((s[k].toNat:Int)==47)=false:=by rw[beq_eq_false_iff_ne];omega
    have hno2:=K7 (show ∀ i,i<k+1→(chs s).getD i 0≠47 from fun i hi=>by
     rcases Nat.lt_or_ge i k with h|h
     ·exact hno.out i h
     ·obtain rfl:i=k:=by omega
      rw[hg];exact h47)
    clear HS hno
    go_wp2
    go_roundw
    case rel=>exact⟨k+1,by go_num,by omega,hno2,q,rfl⟩
    case measure=>simp[intOf];omega
  ·have hend:=K7 (HS.out k hk hno.out fun h=>absurd h hlt)
   obtain rfl:k=s.size:=by omega
   clear HS hno
   go_wp2
   go_ret
   exact⟨congrArg (fun n:Nat=>Ending.returned (Value.int .i64 (n:Int))) hend.out.symm,q,rfl⟩
theorem fC (s:ByteArray) (w:World) (hs:s.size≤18) (hd:Dec (chs s)) :
  Calls Tryz.prog 181 #[.string s] w fun e w'=>e=.returned (.int .i64 ((aL (chs s):Nat):Int))∧∃ q,w'=w.drewN q:=by
 have hl:=ah s
 have Hdec:=K7 hd
 have h0:aL ((chs s).take 0)=0:=rfl
 have Hall:=K7 (show aL ((chs s).take s.size)=aL (chs s) by rw[List.take_of_length_le (by omega)])
 clear hd
 go_enter Tryz.func181,Tryz.ntmps181
 go_wp2
 go_loopw [3,4] (fun n i wr=>∃ k:Nat,i=.int .i64 k∧k≤s.size∧n=.int .i64 ((aL ((chs s).take k):Nat):Int)∧∃ q,wr=w.drewN q) (fun _ i _=>s.size-(intOf i).toNat)
 case atStart=>exact⟨0,rfl,Nat.zero_le _,rfl,0,rfl⟩
 case round=>
  clear h0
  obtain⟨k,rfl,hk,rfl,q,rfl⟩:=hrel
  by_cases hlt:k<s.size
  ·have hg:=bP hlt
   have hstep:=jq (cs:=chs s) (k:=k) (by omega)
   have hrange:=Hdec.out.get (k:=k) (by omega)
   have hb:=FT Hdec.out (k:=k) (by omega) (by omega)
   rw[hg] at hstep hrange
   have Hstep:=K7 hstep
   clear hstep hg
   generalize aL ((chs s).take k)=n at *
   generalize hc:s[k].toNat=c at *
   have x1:IntKind.i64.wrap (10*(n:Int))=10*(n:Int):=IntWalk.i64_in _ (by omega)
   have x2:IntKind.i64.wrap (c:Int)=(c:Int):=IntWalk.i64_in _ (by omega)
   have x3:IntKind.i64.wrap (10*(n:Int)+(c:Int))=10*(n:Int)+c:=IntWalk.i64_in _ (by omega)
   have x4:IntKind.i64.wrap (10*(n:Int)+(c:Int)-48)=((10*n+(c-48):Nat):Int):=by rw[IntWalk.i64_in _ (by omega)];omega
   go_wp2
   go_roundw
   case rel=>exact⟨k+1,by go_num,by omega,congrArg (fun n:Nat=>Value.int .i64 (n:Int)) Hstep.out.symm,q,rfl⟩
   case measure=>simp[intOf];omega
  ·obtain rfl:k=s.size:=by omega
   rw[Hall.out]
   go_wp2
   go_ret
   exact⟨rfl,q,rfl⟩
theorem Ki (s:Nat):((s:Nat):Int).tmod 10=((s%10:Nat):Int):=mv s 10
theorem xh {n k:Nat} (hn:(n:Int)≤9223372036854775807) (h:0<n/10^k):k<19:=by
 rcases Nat.lt_or_ge k 19 with hk|hk
 ·exact hk
 ·have h1:10^19≤10^k:=Nat.pow_le_pow_right (by decide) hk
  have h2:(10:Nat)^19=10000000000000000000:=by decide
  rw[Nat.div_eq_of_lt (by omega)] at h
  omega
theorem Kh (s:Nat):((s:Nat):Int).tdiv 10=((s/10:Nat):Int):=mu s 10
theorem js (n least:Nat) (w:World) (hn:(n:Int)≤9223372036854775807) (hl:least≤1000) :
  Calls Tryz.prog 183 #[.int .i64 n,.int .i64 least] w fun e w'=>∃ (s:ByteArray) (k:Nat),e=.returned (.string s)∧chs s=cN n k∧n<10^k∧least≤k∧(least<k→10^(k-1)≤n)∧∃ q,w'=w.drewN q:=by
 go_enter Tryz.func183,Tryz.ntmps183
 go_wp2
 go_loopw [0,5] (fun v t wr=>∃ (m k:Nat) (s:ByteArray),v=.int .i64 m∧t=.string s∧Hid (m=n/10^k∧chs s=cN n k∧(∀ j,j<k→0<n/10^j∨j<least))∧(m:Int)≤9223372036854775807∧s.size=k∧k≤1020∧∃ q,wr=w.drewN q)
  (fun v t _=>(intOf v).toNat+(match t with | .string s=>least-s.size|_=>0))
 case atStart=>exact⟨n,0,_,rfl,rfl,K7 ⟨by simp,rfl,fun j h=>absurd h (Nat.not_lt_zero j)⟩,hn,rfl,Nat.zero_le _,0,rfl⟩
 case round=>
  obtain⟨m,k,s,rfl,rfl,hh,hm,hsk,hk,q,rfl⟩:=hrel
  by_cases hc:0<m∨k<least
  ·have hkb:k<1000:=by
    rcases hc with h|h
    ·have:=xh (k:=k) hn (by rw[←hh.out.1];exact h)
     omega
    ·omega
   have hq:m/10≤m:=Nat.div_le_self _ _
   have hql:0<m→m/10<m:=fun h=>Nat.div_lt_self h (by decide)
   have R:Hid (m/10=n/10^(k+1)∧chs ((ByteArray.mk #[48,49,50,51,52,53,54,55,56,57]).extract (m%10) (m%10+1)++s)=cN n (k+1)∧(∀ j,j<k+1→0<n/10^j∨j<least)):=by
    obtain⟨h1,h2,h3⟩:=hh.out
    refine K7 ⟨by rw[h1,CG],?_,fun j hj=>?_⟩
    ·rw[aH,Ac (Nat.mod_lt _ (by decide)),h2,h1];rfl
    ·rcases Nat.lt_or_ge j k with h|h
     ·exact h3 j h
     ·obtain rfl:j=k:=by omega
      rw[←h1];exact hc
   have hsz:((ByteArray.mk #[48,49,50,51,52,53,54,55,56,57]).extract (m%10) (m%10+1)++s).size=k+1:=by
    rw[←ah,R.out.2.1,fb]
   have HZ:=K7 hsz
   have e1:=Ki m
   have e2:=Kh m
   have hr:m%10<10:=Nat.mod_lt _ (by decide)
   clear hh hsz
   generalize m%10=r at *
   generalize hm2:m/10=m2 at *
   clear hm2
   have w5:IntKind.i64.wrap ((r:Int)+1)=((r+1:Nat):Int):=by rw[IntWalk.i64_in _ (by omega)];omega
   by_cases h1:0<m
   ·have hlt:=hql h1
    clear hc hql
    go_wp2
    go_roundw
    case rel=>exact⟨m2,k+1,_,rfl,rfl,R,by omega,HZ.out,by omega,q,rfl⟩
    case measure=>
     have:=HZ.out
     simp only[intOf]
     omega
   ·have h2:k<least:=by omega
    clear hc hql
    have hk2:s.size<least:=by omega
    go_wp2
    go_roundw
    case rel=>exact⟨m2,k+1,_,rfl,rfl,R,by omega,HZ.out,by omega,q,rfl⟩
    case measure=>
     have:=HZ.out
     simp only[intOf]
     omega
  ·obtain rfl:m=0:=by omega
   have hlk:¬(k<least):=by omega
   go_wp2
   go_ret
   obtain⟨h1,h2,h3⟩:=hh.out
   obtain⟨g1,g2⟩:=uz h1.symm (by omega) h3
   exact⟨_,k,rfl,h2,g1,by omega,g2,q,rfl⟩
theorem AX (s:ByteArray) (b:Bool) (cs:List Nat) (w:World) (hcs:chs s=(if b then [45] else [])++cs) (hd:Dec cs) (hl:cs.length≤1073741824) :
  Calls Tryz.prog 163 #[.string s] w fun e w'=>∃ v,e=.returned v∧Big w' v (az b (aL cs))∧Kept w w':=by
 obtain⟨i0,hi,hz0,hz1,hz2⟩:=info_parts Tryz.fM
 have hk1:=bK w (.cells #[.bool false,.slice none 0 0] 117)
 have hB:=aJ w 117 [Value.bool false,Value.slice none 0 0]
 have hGw:w.heap.size<(w.alloc (.cells #[.bool false,.slice none 0 0] 117)).heap.size:=by simp
 have HD:=K7 hd
 have Hstep:=K7 fun l k zs h1 h2 h3 h4 h5=>@xL cs hd l h1 h2 zs k (aL cs) h3 h4 h5
 have Hlast:=K7 fun l k zs h1 h2 h3 h4 h5=>@xK cs hd l h1 h2 zs k (aL cs) h3 h4 h5
 have hsl:=ah s
 rw[hcs] at hsl
 have hcase:(b=true∧0<s.size∧Hid (chs (s.extract 1 s.size)=cs)∧(s.extract 1 s.size).size=cs.length∧∀ h:0<s.size,((s[0].toNat:Int)==45)=true) ∨
   (b=false∧0<s.size∧Hid (chs s=cs)∧s.size=cs.length∧∀ h:0<s.size,((s[0].toNat:Int)==45)=false) ∨
   (b=false∧¬0<s.size∧Hid (chs s=cs)∧s.size=cs.length∧True):=by
  cases b
  ·right
   simp only[Bool.false_eq_true,if_false,List.nil_append] at hcs hsl
   by_cases h0:0<s.size
   ·refine .inl ⟨rfl,h0,K7 hcs,hsl.symm,fun h=>?_⟩
    have h1:=hd.get (k:=0) (by omega)
    rw[←hcs,bP h0] at h1
    rw[beq_eq_false_iff_ne];omega
   ·exact .inr ⟨rfl,h0,K7 hcs,hsl.symm,trivial⟩
  ·left
   simp only[if_true,List.cons_append,List.nil_append] at hcs hsl
   rw[List.length_cons] at hsl
   have h0:0<s.size:=by omega
   have he:chs (s.extract 1 s.size)=cs:=by
    rw[aC,hcs,List.drop_succ_cons,List.drop_zero,List.take_of_length_le (by omega)]
   refine ⟨rfl,h0,K7 he,by rw[←ah,he],fun h=>?_⟩
   have h1:=bP h0
   rw[hcs] at h1
   change 45=_ at h1
   rw[←h1];rfl
 clear hcs hd hsl
 generalize hN0:aL cs=N at *
 rcases hcase with ⟨rfl,h0,hch,hsz,h45⟩|⟨rfl,h0,hch,hsz,h45⟩|⟨rfl,h0,hch,hsz,_⟩
 all_goals
  try replace h45:=h45 h0
  go_enter Tryz.func163,Tryz.ntmps163
  go_wp2_with fail
  generalize w.alloc (.cells #[.bool false,.slice none 0 0] 117)=w2 at *
  generalize hG0:w2.heap.size=G at *
  have hG:=K7 hG0
  have hstart0:=K7 (show aL (cs.take cs.length)*DigNum.B^0+val []=N by rw[List.take_of_length_le (K6 _),hN0];simp[val])
  have htk:=K7 (List.take_of_length_le (K6 cs.length))
  clear hG0
  go_loopw [0,4] (fun u v wr=>∃ (l k:Nat) (s':ByteArray) (zs:List Nat),u=.string s'∧Hid (chs s'=cs.take l∧zs.length=k∧aL (cs.take l)*DigNum.B^k+val zs=N∧Fit zs)∧s'.size=l∧l+k≤cs.length∧wr.ownsRow G 3 1 v k (cellsOf zs)∧Below G w2 wr)
   (fun u _ _=>match u with | .string s=>s.size|_=>0)
  case atStart=>exact⟨cs.length,0,_,[],rfl,K7 ⟨hch.out.trans htk.out.symm,rfl,hstart0.out,Fit.nil⟩,hsz,by omega,⟨rfl,.inl ⟨rfl,rfl⟩⟩,Below.refl _ _⟩
  case round=>
   clear hch hstart0 htk
   obtain⟨l,k,s',zs,rfl,hh,hs',hlk,hown,hbel⟩:=hrel
   subst hs'
   by_cases hl9:9<s'.size
   ·obtain⟨h1,h2,h3,h4⟩:=hh.out
    obtain⟨p1,p2,p3,p4,p5⟩:=Hstep.out s'.size k zs hl9 (by omega) h2 h3 h4
    have x1:IntKind.i64.wrap ((s'.size:Int)-9)=((s'.size-9:Nat):Int):=by rw[IntWalk.i64_in _ (by omega)];omega
    have hch2:chs (s'.extract (s'.size-9) s'.size)=(cs.take s'.size).drop (s'.size-9):=by
     rw[aC,h1,List.take_of_length_le];rw[List.length_drop,List.length_take];omega
    have hch3:chs (s'.extract 0 (s'.size-9))=cs.take (s'.size-9):=by
     rw[aC,h1,List.drop_zero,List.take_take,Nat.sub_zero,Nat.min_eq_left (by omega)]
    have hsz2:(s'.extract (s'.size-9) s'.size).size=9:=by rw[←ah,hch2,p2]
    have hsz3:(s'.extract 0 (s'.size-9)).size=s'.size-9:=by rw[←ah,hch3,List.length_take];omega
    have hval:=K7 fun w'=>fC (s'.extract (s'.size-9) s'.size) w' (by omega) (by rw[hch2];exact p1)
    rw[hch2] at hval
    have hfin:=K7 (show chs (s'.extract 0 (s'.size-9))=cs.take (s'.size-9)∧(zs++[aL ((cs.take s'.size).drop (s'.size-9))]).length=k+1∧aL (cs.take (s'.size-9))*DigNum.B^(k+1)+val (zs++[aL ((cs.take s'.size).drop (s'.size-9))])=N∧Fit (zs++[aL ((cs.take s'.size).drop (s'.size-9))]) from ⟨hch3,by simp[h2],p4,p5⟩)
    have hsize:=hbel.size
    rw[hG.out] at hsize
    clear h1 h2 h3 h4 p1 p2 p3 p4 p5 hch2 hch3 hh
    generalize aL ((cs.take s'.size).drop (s'.size-9))=d at *
    first
    |(exfalso;omega)
    |(go_wp2_with fail
      refine (hval.out _).mono ?_
      rintro e w5 ⟨rfl,q5,rfl⟩
      have hown:=eK hown (ar (Below.refl _ _) q5)
      have hbel:=al hbel q5
      go_wp2_with (at_builtin;refine wpList_append_own _ rfl _ _ 87 rfl G 3 i0 (.int .i64 0) 1 8 Tryz.underlying87 hi hz0 hz1 hz2 rfl (by decide) _ _ _ rfl (hown.alloc _) ⟨_,0,none⟩ 1 1 [.int .i64 (d:Int)] rfl rfl (cG _ _ _) (fun x hx=>by simp at hx;subst hx;rfl) (by unfold maxLen;omega) (by omega) (by simp;omega) ?_;intro v' w6 hown6 hgrow6 hnil6)
      have R:w6.ownsRow G 3 1 v' (k+1) (cellsOf (zs++[d]))∧Below G w2 w6:=
       ⟨by rw[show cellsOf (zs++[d])=cellsOf zs++[.int .i64 (d:Int)] by simp[cellsOf]];exact hown6,(hbel.alloc hsize _).grown hgrow6 (by simp;omega) (fun q hq=>(hown.lt q hq).1)⟩
      clear hown6 hgrow6 hnil6 hown hbel
      go_wp2
      go_roundw
      case rel=>exact⟨_,k+1,_,_,rfl,hfin,hsz3,by omega,R.1,R.2⟩
      case measure=>show (s'.extract 0 (s'.size-9)).size<s'.size;omega)
   ·obtain⟨h1,h2,h3,h4⟩:=hh.out
    obtain⟨p1,p2⟩:=Hlast.out s'.size k zs (by omega) (by omega) h2 h3 h4
    have hval:=K7 fun w'=>fC s' w' (by omega) (by rw[h1];exact HD.out.take _)
    rw[h1] at hval
    have hP1:=K7 p1
    have hP2:=K7 p2
    have hzl:=K7 h2
    have hsize:=hbel.size
    rw[hG.out] at hsize
    clear h1 h2 h3 h4 p1 p2 hh
    generalize aL (cs.take s'.size)=d at *
    go_wp2_with fail
    refine (hval.out _).mono ?_
    rintro e w5 ⟨rfl,q5,rfl⟩
    have hown:=eK hown (ar (Below.refl _ _) q5)
    have hbel:=al hbel q5
    go_wp2_with (at_builtin;refine wpList_append_own _ rfl _ _ 87 rfl G 3 i0 (.int .i64 0) 1 8 Tryz.underlying87 hi hz0 hz1 hz2 rfl (by decide) _ _ _ rfl (hown.alloc _) ⟨_,0,none⟩ 1 1 [.int .i64 (d:Int)] rfl rfl (cG _ _ _) (fun x hx=>by simp at hx;subst hx;rfl) (by unfold maxLen;omega) (by omega) (by simp;omega) ?_;intro v' w6 hown6 hgrow6 hnil6)
    have R:w6.ownsRow G 3 1 v' (k+1) (cellsOf (zs++[d]))∧Below G w2 w6:=
     ⟨by rw[show cellsOf (zs++[d])=cellsOf zs++[.int .i64 (d:Int)] by simp[cellsOf]];exact hown6,(hbel.alloc hsize _).grown hgrow6 (by simp;omega) (fun q hq=>(hown.lt q hq).1)⟩
    have hk6:Kept w2 w6:=by unfold Kept;rw[hG.out];exact R.2
    have hS:=K7 fun sg=>kY sg v' (zs++[d]) w6 (dW R.1) hP2.out (by rw[List.length_append,hzl.out];simp;omega)
    clear hown6 hgrow6 hnil6 hown hbel
    refine (hS.out _).mono ?_
    rintro e w7 ⟨v7,rfl,hv,hk7⟩
    rw[hP1.out] at hv
    have hk7:=Kept.comp _ _ _ hk6 hk7
    obtain⟨s9,a9,n9,c9,rfl⟩:∃ s9 a9 n9 c9,v7=.agg #[.bool s9,.slice a9 n9 c9]:=by
     obtain⟨_,h,a9,c9,h2,_⟩:=id hv
     exact⟨_,a9,_,c9,by rw[h,h2]⟩
    have hB3:=hB.kept hk7
    have c0:=hB3.cell 0 rfl
    have c1:=hB3.cell 1 rfl
    have f0:=hB3.free 0
    have f1:=hB3.free 1
    clear hS R hB
    go_wp2
    obtain⟨p0,p1,p2,p3⟩:=aP hB3 (K6 _) (Kept.comp _ _ _ hk1 hk7) hv
    exact bodyPost_ret (v:=.agg #[.bool s9,.slice a9 n9 c9]) (by simp[results,Tryz.results163,go_sem,p0,p1]) rfl ⟨_,rfl,p2,p3⟩
theorem BC (v:Value) (w:World) (h:Big w v 0) :
  Calls Tryz.prog 169 #[v] w fun e w'=>∃ t:ByteArray,e=.returned (.string t)∧chs t=[48]∧Kept w w':=by
 obtain⟨l,rfl,hl⟩:=h
 obtain⟨a1,c1,rfl,_,_⟩:=id hl
 have hk1:=bK w (.cells #[.bool false,.slice a1 0 c1] 117)
 change Calls _ _ #[.agg #[.bool false,.slice a1 0 c1]] w _
 go_enter Tryz.func169,Tryz.ntmps169
 go_wp2
 go_ret
 exact⟨_,rfl,rfl,hk1⟩
theorem EY (v:Value) (x:Int) (w:World) (h:Big w v x) (hx:x≠0) (hs:size x.natAbs≤100000000) :
  Calls Tryz.prog 169 #[v] w fun e w'=>∃ (t:ByteArray) (cs:List Nat),e=.returned (.string t)∧chs t=(if decide (x<0)=true then [45] else [])++cs∧sP x.natAbs cs∧Kept w w':=by
 obtain⟨l,rfl,hl⟩:=h
 have hn:0<x.natAbs:=by omega
 generalize x.natAbs=n at *
 generalize decide (x<0)=b at *
 have hsp:0<size n:=im.2 hn
 obtain⟨a1,c1,rfl,hc1,r1⟩:=hl.row.opened
 change 0<size n→_ at r1
 obtain⟨b1,o1,rfl,hb1,hcells⟩:=r1 hsp
 have hfit:=ao n
 have hk1:=bK w (.cells #[.bool b,.slice (some ⟨b1,o1,none⟩) (size n) c1] 117)
 have hB:=aJ w 117 [Value.bool b,.slice (some ⟨b1,o1,none⟩) (size n) c1]
 change Calls _ _ #[.agg #[.bool b,.slice (some ⟨b1,o1,none⟩) (size n) c1]] w _
 change ∀ i,i<size n→_ at hcells
 have htop:=uC (n:=n) (j:=size n-1) (by omega)
 rw[show size n-1+1=(ai n).length from (by show size n-1+1=size n;omega),List.drop_length,show val ([]:List Nat)=0 from rfl,Nat.zero_mul,Nat.zero_add] at htop
 have hpos:=fun j h=>CL (n:=n) (j:=j) h
 have hdv:=fun j h=>uC (n:=n) (j:=j) h
 have hval:=au n
 generalize hsn:size n=z at *
 go_enter Tryz.func169,Tryz.ntmps169
 have hne:((z:Int)==0)=false:=by rw[beq_eq_false_iff_ne];omega
 have x1:IntKind.i64.wrap ((z:Int)-1)=((z-1:Nat):Int):=by rw[IntWalk.i64_in _ (by omega)];omega
 have hlt1:z-1<z:=by omega
 have hct:=hcells (z-1) hlt1
 have htB:=hfit.get (z-1)
 have htp:=hpos (z-1) hlt1
 rw[htop] at htp
 have Hcells:=K7 hcells
 have Hpos:=K7 hpos
 have Hdv:=K7 hdv
 have Hfit:=K7 hfit
 have Hval:=K7 hval
 have Htop:=K7 htop
 clear hcells hpos hdv hfit hval htop hl r1 hsn
 generalize hd0:(ai n).getD (z-1) 0=d at *
 have Hd0:=K7 hd0
 clear hd0
 rw[show DigNum.B=1000000000 from rfl] at htB
 have hD:=K7 fun w'=>js d 1 w' (by omega) (by omega)
 have x2:IntKind.i64.wrap ((z:Int)-2)=((z-1:Nat):Int)-1:=by rw[IntWalk.i64_in _ (by omega)];omega
 generalize hz1:z-1=z1 at *
 go_wp2_with fail
 generalize w.alloc (.cells #[.bool b,.slice (some ⟨b1,o1,none⟩) z c1] 117)=w2 at *
 refine (hD.out _).mono ?_
 rintro e w3 ⟨t0,k0,rfl,ht0,g1,g2,g3,q3,rfl⟩
 have hk0:k0≤9:=by
  rcases Nat.lt_or_ge 9 k0 with h|h
  ·have h1:=g3 (by omega)
   have h2:10^9≤10^(k0-1):=Nat.pow_le_pow_right (by decide) (by omega)
   have h3:(10:Nat)^9=1000000000:=rfl
   omega
  ·exact h
 have hts:t0.size≤9:=by rw[←ah,ht0,fb];exact hk0
 have hk3:Kept w2 (w2.drewN q3):=ar (Below.refl _ _) q3
 have hdec:Hid (sP (val ((ai n).drop z1)) (chs t0)):=K7 (by rw[Htop.out];exact⟨k0,ht0,g1,g2,g3⟩)
 clear g1 g2 g3 hD ht0
 have hB3:=hB.kept hk3
 have c11:=hB3.cell 1 rfl
 have hbw:b1<w2.heap.size:=Nat.lt_of_lt_of_le hb1 hk1.size
 generalize w2.drewN q3=w3 at *
 go_wp2
 go_loopw [3,4] (fun s i wr=>∃ (j:Nat) (t:ByteArray),i=.int .i64 ((j:Int)-1)∧s=.string t∧j≤z1∧Hid (sP (val ((ai n).drop j)) (chs t))∧t.size+9*j≤9*z1+9∧Kept w2 wr) (fun _ i _=>(intOf i+1).toNat)
 case atStart=>exact⟨z1,t0,rfl,rfl,K6 _,hdec,by omega,hk3⟩
 case round=>
  clear hdec hB3 c11 hk3 hts
  obtain⟨j,t,rfl,rfl,hj,hdec,hts,hkr⟩:=hrel
  have hBr:=hB.kept hkr
  have c10:=hBr.cell 0 rfl
  have c11:=hBr.cell 1 rfl
  by_cases hj0:j=0
  ·subst hj0
   rw[show ((0:Nat):Int)-1 = -1 from rfl]
   have hfin:Hid (sP n (chs t)):=K7 (by have:=hdec.out;rwa [List.drop_zero,Hval.out] at this)
   have hkw:=Kept.comp _ _ _ hk1 hkr
   clear hdec
   cases b
   ·go_wp2
    go_ret
    exact⟨_,rfl,hfin.out,hkw⟩
   ·go_wp2
    go_ret
    exact⟨_,rfl,chs t,by rw[aH];rfl,hfin.out,hkw⟩
  ·obtain⟨i,rfl⟩:∃ i,j=i+1:=⟨j-1,by omega⟩
   rw[show ((i+1:Nat):Int)-1=(i:Int) by omega]
   have hiz:i<z:=by omega
   have hci:=(hkr.cell (p:=⟨b1,o1+i,none⟩) hbw).trans ((hk1.cell (p:=⟨b1,o1+i,none⟩) hb1).trans (Hcells.out i hiz))
   have hdi:=Hfit.out.get i
   have hmore:∀ u,chs u=chs t++cN ((ai n).getD i 0) 9→sP (val ((ai n).drop i)) (chs u):=fun u hu=>by
    rw[hu,Hdv.out i hiz]
    exact Ai hdec.out (Hpos.out (i+1) (by omega)) hdi
   have Hmore:=K7 hmore
   clear hmore hdec
   generalize (ai n).getD i 0=d2 at *
   have hD:=K7 fun w'=>js d2 9 w' (by rw[show DigNum.B=1000000000 from rfl] at hdi;omega) (by omega)
   have Hdi:=K7 hdi
   clear hdi
   go_wp2_with fail
   refine (hD.out _).mono ?_
   rintro e w5 ⟨u,k2,rfl,hu,g1,g2,g3,q5,rfl⟩
   have hk9:k2=9:=by
    rcases Nat.lt_or_ge 9 k2 with h|h
    ·have h1:=g3 h
     have h2:10^9≤10^(k2-1):=Nat.pow_le_pow_right (by decide) (by omega)
     have h3:(10:Nat)^9=DigNum.B:=rfl
     have:=Hdi.out
     omega
    ·omega
   subst hk9
   have hus:u.size=9:=by rw[←ah,hu,fb]
   have R:=K7 (Hmore.out (t++u) (by rw[aH,hu]))
   have hts2:=K7 (show (t++u).size=t.size+9 by rw[←ah,aH,List.length_append,ah,ah,hus])
   have hkr:=Kept.comp _ _ _ hkr (ar (Below.refl _ _) q5)
   clear g1 g2 g3 hu
   go_wp2
   go_roundw
   case rel=>exact⟨i,t++u,by go_num,rfl,by omega,R,by have:=hts2.out;omega,hkr⟩
   case measure=>simp[intOf]
theorem tmod_neg (m:Nat):(-(m:Int)).tmod 1000000000 = -((m%1000000000:Nat):Int):=by
 rw[Int.neg_tmod,jE]
theorem tdiv_neg (m:Nat):(-(m:Int)).tdiv 1000000000 = -((m/1000000000:Nat):Int):=by
 rw[Int.neg_tdiv,jD]
theorem yh {N k m:Nat} {zs:List Nat} (hm:m*DigNum.B^k+val zs=N) (hk:zs.length=k) (hf:Fit zs) :
  (m/DigNum.B)*DigNum.B^(k+1)+val (zs++[m%DigNum.B])=N∧Fit (zs++[m%DigNum.B]):=by
 refine ⟨?_,hf.append (Fit.cons (Nat.mod_lt _ aA) Fit.nil)⟩
 have h:=Nat.div_add_mod m DigNum.B
 generalize m/DigNum.B=q at *
 generalize m%DigNum.B=r at *
 subst h
 rw[bE,hk,←hm,Nat.pow_succ]
 simp only[val,Nat.mul_zero,Nat.add_zero]
 have e:(DigNum.B*q+r)*DigNum.B^k=q*(DigNum.B^k*DigNum.B)+DigNum.B^k*r:=by
  rw[Nat.add_mul,Nat.mul_comm r,Nat.mul_comm DigNum.B q,Nat.mul_assoc,Nat.mul_comm DigNum.B]
 omega
theorem CS {N m k:Nat} (hN:(N:Int)≤9223372036854775807) (hm:0<m) (h:m*2^k≤N):k<64:=by
 rcases Nat.lt_or_ge k 64 with h1|h1
 ·exact h1
 ·have h2:2^64≤2^k:=Nat.pow_le_pow_right (by decide) h1
  have h3:(2:Nat)^64=18446744073709551616:=by decide
  have h4:=Nat.le_mul_of_pos_left (2^k) hm
  omega
theorem Ay {N m k:Nat} (h:m*2^k≤N):m/DigNum.B*2^(k+1)≤N:=by
 refine Nat.le_trans ?_ h
 have h1:m/DigNum.B*2≤m:=by
  have:=Nat.div_mul_le_self m DigNum.B
  rw[show DigNum.B=1000000000 from rfl] at *
  omega
 rw[Nat.pow_succ,Nat.mul_comm (2^k),←Nat.mul_assoc]
 exact Nat.mul_le_mul_right _ h1
theorem sK (b:Bool) (N:Nat) (w:World) (hN:(N:Int)≤9223372036854775807) (hb:b=true→0<N) :
  Calls Tryz.prog 164 #[.int .i64 (az b N)] w fun e w'=>∃ v,e=.returned v∧Big w' v (az b N)∧Kept w w':=by
 obtain⟨i0,hi,hz0,hz1,hz2⟩:=info_parts Tryz.fM
 have hk1:=bK w (.cells #[.bool false,.slice none 0 0] 117)
 have hB:=aJ w 117 [Value.bool false,Value.slice none 0 0]
 have Hfin:=K7 fun sg v' zs w6 h1 h2 h3=>kY sg v' zs w6 h1 h2 h3
 obtain⟨M,hM⟩:∃ M,az b N=M:=⟨_,rfl⟩
 rw[hM]
 have HM:=K7 hM
 have hneg:decide (M<0)=b:=by
  rw[←hM];unfold az
  cases b
  ·simp
  ·have:=hb rfl;simp;omega
 have Hneg:=K7 hneg
 have Hb:=K7 hb
 clear hM hneg hb
 cases b
 all_goals
  go_enter Tryz.func164,Tryz.ntmps164
  have hlt:=Hneg.out
  simp only[decide_eq_true_eq,decide_eq_false_iff_not] at hlt
  go_wp2_with fail
  generalize w.alloc (.cells #[.bool false,.slice none 0 0] 117)=w2 at *
  generalize hG0:w2.heap.size=G at *
  have hG:=K7 hG0
  clear hG0
  rw[←HM.out]
  go_loopw [0,3,5] (fun u v _ wr=>∃ (k m:Nat) (zs:List Nat),u=.int .i64 (az (decide (M<0)) m)∧Hid (m*DigNum.B^k+val zs=N∧zs.length=k∧Fit zs∧m*2^k≤N)∧m≤N∧k≤64∧wr.ownsRow G 3 1 v k (cellsOf zs)∧Below G w2 wr)
   (fun u _ _ _=>(intOf u).natAbs)
  case atStart=>exact⟨0,N,[],by rw[Hneg.out],K7 ⟨by simp[val],rfl,Fit.nil,by simp⟩,K6 _,Nat.zero_le _,⟨rfl,.inl ⟨rfl,rfl⟩⟩,Below.refl _ _⟩
  case round=>
   obtain⟨k,m,zs,rfl,hh,hmN,hk,hown,hbel⟩:=hrel
   rw[Hneg.out]
   have hsize:=hbel.size
   rw[hG.out] at hsize
   obtain⟨h1,h2,h3,h4⟩:=hh.out
   by_cases hm0:m=0
   ·subst hm0
    rw[Nat.zero_mul,Nat.zero_add] at h1
    have hM:=HM.out
    have hk6:Kept w2 wr:=by unfold Kept;rw[hG.out];exact hbel
    have hS:=K7 fun sg=>Hfin.out sg _ zs wr (dW hown) h3 (by omega)
    have hP:=K7 h1
    clear h1 h2 h3 h4 hown hbel hh
    go_wp2_with fail
    refine (hS.out _).mono ?_
    rintro e w7 ⟨v7,rfl,hv,hk7⟩
    rw[hP.out,hM] at hv
    have hk7:=Kept.comp _ _ _ hk6 hk7
    obtain⟨s9,a9,n9,c9,rfl⟩:∃ s9 a9 n9 c9,v7=.agg #[.bool s9,.slice a9 n9 c9]:=by
     obtain⟨_,h,a9,c9,h2,_⟩:=id hv
     exact⟨_,a9,_,c9,by rw[h,h2]⟩
    have hB3:=hB.kept hk7
    have c0:=hB3.cell 0 rfl
    have c1:=hB3.cell 1 rfl
    have f0:=hB3.free 0
    have f1:=hB3.free 1
    clear hS hB
    go_wp2
    obtain⟨p0,p1,p2,p3⟩:=aP hB3 (K6 _) (Kept.comp _ _ _ hk1 hk7) hv
    exact bodyPost_ret (v:=.agg #[.bool s9,.slice a9 n9 c9]) (by simp[results,Tryz.results164,go_sem,p0,p1]) rfl ⟨_,rfl,p2,p3⟩
   ·have hk64:=CS hN (show 0<m by omega) h4
    obtain⟨s1,s2⟩:=yh h1 h2 h3
    have s4:=Ay h4
    have R:=K7 (show m/DigNum.B*DigNum.B^(k+1)+val (zs++[m%DigNum.B])=N∧(zs++[m%DigNum.B]).length=k+1∧Fit (zs++[m%DigNum.B])∧m/DigNum.B*2^(k+1)≤N from ⟨s1,by simp[h2],s2,s4⟩)
    have e1:=jE m
    have e2:=jD m
    have e3:=tmod_neg m
    have e4:=tdiv_neg m
    have hr:=Nat.mod_lt m (show 1000000000>0 by decide)
    have hq:=Nat.div_lt_self (show 0<m by omega) (show 1<1000000000 by decide)
    rw[show DigNum.B=1000000000 from rfl] at R
    clear h1 h2 h3 h4 s1 s2 s4 hh
    generalize m%1000000000=r at *
    generalize m/1000000000=m2 at *
    first
    |(rw[show az false m=(m:Int) from rfl]
      have hnr:¬((r:Int)<0):=by omega
      have hne:¬((m:Int)=0):=by omega
      have hne2:((m:Int) != 0)=true:=by rw[bne_iff_ne];exact hne
      have x1:IntKind.i64.wrap (m2:Int)=(m2:Int):=IntWalk.i64_in _ (by omega)
      go_wp2_with (at_builtin;refine wpList_append_own _ rfl _ _ 87 rfl G 3 i0 (.int .i64 0) 1 8 Tryz.underlying87 hi hz0 hz1 hz2 rfl (by decide) _ _ _ rfl (hown.alloc _) ⟨_,0,none⟩ 1 1 [.int .i64 ((r:Int))] rfl rfl (cG _ _ _) (fun x hx=>by simp at hx;subst hx;rfl) (by unfold maxLen;omega) (by omega) (by simp;omega) ?_;intro v' w6 hown6 hgrow6 hnil6)
      have R6:w6.ownsRow G 3 1 v' (k+1) (cellsOf (zs++[r]))∧Below G w2 w6:=
       ⟨by rw[show cellsOf (zs++[r])=cellsOf zs++[.int .i64 (r:Int)] by simp[cellsOf]];exact hown6,(hbel.alloc hsize _).grown hgrow6 (by simp;omega) (fun q hq=>(hown.lt q hq).1)⟩
      clear hown6 hgrow6 hnil6 hown hbel
      go_wp2
      go_roundw
      case rel=>exact⟨k+1,m2,_,rfl,R,by omega,by omega,R6.1,R6.2⟩
      case measure=>simp only[intOf];omega)
    |(rw[show az true m = -(m:Int) from rfl]
      have hne:¬(-(m:Int)=0):=by omega
      have hne2:((-(m:Int)) != 0)=true:=by rw[bne_iff_ne];exact hne
      have x1:IntKind.i64.wrap (-(m2:Int)) = -(m2:Int):=IntWalk.i64_in _ (by omega)
      have x2:IntKind.i64.wrap (0 - -(r:Int))=(r:Int):=by rw[IntWalk.i64_in _ (by omega)];omega
      by_cases hr0:r=0
      ·have hnr:¬(-(r:Int)<0):=by omega
       have Hcell:=K7 (show -(r:Int)=(r:Int) by omega)
       clear hr0
       go_wp2_with (at_builtin;refine wpList_append_own _ rfl _ _ 87 rfl G 3 i0 (.int .i64 0) 1 8 Tryz.underlying87 hi hz0 hz1 hz2 rfl (by decide) _ _ _ rfl (hown.alloc _) ⟨_,0,none⟩ 1 1 [.int .i64 (-(r:Int))] rfl rfl (cG _ _ _) (fun x hx=>by simp at hx;subst hx;rfl) (by unfold maxLen;omega) (by omega) (by simp;omega) ?_;intro v' w6 hown6 hgrow6 hnil6)
       rw[Hcell.out] at hown6
       have R6:w6.ownsRow G 3 1 v' (k+1) (cellsOf (zs++[r]))∧Below G w2 w6:=
        ⟨by rw[show cellsOf (zs++[r])=cellsOf zs++[.int .i64 (r:Int)] by simp[cellsOf]];exact hown6,(hbel.alloc hsize _).grown hgrow6 (by simp;omega) (fun q hq=>(hown.lt q hq).1)⟩
       clear hown6 hgrow6 hnil6 hown hbel
       go_wp2
       go_roundw
       case rel=>exact⟨k+1,m2,_,rfl,R,by omega,by omega,R6.1,R6.2⟩
       case measure=>simp only[intOf];omega
      ·have hnr : -(r:Int)<0:=by omega
       go_wp2_with (at_builtin;refine wpList_append_own _ rfl _ _ 87 rfl G 3 i0 (.int .i64 0) 1 8 Tryz.underlying87 hi hz0 hz1 hz2 rfl (by decide) _ _ _ rfl (hown.alloc _) ⟨_,0,none⟩ 1 1 [.int .i64 ((r:Int))] rfl rfl (cG _ _ _) (fun x hx=>by simp at hx;subst hx;rfl) (by unfold maxLen;omega) (by omega) (by simp;omega) ?_;intro v' w6 hown6 hgrow6 hnil6)
       have R6:w6.ownsRow G 3 1 v' (k+1) (cellsOf (zs++[r]))∧Below G w2 w6:=
        ⟨by rw[show cellsOf (zs++[r])=cellsOf zs++[.int .i64 (r:Int)] by simp[cellsOf]];exact hown6,(hbel.alloc hsize _).grown hgrow6 (by simp;omega) (fun q hq=>(hown.lt q hq).1)⟩
       clear hown6 hgrow6 hnil6 hown hbel
       go_wp2
       go_roundw
       case rel=>exact⟨k+1,m2,_,rfl,R,by omega,by omega,R6.1,R6.2⟩
       case measure=>simp only[intOf];omega)
end Go.Proofs.YtjbcmmaniphkkaaGreatDoor.D
