import Derived.Deep.QuietTactic
import Derived.BigQuiet
import Derived.Test.YtjbcmmaniphkkaaGreatDoorL1
set_option linter.unusedSectionVars false
set_option linter.unusedVariables false
set_option linter.unusedSimpArgs false
set_option maxRecDepth 100000
set_option maxHeartbeats 4000000
namespace Go.Proofs.YtjbcmmaniphkkaaGreatDoor
open Go.RowKit LimbNum
theorem Ak (lo y:Nat) (w:World) (hy0:0<y) (hlo:lo<LimbNum.B) :
  Calls Tryz.prog 246 #[.int .u64 0,.int .u64 lo,.int .u64 y] w fun e w'=>e=.returned (.tuple #[.int .u64 ((lo/y:Nat):Int),.int .u64 ((lo%y:Nat):Int)])∧∃ q,w'=w.drewN q:=by
 obtain⟨Y,hY⟩:∃ Y:Int,(y:Int)=Y:=⟨_,rfl⟩
 obtain⟨X,hX⟩:∃ X:Int,(lo:Int)=X:=⟨_,rfl⟩
 have hYp:1≤Y:=by omega
 have hXp:0≤X:=by omega
 have e1:((lo/y:Nat):Int)=X/Y:=by rw[←hX,←hY];exact Int.natCast_ediv _ _
 have e2:((lo%y:Nat):Int)=X%Y:=by rw[←hX,←hY];exact Int.natCast_emod _ _
 rw[hX,hY,e1,e2]
 have hne:(Y==0)=false:=by rw[beq_eq_false_iff_ne];omega
 have e3:IntKind.u64.wrap (X.tdiv Y)=X/Y:=by
  rw[Int.tdiv_eq_ediv_of_nonneg hXp,←hX,←hY,←Int.natCast_ediv,IntKind.wrap_u64]
  have h:=Nat.div_le_self lo y
  unfold LimbNum.B at hlo
  clear e1 e2
  generalize lo/y=q at *
  omega
 clear hX hY e1 e2
 go_enter Tryz.func246,Tryz.ntmps246
 go_wp2
 go_quiet (fail)
 go_wp2
 go_ret2
 exact⟨rfl,_,rfl⟩
theorem wW (hi lo y s Y U L v1 v0 c1 c0 Q1 Q0 R1 R2 qa ra qb rb P1 P2 W1 W2 PY PZ:Int) (w:World) (hhi:0<hi) (hlt:hi<y) (hs0:0≤s) (hs:s<64) (hv1p:0<v1) (v1p:0≤v1)
  (hz:∀ w,Calls Tryz.prog 248 #[.int .u64 y] w fun e w'=>e=.returned (.int .i64 s)∧w=w')
  (hY:IntKind.u64.wrap (y*2^s.toNat)=Y) (hU:bits .or .u64 (IntKind.u64.wrap (hi*2^s.toNat)) (lo/2^(64-s).toNat)=U)
  (hL:IntKind.u64.wrap (lo*2^s.toNat)=L) (hv1:Y/4294967296=v1) (hv0:bits .and .u64 Y 4294967295=v0)
  (hc1:L/4294967296=c1) (hc0:bits .and .u64 L 4294967295=c0) (_lo0:0≤lo) (_Y0:0≤Y) (U0:0≤U) (_L0:0≤L) (v00:0≤v0) (c10:0≤c1) (c00:0≤c0) (Q10:0≤Q1) (Q00:0≤Q0) (R10:0≤R1) (_R20:0≤R2) (_qa0:0≤qa) (ra0:0≤ra) (_qb0:0≤qb) (rb0:0≤rb)
  (hUb:U≤18446744073709551615) (hR1b:R1≤18446744073709551615) (hqab:qa≤18446744073709551615) (hqbb:qb≤18446744073709551615) (v1b:v1<4294967296) (v0b:v0<4294967296) (c1b:c1<4294967296) (c0b:c0<4294967296)
  (hqa:U/v1=qa) (hP1:qa*v1=P1) (hP10:0≤P1) (hP1le:P1≤U) (Hra:Hid (P1+ra=U)) (Ha:Hid (qa*v1+ra=U)) (hqaQ:Q1≤qa) (hra:ra<4294967296)
  (hqbd:R1/v1=qb) (hP2:qb*v1=P2) (hP20:0≤P2) (_hP2le:P2≤R1) (Hrb:Hid (P2+rb=R1)) (Hb:Hid (qb*v1+rb=R1)) (hqb:Q0≤qb) (hrb:rb<4294967296)
  (Q1b:Q1<4294967296) (Q0b:Q0<4294967296) (Q1d:Hid (Q1=(U*4294967296+c1)/(v1*4294967296+v0))) (Q0d:Hid (Q0=(R1*4294967296+c0)/(v1*4294967296+v0))) (hvp:Hid (0<v1*4294967296+v0))
  (Ult:Hid (U<v1*4294967296+v0)) (R1lt:Hid (R1<v1*4294967296+v0))
  (hW1:IntKind.u64.wrap (U*4294967296)=W1) (hW10:0≤W1) (hW1b:W1≤18446744069414584320) (hPY:IntKind.u64.wrap (Q1*Y)=PY) (hR1:IntKind.u64.wrap (W1+c1-PY)=R1)
  (hW2:IntKind.u64.wrap (R1*4294967296)=W2) (hW20:0≤W2) (hW2b:W2≤18446744069414584320) (hPZ:IntKind.u64.wrap (Q0*Y)=PZ) (hR2:IntKind.u64.wrap (W2+c0-PZ)=R2) :
  Calls Tryz.prog 246 #[.int .u64 hi,.int .u64 lo,.int .u64 y] w fun e w'=>e=.returned (.tuple #[.int .u64 (Q1*4294967296+Q0),.int .u64 (R2/2^s.toNat)])∧w=w':=by
 have Hz:=K7 hz
 clear hz
 have hne:(y==0)=false:=by rw[beq_eq_false_iff_ne];omega
 have hne2:(hi==0)=false:=by rw[beq_eq_false_iff_ne];omega
 have eRa:U-P1=ra:=by have:=Hra.out;omega
 have eRb:R1-P2=rb:=by have:=Hrb.out;omega
 go_enter Tryz.func246,Tryz.ntmps246
 go_wp2_with (go_at_call 248;refine (Hz.out _).mono ?_;rintro e w' ⟨rfl,rfl⟩)
 clear hY hU hL hv1 hv0
 go_loop [15,16] (fun q r=>∃ a b:Int,q=.int .u64 a∧r=.int .u64 b∧Hid (a*v1+b=U)∧Q1≤a∧0≤b∧b<4294967296∧a≤18446744073709551615) (fun q _=>(intOf q).toNat)
 case atStart=>exact⟨qa,ra,by first|rfl|rw[hqa],by first|go_num|rw[hqa,hP1,eRa]|rw[hP1,eRa]|rw[eRa],Ha,hqaQ,by omega,hra,by omega⟩
 case round=>
  obtain⟨a,b,rfl,rfl,He,hQ,hb0,hb,ha⟩:=hrel
  have ha0:0≤a:=by omega
  by_cases h1:4294967296≤a
  ·have hst:=dj (c:=c1) ha0 v1p hb0 Q10 (by omega) c10 v00 He.out hQ Q1b Q1d.out hvp.out (.inl h1)
   by_cases h2:4294967296≤b+v1
   ·have hbr:=cM (by omega) v1p (by omega) Q10 (by omega) c10 v00 hst.1 hst.2.1 Q1d.out hvp.out v0b Ult.out h2
    obtain rfl:a=Q1+1:=by omega
    clear hst hbr He hQ
    go_wp2
    go_loop [18,16] (fun q r=>∃ a b:Int,q=.int .u64 a∧r=.int .u64 b∧Hid (a*v1+b=R1)∧Q0≤a∧0≤b∧b<4294967296∧a≤18446744073709551615) (fun q _=>(intOf q).toNat)
    case atStart=>exact⟨qb,rb,by first|rfl|rw[hqbd],by first|go_num|rw[hqbd,hP2,eRb]|rw[hP2,eRb]|rw[eRb],Hb,hqb,by omega,hrb,by omega⟩
    case round=>
     obtain⟨a,b,rfl,rfl,He,hQ,hb0,hb,ha⟩:=hrel
     have ha0:0≤a:=by omega
     by_cases h1:4294967296≤a
     ·have hst:=dj (c:=c0) ha0 v1p hb0 Q00 (by omega) c00 v00 He.out hQ Q0b Q0d.out hvp.out (.inl h1)
      by_cases h2:4294967296≤b+v1
      ·have hbr:=cM (by omega) v1p (by omega) Q00 (by omega) c00 v00 hst.1 hst.2.1 Q0d.out hvp.out v0b R1lt.out h2
       obtain rfl:a=Q0+1:=by omega
       clear hst hbr He hQ
       go_wp2
       go_ret2
       exact⟨rfl,rfl⟩
      ·have Hst:=K7 hst.1
       have hq2:=hst.2.1
       have hpos:=hst.2.2
       clear hst He
       go_wp2
       go_round
       case rel=>exact⟨a-1,b+v1,by go_num,by go_num,Hst,hq2,by omega,by omega,by omega⟩
       case measure=>simp[intOf];omega
     ·by_cases h3:b*4294967296+c0<a*v0
      ·have hst:=dj (c:=c0) ha0 v1p hb0 Q00 (by omega) c00 v00 He.out hQ Q0b Q0d.out hvp.out (.inr h3)
       have hpm:a*v0≤4294967295*4294967295:=Int.mul_le_mul (by omega) (by omega) v00 (by omega)
       obtain⟨m,hm⟩:∃ m,a*v0=m:=⟨_,rfl⟩
       rw[hm] at h3 hpm
       by_cases h2:4294967296≤b+v1
       ·have hbr:=cM (by omega) v1p (by omega) Q00 (by omega) c00 v00 hst.1 hst.2.1 Q0d.out hvp.out v0b R1lt.out h2
        have hpos:=hst.2.2
        obtain rfl:a=Q0+1:=by omega
        clear hst hbr He hQ
        go_wp2
        go_ret2
        exact⟨rfl,rfl⟩
       ·have Hst:=K7 hst.1
        have hq2:=hst.2.1
        have hpos:=hst.2.2
        clear hst He
        go_wp2
        go_round
        case rel=>exact⟨a-1,b+v1,by go_num,by go_num,Hst,hq2,by omega,by omega,by omega⟩
        case measure=>simp[intOf];omega
      ·have hbr:=iH ha0 v1p hb0 Q00 (by omega) c00 v00 He.out hQ Q0d.out hvp.out (by omega)
       have hpm0:0≤a*v0:=Int.mul_nonneg ha0 v00
       have h3':a*v0≤b*4294967296+c0:=by omega
       obtain⟨m,hm⟩:∃ m,a*v0=m:=⟨_,rfl⟩
       rw[hm] at h3' hpm0
       clear h3
       obtain rfl:=hbr
       clear He hQ
       go_wp2
       go_ret2
       exact⟨rfl,rfl⟩
   ·have Hst:=K7 hst.1
    have hq2:=hst.2.1
    have hpos:=hst.2.2
    clear hst He
    go_wp2
    go_round
    case rel=>exact⟨a-1,b+v1,by go_num,by go_num,Hst,hq2,by omega,by omega,by omega⟩
    case measure=>simp[intOf];omega
  ·by_cases h3:b*4294967296+c1<a*v0
   ·have hst:=dj (c:=c1) ha0 v1p hb0 Q10 (by omega) c10 v00 He.out hQ Q1b Q1d.out hvp.out (.inr h3)
    have hpm:a*v0≤4294967295*4294967295:=Int.mul_le_mul (by omega) (by omega) v00 (by omega)
    obtain⟨m,hm⟩:∃ m,a*v0=m:=⟨_,rfl⟩
    rw[hm] at h3 hpm
    by_cases h2:4294967296≤b+v1
    ·have hbr:=cM (by omega) v1p (by omega) Q10 (by omega) c10 v00 hst.1 hst.2.1 Q1d.out hvp.out v0b Ult.out h2
     have hpos:=hst.2.2
     obtain rfl:a=Q1+1:=by omega
     clear hst hbr He hQ
     go_wp2
     go_loop [18,16] (fun q r=>∃ a b:Int,q=.int .u64 a∧r=.int .u64 b∧Hid (a*v1+b=R1)∧Q0≤a∧0≤b∧b<4294967296∧a≤18446744073709551615) (fun q _=>(intOf q).toNat)
     case atStart=>exact⟨qb,rb,by first|rfl|rw[hqbd],by first|go_num|rw[hqbd,hP2,eRb]|rw[hP2,eRb]|rw[eRb],Hb,hqb,by omega,hrb,by omega⟩
     case round=>
      obtain⟨a,b,rfl,rfl,He,hQ,hb0,hb,ha⟩:=hrel
      have ha0:0≤a:=by omega
      by_cases h1:4294967296≤a
      ·have hst:=dj (c:=c0) ha0 v1p hb0 Q00 (by omega) c00 v00 He.out hQ Q0b Q0d.out hvp.out (.inl h1)
       by_cases h2:4294967296≤b+v1
       ·have hbr:=cM (by omega) v1p (by omega) Q00 (by omega) c00 v00 hst.1 hst.2.1 Q0d.out hvp.out v0b R1lt.out h2
        obtain rfl:a=Q0+1:=by omega
        clear hst hbr He hQ
        go_wp2
        go_ret2
        exact⟨rfl,rfl⟩
       ·have Hst:=K7 hst.1
        have hq2:=hst.2.1
        have hpos:=hst.2.2
        clear hst He
        go_wp2
        go_round
        case rel=>exact⟨a-1,b+v1,by go_num,by go_num,Hst,hq2,by omega,by omega,by omega⟩
        case measure=>simp[intOf];omega
      ·by_cases h3:b*4294967296+c0<a*v0
       ·have hst:=dj (c:=c0) ha0 v1p hb0 Q00 (by omega) c00 v00 He.out hQ Q0b Q0d.out hvp.out (.inr h3)
        have hpm:a*v0≤4294967295*4294967295:=Int.mul_le_mul (by omega) (by omega) v00 (by omega)
        obtain⟨m,hm⟩:∃ m,a*v0=m:=⟨_,rfl⟩
        rw[hm] at h3 hpm
        by_cases h2:4294967296≤b+v1
        ·have hbr:=cM (by omega) v1p (by omega) Q00 (by omega) c00 v00 hst.1 hst.2.1 Q0d.out hvp.out v0b R1lt.out h2
         have hpos:=hst.2.2
         obtain rfl:a=Q0+1:=by omega
         clear hst hbr He hQ
         go_wp2
         go_ret2
         exact⟨rfl,rfl⟩
        ·have Hst:=K7 hst.1
         have hq2:=hst.2.1
         have hpos:=hst.2.2
         clear hst He
         go_wp2
         go_round
         case rel=>exact⟨a-1,b+v1,by go_num,by go_num,Hst,hq2,by omega,by omega,by omega⟩
         case measure=>simp[intOf];omega
       ·have hbr:=iH ha0 v1p hb0 Q00 (by omega) c00 v00 He.out hQ Q0d.out hvp.out (by omega)
        have hpm0:0≤a*v0:=Int.mul_nonneg ha0 v00
        have h3':a*v0≤b*4294967296+c0:=by omega
        obtain⟨m,hm⟩:∃ m,a*v0=m:=⟨_,rfl⟩
        rw[hm] at h3' hpm0
        clear h3
        obtain rfl:=hbr
        clear He hQ
        go_wp2
        go_ret2
        exact⟨rfl,rfl⟩
    ·have Hst:=K7 hst.1
     have hq2:=hst.2.1
     have hpos:=hst.2.2
     clear hst He
     go_wp2
     go_round
     case rel=>exact⟨a-1,b+v1,by go_num,by go_num,Hst,hq2,by omega,by omega,by omega⟩
     case measure=>simp[intOf];omega
   ·have hbr:=iH ha0 v1p hb0 Q10 (by omega) c10 v00 He.out hQ Q1d.out hvp.out (by omega)
    have hpm0:0≤a*v0:=Int.mul_nonneg ha0 v00
    have h3':a*v0≤b*4294967296+c1:=by omega
    obtain⟨m,hm⟩:∃ m,a*v0=m:=⟨_,rfl⟩
    rw[hm] at h3' hpm0
    clear h3
    obtain rfl:=hbr
    clear He hQ
    go_wp2
    go_loop [18,16] (fun q r=>∃ a b:Int,q=.int .u64 a∧r=.int .u64 b∧Hid (a*v1+b=R1)∧Q0≤a∧0≤b∧b<4294967296∧a≤18446744073709551615) (fun q _=>(intOf q).toNat)
    case atStart=>exact⟨qb,rb,by first|rfl|rw[hqbd],by first|go_num|rw[hqbd,hP2,eRb]|rw[hP2,eRb]|rw[eRb],Hb,hqb,by omega,hrb,by omega⟩
    case round=>
     obtain⟨a,b,rfl,rfl,He,hQ,hb0,hb,ha⟩:=hrel
     have ha0:0≤a:=by omega
     by_cases h1:4294967296≤a
     ·have hst:=dj (c:=c0) ha0 v1p hb0 Q00 (by omega) c00 v00 He.out hQ Q0b Q0d.out hvp.out (.inl h1)
      by_cases h2:4294967296≤b+v1
      ·have hbr:=cM (by omega) v1p (by omega) Q00 (by omega) c00 v00 hst.1 hst.2.1 Q0d.out hvp.out v0b R1lt.out h2
       obtain rfl:a=Q0+1:=by omega
       clear hst hbr He hQ
       go_wp2
       go_ret2
       exact⟨rfl,rfl⟩
      ·have Hst:=K7 hst.1
       have hq2:=hst.2.1
       have hpos:=hst.2.2
       clear hst He
       go_wp2
       go_round
       case rel=>exact⟨a-1,b+v1,by go_num,by go_num,Hst,hq2,by omega,by omega,by omega⟩
       case measure=>simp[intOf];omega
     ·by_cases h3:b*4294967296+c0<a*v0
      ·have hst:=dj (c:=c0) ha0 v1p hb0 Q00 (by omega) c00 v00 He.out hQ Q0b Q0d.out hvp.out (.inr h3)
       have hpm:a*v0≤4294967295*4294967295:=Int.mul_le_mul (by omega) (by omega) v00 (by omega)
       obtain⟨m,hm⟩:∃ m,a*v0=m:=⟨_,rfl⟩
       rw[hm] at h3 hpm
       by_cases h2:4294967296≤b+v1
       ·have hbr:=cM (by omega) v1p (by omega) Q00 (by omega) c00 v00 hst.1 hst.2.1 Q0d.out hvp.out v0b R1lt.out h2
        have hpos:=hst.2.2
        obtain rfl:a=Q0+1:=by omega
        clear hst hbr He hQ
        go_wp2
        go_ret2
        exact⟨rfl,rfl⟩
       ·have Hst:=K7 hst.1
        have hq2:=hst.2.1
        have hpos:=hst.2.2
        clear hst He
        go_wp2
        go_round
        case rel=>exact⟨a-1,b+v1,by go_num,by go_num,Hst,hq2,by omega,by omega,by omega⟩
        case measure=>simp[intOf];omega
      ·have hbr:=iH ha0 v1p hb0 Q00 (by omega) c00 v00 He.out hQ Q0d.out hvp.out (by omega)
       have hpm0:0≤a*v0:=Int.mul_nonneg ha0 v00
       have h3':a*v0≤b*4294967296+c0:=by omega
       obtain⟨m,hm⟩:∃ m,a*v0=m:=⟨_,rfl⟩
       rw[hm] at h3' hpm0
       clear h3
       obtain rfl:=hbr
       clear He hQ
       go_wp2
       go_ret2
       exact⟨rfl,rfl⟩
theorem dE:∀ (k x:Nat),x<2^k→k≤64→x≠0→2^(Lib.bitLen x-1)≤x∧x<2^Lib.bitLen x∧1≤Lib.bitLen x
 | 0,x,h,_,h0=>by simp at h;exact absurd h h0
 | k+1,x,h,hk,h0=>by
  have hx:x<2^64:=Nat.lt_of_lt_of_le h (Nat.pow_le_pow_right (by omega) hk)
  rw[Lib.bitLen_half x h0 hx]
  by_cases h1:x/2=0
  ·have:x=1:=by omega
   subst this
   exact⟨by decide,by decide,by decide⟩
  ·obtain⟨a,b,c⟩:=dE k (x/2) (by rw[Nat.pow_succ] at h;omega) (by omega) h1
   obtain⟨l,hl⟩:∃ l,Lib.bitLen (x/2)=l+1:=⟨_,(Nat.sub_add_cancel c).symm⟩
   rw[hl] at a b ⊢
   rw[Nat.add_sub_cancel] at a
   rw[show 1+(l+1)-1=l+1 by omega,show 1+(l+1)=(l+1)+1 by omega,Nat.pow_succ,Nat.pow_succ _ (l+1)]
   rw[Nat.pow_succ] at b ⊢
   exact⟨by omega,by omega,by omega⟩
theorem B_sq:LimbNum.B=4294967296*4294967296:=by simp[LimbNum.B]
theorem zt (x:Nat):x/4294967296*4294967296+x%4294967296=x:=by omega
theorem Js (U c1 c0 K:Nat):(U*K+c1)*K+c0=U*(K*K)+(c1*K+c0):=by
 rw[Nat.add_mul,Nat.mul_assoc];omega
theorem pg (U c v1 v0 K Q:Nat) (KI:Int) (hK:KI=(K:Int)) (h:Q=(U*K+c)/(v1*K+v0)):(Q:Int)=((U:Int)*KI+c)/((v1:Int)*KI+v0):=by
 subst h;subst hK;simp
theorem dH (n:Nat):IntKind.u64.wrap (n:Int)=((n%LimbNum.B:Nat):Int):=by
 rw[IntKind.wrap_u64];unfold LimbNum.B;omega
theorem wX (hi lo y:Nat) (w:World) (hhi:0<hi) (hlt:hi<y) (hy:y<LimbNum.B) (hlo:lo<LimbNum.B) :
  Calls Tryz.prog 246 #[.int .u64 hi,.int .u64 lo,.int .u64 y] w fun e w'=>e=.returned (.tuple #[.int .u64 (((hi*LimbNum.B+lo)/y:Nat):Int),.int .u64 (((hi*LimbNum.B+lo)%y:Nat):Int)])∧w=w':=by
 have hy0:y≠0:=by omega
 obtain⟨l1,l2,l3⟩:=dE 64 y (by unfold LimbNum.B at hy;exact hy) (K6 _) hy0
 have l4:=fy hy
 obtain⟨s,hs⟩:∃ s,s=64-Lib.bitLen y:=⟨_,rfl⟩
 have hs64:s<64:=by omega
 have hz:∀ w,Calls Tryz.prog 248 #[.int .u64 y] w fun e w'=>e=.returned (.int .i64 ((s:Nat):Int))∧w=w':=by
  intro w
  have:=jF y hy w
  rw[show (64-(Lib.bitLen y:Int))=((s:Nat):Int) by omega] at this
  exact this
 have hp:0<2^s:=Nat.pos_of_ne_zero (by simp)
 have hB64:LimbNum.B=2^(64-s)*2^s:=by rw[←Nat.pow_add,show 64-s+s=64 by omega];rfl
 obtain⟨Y,hY⟩:∃ Y,Y=y*2^s:=⟨_,rfl⟩
 have hYlt:Y<LimbNum.B:=by
  rw[hY,hB64]
  refine Nat.mul_lt_mul_of_pos_right ?_ hp
  rw[show 64-s=Lib.bitLen y by omega];exact l2
 have hYge:9223372036854775808≤Y:=by
  have h1:2^(Lib.bitLen y-1)*2^s≤Y:=by rw[hY];exact Nat.mul_le_mul_right _ l1
  rw[←Nat.pow_add,show Lib.bitLen y-1+s=63 by omega] at h1
  exact h1
 obtain⟨hsh,hlow⟩:=tO (hi:=hi) (s:=s) (by omega) hlo
 obtain⟨U,hU⟩:∃ U,U=hi*2^s+lo/2^(64-s):=⟨_,rfl⟩
 obtain⟨L,hL⟩:∃ L,L=lo*2^s%LimbNum.B:=⟨_,rfl⟩
 rw[←hU,←hL] at hsh
 have hUY:U<Y:=by
  have h1:(hi+1)*2^s≤y*2^s:=Nat.mul_le_mul_right _ hlt
  rw[Nat.add_mul,Nat.one_mul] at h1
  rw[hU,hY];omega
 have hLlt:L<LimbNum.B:=by rw[hL];exact Nat.mod_lt _ aA
 have hhis:hi*2^s<LimbNum.B:=Nat.lt_of_le_of_lt (by rw[hU];exact Nat.le_add_right _ _) (Nat.lt_trans hUY hYlt)
 obtain⟨v1,hv1⟩:∃ v,v=Y/4294967296:=⟨_,rfl⟩
 obtain⟨v0,hv0⟩:∃ v,v=Y%4294967296:=⟨_,rfl⟩
 obtain⟨c1,hc1⟩:∃ v,v=L/4294967296:=⟨_,rfl⟩
 obtain⟨c0,hc0⟩:∃ v,v=L%4294967296:=⟨_,rfl⟩
 have eY:v1*4294967296+v0=Y:=by rw[hv1,hv0];exact zt Y
 have eL:c1*4294967296+c0=L:=by rw[hc1,hc0];exact zt L
 obtain⟨d1,d2⟩:=yg (U:=U) (c0:=c0) (c1:=c1) (b:=4294967296) (Y:=Y) (by omega)
 have hN:(U*4294967296+c1)*4294967296+c0=(hi*LimbNum.B+lo)*2^s:=by
  rw[hsh,←eL,B_sq,Js]
 rw[hN,hY] at d1 d2
 rw[kG.1] at d1
 have hQ1:=pn (A:=U) (c:=c1) (b:=4294967296) (Y:=Y) hUY (by unfold LimbNum.B at hLlt;omega)
 have hR1:=Nat.mod_lt (U*4294967296+c1) (y:=Y) (by omega)
 have hQR:=Nat.div_add_mod (U*4294967296+c1) Y
 rw[hY] at hQ1 hR1 hQR
 obtain⟨Q1,eQ1⟩:∃ q,q=(U*4294967296+c1)/(y*2^s):=⟨_,rfl⟩
 obtain⟨R1,eR1⟩:∃ q,q=(U*4294967296+c1)%(y*2^s):=⟨_,rfl⟩
 rw[←eQ1] at hQ1 hQR d1
 rw[←eR1] at hR1 hQR d1 d2
 rw[←hY] at hR1 hQR d1 d2 eQ1
 have hQ0:=pn (A:=R1) (c:=c0) (b:=4294967296) (Y:=Y) hR1 (by omega)
 have hQR2:=Nat.div_add_mod (R1*4294967296+c0) Y
 obtain⟨Q0,eQ0⟩:∃ q,q=(R1*4294967296+c0)/Y:=⟨_,rfl⟩
 obtain⟨R2,eR2⟩:∃ q,q=(R1*4294967296+c0)%Y:=⟨_,rfl⟩
 rw[←eQ0] at hQ0 hQR2 d1
 rw[←eR2] at hQR2 d2
 have hR2lt:R2<Y:=by rw[eR2];exact Nat.mod_lt _ (by omega)
 have d3:R2/2^s=(hi*LimbNum.B+lo)%y:=by
  rw[←d2,hY];exact kG.2
 have hUB:U<LimbNum.B:=Nat.lt_trans hUY hYlt
 have hv1p:0<v1:=by omega
 have gq1:=fa (A:=U) (c:=c1) (v1:=v1) (v0:=v0) (b:=4294967296) hv1p (by unfold LimbNum.B at hLlt;omega)
 have gq0:=fa (A:=R1) (c:=c0) (v1:=v1) (v0:=v0) (b:=4294967296) hv1p (by omega)
 rw[eY,←eQ1] at gq1
 rw[eY,←eQ0] at gq0
 have mU:=Nat.div_add_mod U v1
 have mR:=Nat.div_add_mod R1 v1
 have lU:=Nat.mod_lt U hv1p
 have lR:=Nat.mod_lt R1 hv1p
 have dU:=Nat.div_le_self U v1
 have dR:=Nat.div_le_self R1 v1
 have mU':U/v1*v1+U%v1=U:=by rw[Nat.mul_comm];exact mU
 have mR':R1/v1*v1+R1%v1=R1:=by rw[Nat.mul_comm];exact mR
 unfold LimbNum.B at hYlt hLlt hUB
 have hv1b:v1<4294967296:=by omega
 have core:=wW hi lo y s Y U L v1 v0 c1 c0 Q1 Q0 R1 R2 (U/v1:Nat) (U%v1:Nat) (R1/v1:Nat) (R1%v1:Nat) (U/v1*v1:Nat) (R1/v1*v1:Nat)
  ((U*4294967296%18446744073709551616:Nat):Int) ((R1*4294967296%18446744073709551616:Nat):Int) ((Q1*Y%18446744073709551616:Nat):Int) ((Q0*Y%18446744073709551616:Nat):Int) w
  (by omega) (by omega) (by omega) (by omega) (by omega) (by omega) hz
  (by rw[Int.toNat_natCast,show ((y:Int)*2^s)=((Y:Nat):Int) by rw[hY];simp,dH];unfold LimbNum.B;omega)
  (by
   rw[Int.toNat_natCast,show ((64:Int)-(s:Int)).toNat=64-s by omega,show ((hi:Int)*2^s)=((hi*2^s:Nat):Int) by simp,dH,Nat.mod_eq_of_lt hhis,
    show ((lo:Int)/2^(64-s))=((lo/2^(64-s):Nat):Int) by simp,bits_or_u64_nat _ _ hhis (Nat.lt_of_le_of_lt (Nat.div_le_self _ _) hlo),gB hlow,hU])
  (by rw[Int.toNat_natCast,show ((lo:Int)*2^s)=((lo*2^s:Nat):Int) by simp,dH,hL])
  (by omega) (by rw[lz Y hYlt];omega) (by omega) (by rw[lz L hLlt];omega) (by omega) (by omega) (by omega) (by omega) (by omega) (by omega) (by omega) (by omega) (by omega) (by omega) (by omega) (by omega) (by omega) (by omega) (by omega)
  (by omega) (by omega) (by omega) (by omega) (by omega) (by omega) (by omega) (by omega)
  (by simp) (by simp) (by omega) (by omega) (K7 (by omega)) (K7 (by exact_mod_cast mU')) (by omega) (by omega)
  (by simp) (by simp) (by omega) (by omega) (K7 (by omega)) (K7 (by exact_mod_cast mR')) (by omega) (by omega)
  (by omega) (by omega) (K7 (pg U c1 v1 v0 4294967296 Q1 4294967296 rfl (by rw[eY];exact eQ1))) (K7 (pg R1 c0 v1 v0 4294967296 Q0 4294967296 rfl (by rw[eY];exact eQ0))) (K7 (by omega)) (K7 (by omega)) (K7 (by omega))
  (by rw[show ((U:Int)*4294967296)=((U*4294967296:Nat):Int) by simp,dH];rfl) (by omega) (by omega)
  (by rw[show ((Q1:Int)*(Y:Int))=((Q1*Y:Nat):Int) by simp,dH];rfl)
  (by rw[IntKind.wrap_u64];rw[Nat.mul_comm Y Q1] at hQR;omega)
  (by rw[show ((R1:Int)*4294967296)=((R1*4294967296:Nat):Int) by simp,dH];rfl) (by omega) (by omega)
  (by rw[show ((Q0:Int)*(Y:Int))=((Q0*Y:Nat):Int) by simp,dH];rfl)
  (by rw[IntKind.wrap_u64];rw[Nat.mul_comm Y Q0] at hQR2;omega)
 rw[d1,←d3]
 refine core.mono ?_
 rintro e w' ⟨rfl,rfl⟩
 refine ⟨?_,rfl⟩
 simp
theorem mL (hi lo y:Nat) (w:World) (hlt:hi<y) (hy:y<LimbNum.B) (hlo:lo<LimbNum.B) :
  Calls Tryz.prog 246 #[.int .u64 hi,.int .u64 lo,.int .u64 y] w fun e w'=>e=.returned (.tuple #[.int .u64 (((hi*LimbNum.B+lo)/y:Nat):Int),.int .u64 (((hi*LimbNum.B+lo)%y:Nat):Int)])∧∃ q,w'=w.drewN q:=by
 by_cases h0:hi=0
 ·subst h0
  have:=Ak lo y w (by omega) hlo
  rw[Nat.zero_mul,Nat.zero_add]
  exact this
 ·refine (wX hi lo y w (by omega) hlt hy hlo).mono ?_
  rintro e w' ⟨rfl,rfl⟩
  exact⟨rfl,0,rfl⟩
theorem Own.drewN {w:World} {B g n:Nat} {xs:List Nat} (h:Own w B g n xs) (q:Nat):Own (w.drewN q) B g n xs:=h
theorem al {B:Nat} {a w:World} (h:Below B a w) (n:Nat):Below B a (w.drewN n):=h.trans ⟨rfl,rfl,rfl,K6 _,fun _ _=>rfl⟩
theorem mS (b1 o1 ca la d:Nat) (xs:List Nat) (w:World) (hla:xs.length=la) (hm:la≤1073741824)
  (hfx:Fit xs) (hd0:0<d) (hd:d<LimbNum.B) (hb1:b1<w.heap.size)
  (hca:∀ i,i<la→w.cell? ⟨b1,o1+i,none⟩=some (.int .u64 ((xs.getD i 0:Nat):Int))) :
  Calls Tryz.prog 210 #[.slice (some ⟨b1,o1,none⟩) la ca,.int .u64 d] w fun e w'=>∃ v,e=.returned (.tuple #[v,.int .u64 ((val xs%d:Nat):Int)])∧Lim w' v (val xs/d)∧Kept w w':=by
 obtain⟨i0,hi,hz0,hz1,hz2⟩:=info_parts Tryz.cd
 obtain⟨a1,a2⟩:=sS hd0 xs
 have hfit:=sT hd0 hfx
 have hlen:=jL d xs
 have hd0':ds d (xs.drop la)=([],0):=by rw[List.drop_of_length_le (by omega)];rfl
 rw[←a1,←a2]
 have Hla:=K7 hla
 have Hlen:=K7 hlen
 clear hla hlen a1 a2
 go_enter Tryz.func210,Tryz.ntmps210
 go_wp2_with (at_make;go_loud (refine wpList_make_full _ rfl _ _ 93 rfl w.heap.size 232 i0 (.int .u64 0) 1 Tryz.underlying93 hi hz0 hz1 .i64 .i64 _ _ la rfl rfl (by omega) (by omega) (by rw[hz2];omega) (by unfold maxLen;omega) (K6 _) ?_);intro w1 hown1 hgrow1)
 rw[aQ] at hown1
 have hO:Own w1 w.heap.size w.heap.size la (List.replicate la 0++(ds d (xs.drop la)).1):=by
  rw[hd0'];exact⟨by simp,by simpa using hown1⟩
 have hB:Below w.heap.size w w1:=(Below.refl _ _).grown hgrow1 (K6 _) (by intro k h;cases h)
 have hr0:(ds d (xs.drop la)).2=0:=by rw[hd0']
 have Hr0:=K7 hr0
 clear hown1 hgrow1 hi hz0 hz1 hz2 hd0' hr0
 generalize hg:w.heap.size=G at *
 have hG:=K7 hg
 clear hg
 go_wp2
 go_loopw [7,8] (fun r i wr=>∃ k:Nat,k≤la∧i=.int .i64 ((k:Int)-1)∧r=.int .u64 (((ds d (xs.drop k)).2:Nat):Int)∧Own wr G G la (List.replicate k 0++(ds d (xs.drop k)).1)∧Below G w wr) (fun _ i _=>(intOf i+1).toNat)
 case atStart=>exact⟨la,K6 _,rfl,by rw[Hr0.out];rfl,hO,hB⟩
 case round=>
  clear hO hB
  obtain⟨k,hk,rfl,rfl,hown,hbel⟩:=hrel
  by_cases hk0:k=0
  ·subst hk0
   rw[show ((0:Nat):Int)-1 = -1 from rfl]
   rw[List.drop_zero] at hown
   have hrow:=hown.row
   have ht:=aU G 0 la la ((ds d xs).1) wr (by rw[Hlen.out,Hla.out]) (by omega) (K6 _) (fun i hi=>by rw[Nat.zero_add];exact hown.cell hi)
   have Ht:=K7 ht
   clear ht
   go_wp2_with (go_at_call 218;refine (Ht.out).mono ?_;rintro e w' ⟨rfl,rfl⟩)
   go_ret2
   refine ⟨_,rfl,?_,by unfold Kept;rw[hG.out];exact hbel⟩
   exact aZ hrow hfit (by rw[Hlen.out,Hla.out];exact K6 _)
  ·obtain⟨j,rfl⟩:∃ j,k=j+1:=⟨k-1,by omega⟩
   rw[show ((j+1:Nat):Int)-1=(j:Int) by omega]
   have hcell:=(hbel.cell (p:=⟨b1,o1+j,none⟩) hb1).trans (hca j (by omega))
   have hstep:=oI d (xs:=xs) (i:=j) (by rw[Hla.out];omega)
   have hrl:=(gi hd0 (xs.drop (j+1))).2
   have hdiv:=fun w=>mL (ds d (xs.drop (j+1))).2 (xs.getD j 0) d w hrl hd (hfx.get j)
   have hold:=hown.cell (i:=j) (by omega)
   have hfree:=hown.free j
   have hset:=fun q=>(hown.drewN q).set j (((ds d (xs.drop (j+1))).2*LimbNum.B+xs.getD j 0)/d)
   rw[jW] at hset
   have e1:(ds d (xs.drop j)).2=((ds d (xs.drop (j+1))).2*LimbNum.B+xs.getD j 0)%d:=by rw[hstep]
   have e2:(ds d (xs.drop j)).1=((ds d (xs.drop (j+1))).2*LimbNum.B+xs.getD j 0)/d::(ds d (xs.drop (j+1))).1:=by rw[hstep]
   rw[←e2] at hset
   rw[←e1] at hdiv
   have Hdiv:=K7 hdiv
   clear hdiv hstep e1 e2 hrl
   generalize ((ds d (xs.drop (j+1))).2*LimbNum.B+xs.getD j 0)/d=qd at *
   generalize hr1:(ds d (xs.drop j)).2=r1 at *
   have Hr1:=K7 hr1
   clear hr1
   generalize (List.replicate (j+1) 0++(ds d (xs.drop (j+1))).1).getD j 0=z at *
   generalize (ds d (xs.drop (j+1))).2=r0 at *
   generalize xs.getD j 0=x at *
   have Hset:=K7 hset
   clear hset
   go_wp2_with (go_at_call 246;refine (Hdiv.out _).mono ?_;rintro e w' ⟨rfl,q,rfl⟩)
   go_roundw
   case rel=>exact⟨j,by omega,by go_num,by rw[Hr1.out],Hset.out _,(al hbel _).setCell (K6 _) _⟩
   case measure=>simp[intOf]
theorem oy (ca d:Nat) (w:World) :
  Calls Tryz.prog 210 #[.slice none 0 ca,.int .u64 d] w fun e w'=>∃ v,e=.returned (.tuple #[v,.int .u64 0])∧Lim w' v 0∧Kept w w':=by
 obtain⟨i0,hi,hz0,hz1,hz2⟩:=info_parts Tryz.cd
 go_enter Tryz.func210,Tryz.ntmps210
 go_wp2_with (at_make;go_loud (refine wpList_make_full _ rfl _ _ 93 rfl w.heap.size 232 i0 (.int .u64 0) 1 Tryz.underlying93 hi hz0 hz1 .i64 .i64 _ _ 0 rfl rfl (by omega) (by omega) (by rw[hz2];omega) (by unfold maxLen;omega) (K6 _) ?_);intro w1 hown1 hgrow1)
 rw[aQ] at hown1
 have hO:Own w1 w.heap.size w.heap.size 0 []:=⟨rfl,hown1⟩
 have hB:Below w.heap.size w w1:=(Below.refl _ _).grown hgrow1 (K6 _) (by intro k h;cases h)
 clear hown1 hgrow1 hi hz0 hz1 hz2
 generalize hg:w.heap.size=G at *
 have hG:=K7 hg
 clear hg
 go_wp2
 go_loopw [7,8] (fun r i wr=>i=.int .i64 (-1)∧r=.int .u64 0∧Own wr G G 0 []∧Below G w wr) (fun _ i _=>0)
 case atStart=>exact⟨rfl,rfl,hO,hB⟩
 case round=>
  clear hO hB
  obtain⟨rfl,rfl,hown,hbel⟩:=hrel
  have hrow:=hown.row
  have ht:=aU G 0 0 0 [] wr rfl (by omega) (K6 _) (fun i hi=>by omega)
  have Ht:=K7 ht
  clear ht
  go_wp2_with (go_at_call 218;refine (Ht.out).mono ?_;rintro e w' ⟨rfl,rfl⟩)
  go_ret2
  refine ⟨_,rfl,?_,by unfold Kept;rw[hG.out];exact hbel⟩
  exact aZ hrow Fit.nil (K6 _)
theorem dK (va:Value) (x d:Nat) (w:World) (ha:Lim w va x) (hx:size x≤1073741824) (hd0:0<d) (hd:d<LimbNum.B) :
  Calls Tryz.prog 210 #[va,.int .u64 d] w fun e w'=>∃ v,e=.returned (.tuple #[v,.int .u64 ((x%d:Nat):Int)])∧Lim w' v (x/d)∧Kept w w':=by
 obtain⟨a1,c1,rfl,_,hr1⟩:=ha
 have e:=au x
 rcases hr1 with ⟨rfl,h1⟩|⟨b1,o1,rfl,hb1,hc1⟩
 ·obtain rfl:x=0:=aF.1 h1
  rw[Nat.zero_mod,Nat.zero_div]
  exact oy c1 d w
 ·have:=mS b1 o1 c1 (size x) d (ai x) w rfl hx (ao _) hd0 hd hb1 hc1
  rwa [e] at this
theorem lL (b1 o1 ca la d:Nat) (xs:List Nat) (w:World) (hla:xs.length=la) (hm:la≤1073741824)
  (hfx:Fit xs) (hd0:0<d) (hd:d<LimbNum.B) (hb1:b1<w.heap.size)
  (hca:∀ i,i<la→w.cell? ⟨b1,o1+i,none⟩=some (.int .u64 ((xs.getD i 0:Nat):Int))) :
  Calls Tryz.prog 210 #[.slice (some ⟨b1,o1,none⟩) la ca,.int .u64 d] w fun e w'=>∃ v,e=.returned (.tuple #[v,.int .u64 ((val xs%d:Nat):Int)])∧Lim w' v (val xs/d)∧Kept w w'∧∃ k c,v=.slice (some ⟨w.heap.size,0,none⟩) k c:=by
 obtain⟨i0,hi,hz0,hz1,hz2⟩:=info_parts Tryz.cd
 obtain⟨a1,a2⟩:=sS hd0 xs
 have hfit:=sT hd0 hfx
 have hlen:=jL d xs
 have hd0':ds d (xs.drop la)=([],0):=by rw[List.drop_of_length_le (by omega)];rfl
 rw[←a1,←a2]
 have Hla:=K7 hla
 have Hlen:=K7 hlen
 clear hla hlen a1 a2
 go_enter Tryz.func210,Tryz.ntmps210
 go_wp2_with (at_make;go_loud (refine wpList_make_full _ rfl _ _ 93 rfl w.heap.size 232 i0 (.int .u64 0) 1 Tryz.underlying93 hi hz0 hz1 .i64 .i64 _ _ la rfl rfl (by omega) (by omega) (by rw[hz2];omega) (by unfold maxLen;omega) (K6 _) ?_);intro w1 hown1 hgrow1)
 rw[aQ] at hown1
 have hO:Own w1 w.heap.size w.heap.size la (List.replicate la 0++(ds d (xs.drop la)).1):=by
  rw[hd0'];exact⟨by simp,by simpa using hown1⟩
 have hB:Below w.heap.size w w1:=(Below.refl _ _).grown hgrow1 (K6 _) (by intro k h;cases h)
 have hr0:(ds d (xs.drop la)).2=0:=by rw[hd0']
 have Hr0:=K7 hr0
 clear hown1 hgrow1 hi hz0 hz1 hz2 hd0' hr0
 generalize hg:w.heap.size=G at *
 have hG:=K7 hg
 clear hg
 go_wp2
 go_loopw [7,8] (fun r i wr=>∃ k:Nat,k≤la∧i=.int .i64 ((k:Int)-1)∧r=.int .u64 (((ds d (xs.drop k)).2:Nat):Int)∧Own wr G G la (List.replicate k 0++(ds d (xs.drop k)).1)∧Below G w wr) (fun _ i _=>(intOf i+1).toNat)
 case atStart=>exact⟨la,K6 _,rfl,by rw[Hr0.out];rfl,hO,hB⟩
 case round=>
  clear hO hB
  obtain⟨k,hk,rfl,rfl,hown,hbel⟩:=hrel
  by_cases hk0:k=0
  ·subst hk0
   rw[show ((0:Nat):Int)-1 = -1 from rfl]
   rw[List.drop_zero] at hown
   have hrow:=hown.row
   have ht:=aU G 0 la la ((ds d xs).1) wr (by rw[Hlen.out,Hla.out]) (by omega) (K6 _) (fun i hi=>by rw[Nat.zero_add];exact hown.cell hi)
   have Ht:=K7 ht
   clear ht
   go_wp2_with (go_at_call 218;refine (Ht.out).mono ?_;rintro e w' ⟨rfl,rfl⟩)
   go_ret2
   refine ⟨_,rfl,?_,by unfold Kept;rw[hG.out];exact hbel,_,_,by rw[hG.out];rfl⟩
   exact aZ hrow hfit (by rw[Hlen.out,Hla.out];exact K6 _)
  ·obtain⟨j,rfl⟩:∃ j,k=j+1:=⟨k-1,by omega⟩
   rw[show ((j+1:Nat):Int)-1=(j:Int) by omega]
   have hcell:=(hbel.cell (p:=⟨b1,o1+j,none⟩) hb1).trans (hca j (by omega))
   have hstep:=oI d (xs:=xs) (i:=j) (by rw[Hla.out];omega)
   have hrl:=(gi hd0 (xs.drop (j+1))).2
   have hdiv:=fun w=>mL (ds d (xs.drop (j+1))).2 (xs.getD j 0) d w hrl hd (hfx.get j)
   have hold:=hown.cell (i:=j) (by omega)
   have hfree:=hown.free j
   have hset:=fun q=>(hown.drewN q).set j (((ds d (xs.drop (j+1))).2*LimbNum.B+xs.getD j 0)/d)
   rw[jW] at hset
   have e1:(ds d (xs.drop j)).2=((ds d (xs.drop (j+1))).2*LimbNum.B+xs.getD j 0)%d:=by rw[hstep]
   have e2:(ds d (xs.drop j)).1=((ds d (xs.drop (j+1))).2*LimbNum.B+xs.getD j 0)/d::(ds d (xs.drop (j+1))).1:=by rw[hstep]
   rw[←e2] at hset
   rw[←e1] at hdiv
   have Hdiv:=K7 hdiv
   clear hdiv hstep e1 e2 hrl
   generalize ((ds d (xs.drop (j+1))).2*LimbNum.B+xs.getD j 0)/d=qd at *
   generalize hr1:(ds d (xs.drop j)).2=r1 at *
   have Hr1:=K7 hr1
   clear hr1
   generalize (List.replicate (j+1) 0++(ds d (xs.drop (j+1))).1).getD j 0=z at *
   generalize (ds d (xs.drop (j+1))).2=r0 at *
   generalize xs.getD j 0=x at *
   have Hset:=K7 hset
   clear hset
   go_wp2_with (go_at_call 246;refine (Hdiv.out _).mono ?_;rintro e w' ⟨rfl,q,rfl⟩)
   go_roundw
   case rel=>exact⟨j,by omega,by go_num,by rw[Hr1.out],Hset.out _,(al hbel _).setCell (K6 _) _⟩
   case measure=>simp[intOf]
theorem mP (ca d:Nat) (w:World) :
  Calls Tryz.prog 210 #[.slice none 0 ca,.int .u64 d] w fun e w'=>∃ v,e=.returned (.tuple #[v,.int .u64 0])∧Lim w' v 0∧Kept w w'∧∃ k c,v=.slice (some ⟨w.heap.size,0,none⟩) k c:=by
 obtain⟨i0,hi,hz0,hz1,hz2⟩:=info_parts Tryz.cd
 go_enter Tryz.func210,Tryz.ntmps210
 go_wp2_with (at_make;go_loud (refine wpList_make_full _ rfl _ _ 93 rfl w.heap.size 232 i0 (.int .u64 0) 1 Tryz.underlying93 hi hz0 hz1 .i64 .i64 _ _ 0 rfl rfl (by omega) (by omega) (by rw[hz2];omega) (by unfold maxLen;omega) (K6 _) ?_);intro w1 hown1 hgrow1)
 rw[aQ] at hown1
 have hO:Own w1 w.heap.size w.heap.size 0 []:=⟨rfl,hown1⟩
 have hB:Below w.heap.size w w1:=(Below.refl _ _).grown hgrow1 (K6 _) (by intro k h;cases h)
 clear hown1 hgrow1 hi hz0 hz1 hz2
 generalize hg:w.heap.size=G at *
 have hG:=K7 hg
 clear hg
 go_wp2
 go_loopw [7,8] (fun r i wr=>i=.int .i64 (-1)∧r=.int .u64 0∧Own wr G G 0 []∧Below G w wr) (fun _ i _=>0)
 case atStart=>exact⟨rfl,rfl,hO,hB⟩
 case round=>
  clear hO hB
  obtain⟨rfl,rfl,hown,hbel⟩:=hrel
  have hrow:=hown.row
  have ht:=aU G 0 0 0 [] wr rfl (by omega) (K6 _) (fun i hi=>by omega)
  have Ht:=K7 ht
  clear ht
  go_wp2_with (go_at_call 218;refine (Ht.out).mono ?_;rintro e w' ⟨rfl,rfl⟩)
  go_ret2
  refine ⟨_,rfl,?_,by unfold Kept;rw[hG.out];exact hbel,_,_,by rw[hG.out];rfl⟩
  exact aZ hrow Fit.nil (K6 _)
theorem mO (va:Value) (x d:Nat) (w:World) (ha:Lim w va x) (hx:size x≤1073741824) (hd0:0<d) (hd:d<LimbNum.B) :
  Calls Tryz.prog 210 #[va,.int .u64 d] w fun e w'=>∃ v,e=.returned (.tuple #[v,.int .u64 ((x%d:Nat):Int)])∧Lim w' v (x/d)∧Kept w w'∧∃ k c,v=.slice (some ⟨w.heap.size,0,none⟩) k c:=by
 obtain⟨a1,c1,rfl,_,hr1⟩:=ha
 have e:=au x
 rcases hr1 with ⟨rfl,h1⟩|⟨b1,o1,rfl,hb1,hc1⟩
 ·obtain rfl:x=0:=aF.1 h1
  rw[Nat.zero_mod,Nat.zero_div]
  exact mP c1 d w
 ·have:=lL b1 o1 c1 (size x) d (ai x) w rfl hx (ao _) hd0 hd hb1 hc1
  rwa [e] at this
end Go.Proofs.YtjbcmmaniphkkaaGreatDoor
