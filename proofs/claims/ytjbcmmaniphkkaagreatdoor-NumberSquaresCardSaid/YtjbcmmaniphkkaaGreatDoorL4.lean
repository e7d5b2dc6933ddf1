import Derived.Test.YtjbcmmaniphkkaaGreatDoorL3
set_option linter.unusedSectionVars false
set_option linter.unusedVariables false
set_option linter.unusedSimpArgs false
set_option maxRecDepth 100000
set_option maxHeartbeats 2000000
namespace Go.Proofs.YtjbcmmaniphkkaaGreatDoor
open Go.RowKit LimbNum
theorem JJ (a b:Nat) (ha:a<LimbNum.B) (hb:b<LimbNum.B):bits .or .u64 (a:Int) (b:Int)=((a ||| b:Nat):Int):=bits_or_u64_nat a b ha hb
theorem qH (b1 o1 ca la sk s:Nat) (C bi:Int) (xs:List Nat) (w:World) (hla:xs.length=la) (hm:la≤1073741824) (hla0:0<la) (hsk:sk≤1073741824)
  (hfx:Fit xs) (hb1:b1<w.heap.size) (hC0:0≤C) (hC1:C/64=(sk:Int)) (hC2:C%64=bi) (bi0:0≤bi) (bi1:bi<64) (hbs:bi.toNat=s)
  (hca:∀ i,i<la→w.cell? ⟨b1,o1+i,none⟩=some (.int .u64 ((xs.getD i 0:Nat):Int))) :
  Calls Tryz.prog 212 #[.slice (some ⟨b1,o1,none⟩) la ca,.int .i64 C] w fun e w'=>∃ v,e=.returned v∧Lim w' v (val xs*2^(64*sk+s))∧Kept w w':=by
 obtain⟨i0,hi,hz0,hz1,hz2⟩:=info_parts Tryz.cd
 have hs64:s<64:=by omega
 have hpl:2^s<LimbNum.B:=Nat.lt_of_lt_of_le (Nat.pow_lt_pow_right (by omega) hs64) (by unfold LimbNum.B;exact K6 _)
 have hall:val (List.replicate sk 0++sl xs (2^s) la)=val xs*2^(64*sk+s):=by
  rw[wz,←hla,zr,yU,Nat.add_zero,←AZ,Nat.mul_comm (val xs),Nat.mul_comm (val xs),Nat.mul_assoc]
 have hfit:Fit (List.replicate sk 0++sl xs (2^s) la):=by
  refine (Fit.gE _).append ?_
  rw[←hla,zr]
  exact eX fun i _=>yT hfx hpl aA _ i
 have hlen:∀ k,(List.replicate sk 0++sl xs (2^s) k).length=la+sk+1:=fun k=>by simp[nB,hla];omega
 have h00:List.replicate sk 0++sl xs (2^s) 0=List.replicate (la+sk+1) 0:=by
  rw[Hy,hla,List.replicate_append_replicate];congr 1;omega
 have Hall:=K7 hall
 have Hlen:=K7 hlen
 have Hla:=K7 hla
 have Hs:=K7 hbs
 clear hall hlen hla hbs
 have hne:((la:Int)==0)=false:=by rw[beq_eq_false_iff_ne];omega
 go_enter Tryz.func212,Tryz.ntmps212
 go_wp2_with (at_make;go_loud (refine wpList_make_full _ rfl _ _ 93 rfl w.heap.size 232 i0 (.int .u64 0) 1 Tryz.underlying93 hi hz0 hz1 .i64 .i64 _ _ (la+sk+1) rfl rfl (by omega) (by omega) (by rw[hz2];omega) (by unfold maxLen;omega) (K6 _) ?_);intro w1 hown1 hgrow1)
 rw[aQ,←h00] at hown1
 have hO:Own w1 w.heap.size w.heap.size (la+sk+1) (List.replicate sk 0++sl xs (2^s) 0):=⟨Hlen.out _,hown1⟩
 have hB:Below w.heap.size w w1:=(Below.refl _ _).grown hgrow1 (K6 _) (by intro k h;cases h)
 clear hown1 hgrow1 hi hz0 hz1 hz2 h00 hC1 hC2
 generalize hg:w.heap.size=G at *
 have hG:=K7 hg
 clear hg
 go_wp2
 go_loopw [26] (fun i wr=>∃ k:Nat,k≤la∧i=.int .i64 k∧Own wr G G (la+sk+1) (List.replicate sk 0++sl xs (2^s) k)∧Below G w wr) (fun i _=>la-(intOf i).toNat)
 case atStart=>exact⟨0,Nat.zero_le _,rfl,hO,hB⟩
 case round=>
  clear hO hB
  obtain⟨k,hk,rfl,hown,hbel⟩:=hrel
  by_cases hlt:k<la
  ·have hcell:=(hbel.cell (p:=⟨b1,o1+k,none⟩) hb1).trans (hca k hlt)
   have hold:=hown.cell (i:=k+sk) (by omega)
   rw[xk,Ka (by rw[Hla.out];omega)] at hold
   have hfree:=hown.free (k+sk)
   have hs1:=hown.set (k+sk) (dZ xs (2^s) 0 la k)
   rw[qF] at hs1
   have hold2:=hs1.cell (i:=k+sk+1) (by omega)
   have hfree2:=hs1.free (k+sk+1)
   have hs2:=hs1.set (k+sk+1) (mulC xs (2^s) 0 (k+1))
   rw[show k+sk+1=(k+1)+sk by omega,qF] at hs2
   have hstep:=Hw (xs:=xs) (f:=2^s) (k:=k)
   rw[Hla.out] at hstep
   rw[hstep,show (k+1)+sk=k+sk+1 by omega] at hs2
   have hor:bits .or .u64 ((mulC xs (2^s) 0 k:Nat):Int) (IntKind.u64.wrap (((xs.getD k 0:Nat):Int)*2^bi.toNat))=((dZ xs (2^s) 0 la k:Nat):Int):=by
    rw[Hs.out,show (((xs.getD k 0:Nat):Int)*2^s)=((xs.getD k 0*2^s:Nat):Int) by simp,dH,JJ _ _ (Nat.lt_trans (kP hfx (Nat.pos_of_ne_zero (by simp)) k) hpl) (Nat.mod_lt _ aA),xA hfx (by omega) (by rw[Hla.out];exact hlt),Hla.out]
   have hshr:((xs.getD k 0:Nat):Int)/2^(64-bi).toNat=((mulC xs (2^s) 0 (k+1):Nat):Int):=by
    rw[show (64-bi).toNat=64-s by have:=Hs.out;omega,xz hfx (by omega)];simp
   have Hs2:=K7 hs2
   clear hstep hs1 hs2
   generalize xs.getD k 0=x at *
   generalize dZ xs (2^s) 0 la k=d at *
   generalize mulC xs (2^s) 0 (k+1)=c2 at *
   generalize mulC xs (2^s) 0 k=c1 at *
   generalize (List.replicate sk 0++(sl xs (2^s) k).set k d).getD (k+sk+1) 0=z at *
   go_wp2
   go_roundw
   case rel=>exact⟨k+1,by omega,by go_num,Hs2.out,(hbel.setCell (K6 _) _).setCell (K6 _) _⟩
   case measure=>simp[intOf];omega
  ·obtain rfl:k=la:=by omega
   have hrow:=hown.row
   have ht:=aU G 0 (k+sk+1) (k+sk+1) (List.replicate sk 0++sl xs (2^s) k) wr (Hlen.out _) (by omega) (K6 _) (fun i hi=>by rw[Nat.zero_add];exact hown.cell hi)
   have Ht:=K7 ht
   clear ht
   go_wp2_with (go_at_call 218;refine (Ht.out).mono ?_;rintro e w' ⟨rfl,rfl⟩)
   go_ret
   refine ⟨_,rfl,?_,by unfold Kept;rw[hG.out];exact hbel⟩
   rw[←Hall.out]
   exact aZ hrow hfit (by rw[Hlen.out];exact K6 _)
theorem qG (va:Option Addr) (ca:Nat) (C:Int) (w:World) :
  Calls Tryz.prog 212 #[.slice va 0 ca,.int .i64 C] w fun e w'=>e=.returned (.slice none 0 0)∧w=w':=by
 go_enter Tryz.func212,Tryz.ntmps212
 go_wp2
 go_ret
 exact⟨rfl,rfl⟩
theorem kl (va:Value) (x c:Nat) (w:World) (ha:Lim w va x) (hx:size x≤1073741824) (hc:c≤1073741824) :
  Calls Tryz.prog 212 #[va,.int .i64 (c:Int)] w fun e w'=>∃ v,e=.returned v∧Lim w' v (x*2^c)∧Kept w w':=by
 obtain⟨a1,c1,rfl,_,hr1⟩:=ha
 have e:=au x
 by_cases h0:x=0
 ·subst h0
  refine (qG a1 c1 c w).mono ?_
  rintro e w' ⟨rfl,rfl⟩
  rw[Nat.zero_mul]
  exact⟨_,rfl,Lim.fe _,Below.refl _ _⟩
 ·rcases hr1 with ⟨rfl,h1⟩|⟨b1,o1,rfl,hb1,hc1⟩
  ·exact absurd (aF.1 h1) h0
  ·have:=qH b1 o1 c1 (size x) (c/64) (c%64) (c:Int) ((c%64:Nat):Int) (ai x) w rfl hx (size_pos.2 h0) (by omega) (ao _) hb1 (by omega) (by omega) (by omega) (by omega) (by omega) (by omega) hc1
   rw[e,show 64*(c/64)+c%64=c by omega] at this
   exact this
theorem oD (b1 o1 ca la s:Nat) (bi:Int) (xs:List Nat) (w:World) (hla:xs.length=la) (hm:la≤1073741824)
  (hfx:Fit xs) (hb1:b1<w.heap.size) (bi0:0≤bi) (bi1:bi<64) (hbs:bi.toNat=s)
  (hca:∀ i,i<la→w.cell? ⟨b1,o1+i,none⟩=some (.int .u64 ((xs.getD i 0:Nat):Int))) :
  Calls Tryz.prog 250 #[.slice (some ⟨b1,o1,none⟩) la ca,.int .u64 bi] w fun e w'=>∃ v,e=.returned v∧Lim w' v (val xs/2^s)∧Kept w w':=by
 obtain⟨i0,hi,hz0,hz1,hz2⟩:=info_parts Tryz.cd
 have hs64:s<64:=by omega
 have hall:val (sr xs s la)=val xs/2^s:=by rw[←hla];exact Kd (by omega)
 have hfit:Fit (sr xs s la):=by
  rw[←hla,zu]
  intro x hx
  obtain⟨i,_,rfl⟩:=List.mem_map.1 hx
  exact Kb hfx (by omega)
 have hlen:∀ k,(sr xs s k).length=la:=fun k=>by rw[nD,hla]
 have h00:=Ic xs s
 rw[hla] at h00
 have Hall:=K7 hall
 have Hlen:=K7 hlen
 have Hla:=K7 hla
 have Hs:=K7 hbs
 clear hall hlen hla hbs
 go_enter Tryz.func250,Tryz.ntmps250
 go_wp2_with (at_make;go_loud (refine wpList_make_full _ rfl _ _ 93 rfl w.heap.size 232 i0 (.int .u64 0) 1 Tryz.underlying93 hi hz0 hz1 .i64 .i64 _ _ la rfl rfl (by omega) (by omega) (by rw[hz2];omega) (by unfold maxLen;omega) (K6 _) ?_);intro w1 hown1 hgrow1)
 rw[aQ,←h00] at hown1
 have hO:Own w1 w.heap.size w.heap.size la (sr xs s 0):=⟨Hlen.out _,hown1⟩
 have hB:Below w.heap.size w w1:=(Below.refl _ _).grown hgrow1 (K6 _) (by intro k h;cases h)
 clear hown1 hgrow1 hi hz0 hz1 hz2 h00
 generalize hg:w.heap.size=G at *
 have hG:=K7 hg
 clear hg
 go_wp2
 go_loopw [13] (fun i wr=>∃ k:Nat,k≤la∧i=.int .i64 k∧Own wr G G la (sr xs s k)∧Below G w wr) (fun i _=>la-(intOf i).toNat)
 case atStart=>exact⟨0,Nat.zero_le _,rfl,hO,hB⟩
 case round=>
  clear hO hB
  obtain⟨k,hk,rfl,hown,hbel⟩:=hrel
  by_cases hlt:k<la
  ·have hcell:=(hbel.cell (p:=⟨b1,o1+k,none⟩) hb1).trans (hca k hlt)
   have hshr:((xs.getD k 0:Nat):Int)/2^bi.toNat=((xs.getD k 0/2^s:Nat):Int):=by rw[Hs.out];simp
   have hold:=hown.cell (i:=k) hlt
   have hfree:=hown.free k
   have hs1:=hown.set k (xs.getD k 0/2^s)
   by_cases hk0:k=0
   ·subst hk0
    rw[EH] at hs1
    have Hs1:=K7 hs1
    clear hs1
    generalize xs.getD 0 0/2^s=d at *
    generalize xs.getD 0 0=x at *
    generalize (sr xs s 0).getD 0 0=z at *
    rw[show ((0:Nat):Int)=0 from rfl] at *
    rw[Nat.add_zero] at hcell
    go_wp2
    go_roundw
    case rel=>exact⟨1,by omega,by go_num,Hs1.out,hbel.setCell (K6 _) _⟩
    case measure=>simp[intOf];omega
   ·obtain⟨j,rfl⟩:∃ j,k=j+1:=⟨k-1,by omega⟩
    have hold2:=hs1.cell (i:=j) (by omega)
    rw[yd (by rw[Hla.out];exact hlt)] at hold2
    have hfree2:=hs1.free j
    have hs2:=hs1.set j (srD xs s j)
    rw[Ib] at hs2
    have hor:bits .or .u64 ((xs.getD j 0/2^s:Nat):Int) (IntKind.u64.wrap (((xs.getD (j+1) 0:Nat):Int)*2^(64-bi).toNat))=((srD xs s j:Nat):Int):=by
     rw[show (64-bi).toNat=64-s by have:=Hs.out;omega,show (((xs.getD (j+1) 0:Nat):Int)*2^(64-s))=((xs.getD (j+1) 0*2^(64-s):Nat):Int) by simp,dH,
      JJ _ _ (Nat.lt_of_le_of_lt (Nat.div_le_self _ _) (hfx.get j)) (Nat.mod_lt _ aA),Lf hfx (by omega)]
    have Hs2:=K7 hs2
    clear hs1 hs2
    rw[show ((j+1:Nat):Int)=(j:Int)+1 from by omega] at *
    generalize xs.getD (j+1) 0/2^s=d at *
    generalize srD xs s j=d2 at *
    generalize xs.getD j 0/2^s=d3 at *
    generalize xs.getD (j+1) 0=x at *
    generalize (sr xs s (j+1)).getD (j+1) 0=z at *
    have hp1:(0:Int)<(j:Int)+1:=by omega
    go_wp2
    go_roundw
    case rel=>exact⟨j+2,by omega,by go_num,Hs2.out,(hbel.setCell (K6 _) _).setCell (K6 _) _⟩
    case measure=>simp[intOf];omega
  ·obtain rfl:k=la:=by omega
   have hrow:=hown.row
   have ht:=aU G 0 k k (sr xs s k) wr (Hlen.out _) (by omega) (K6 _) (fun i hi=>by rw[Nat.zero_add];exact hown.cell hi)
   have Ht:=K7 ht
   clear ht
   go_wp2_with (go_at_call 218;refine (Ht.out).mono ?_;rintro e w' ⟨rfl,rfl⟩)
   go_ret
   refine ⟨_,rfl,?_,by unfold Kept;rw[hG.out];exact hbel⟩
   rw[←Hall.out]
   exact aZ hrow hfit (by rw[Hlen.out];exact K6 _)
theorem qJ (ca:Nat) (bi:Int) (w:World) :
  Calls Tryz.prog 250 #[.slice none 0 ca,.int .u64 bi] w fun e w'=>∃ v,e=.returned v∧Lim w' v 0∧Kept w w':=by
 obtain⟨i0,hi,hz0,hz1,hz2⟩:=info_parts Tryz.cd
 go_enter Tryz.func250,Tryz.ntmps250
 go_wp2_with (at_make;go_loud (refine wpList_make_full _ rfl _ _ 93 rfl w.heap.size 232 i0 (.int .u64 0) 1 Tryz.underlying93 hi hz0 hz1 .i64 .i64 _ _ 0 rfl rfl (by omega) (by omega) (by rw[hz2];omega) (by unfold maxLen;omega) (K6 _) ?_);intro w1 hown1 hgrow1)
 rw[aQ] at hown1
 have hO:Own w1 w.heap.size w.heap.size 0 []:=⟨rfl,hown1⟩
 have hB:Below w.heap.size w w1:=(Below.refl _ _).grown hgrow1 (K6 _) (by intro k h;cases h)
 clear hown1 hgrow1 hi hz0 hz1 hz2
 generalize hg:w.heap.size=G at *
 have hG:=K7 hg
 clear hg
 go_wp2
 go_loopw [13] (fun i wr=>i=.int .i64 0∧Own wr G G 0 []∧Below G w wr) (fun i _=>0)
 case atStart=>exact⟨rfl,hO,hB⟩
 case round=>
  clear hO hB
  obtain⟨rfl,hown,hbel⟩:=hrel
  have hrow:=hown.row
  have ht:=aU G 0 0 0 [] wr rfl (by omega) (K6 _) (fun i hi=>by omega)
  have Ht:=K7 ht
  clear ht
  go_wp2_with (go_at_call 218;refine (Ht.out).mono ?_;rintro e w' ⟨rfl,rfl⟩)
  go_ret
  refine ⟨_,rfl,?_,by unfold Kept;rw[hG.out];exact hbel⟩
  exact aZ hrow Fit.nil (K6 _)
theorem qK (a1:Option Addr) (ca s:Nat) (bi:Int) (xs:List Nat) (w:World) (hr:cQ w a1 xs) (hfx:Fit xs) (hm:xs.length≤1073741824) (bi0:0≤bi) (bi1:bi<64) (hbs:bi.toNat=s) :
  Calls Tryz.prog 250 #[.slice a1 xs.length ca,.int .u64 bi] w fun e w'=>∃ v,e=.returned v∧Lim w' v (val xs/2^s)∧Kept w w':=by
 rcases hr with ⟨rfl,rfl⟩|⟨b1,o1,rfl,hb1,hc1⟩
 ·have:=qJ ca bi w
  simpa [val] using this
 ·exact oD b1 o1 ca xs.length s bi xs w rfl hm hfx hb1 bi0 bi1 hbs hc1
theorem pF {h b l l2 a d1:Nat} (hp:h*LimbNum.B+l=a*d1) (hl2:l2<LimbNum.B) (hc:b<h∨b=h∧l2<l):b*LimbNum.B+l2<a*d1:=by
 rw[←hp]
 rcases hc with hc|⟨rfl,hc⟩
 ·have:=Nat.mul_le_mul_right LimbNum.B (Nat.succ_le_of_lt hc)
  rw[Nat.succ_mul] at this
  omega
 ·omega
theorem pE (l0 l1 l2 d0 d1:Nat) (w:World) (_h0:l0<LimbNum.B) (h1:l1<LimbNum.B) (h2:l2<LimbNum.B) (k0:d0<LimbNum.B) (k1:d1<LimbNum.B) (hlt:l0<d0) :
  Calls Tryz.prog 249 #[.agg #[.int .u64 l0,.int .u64 l1,.int .u64 l2],.agg #[.int .u64 d0,.int .u64 d1]] w fun e w'=>∃ g:Nat,e=.returned (.int .u64 g)∧(((l0*LimbNum.B+l1)*LimbNum.B+l2)/(d0*LimbNum.B+d1)≤g∧g<LimbNum.B)∧Kept w w':=by
 have hdiv:=fun w=>mL l0 l1 d0 w hlt k0 h1
 have hA:=Nat.div_add_mod (l0*LimbNum.B+l1) d0
 rw[Nat.mul_comm] at hA
 have hdp:0<d0*LimbNum.B+d1:=by have:=Nat.mul_pos (show 0<d0 by omega) aA;omega
 have hfst:=fa (A:=l0*LimbNum.B+l1) (c:=l2) (v1:=d0) (v0:=d1) (b:=LimbNum.B) (by omega) h2
 have hdl:=pn (A:=l0) (c:=l1) (b:=LimbNum.B) (Y:=d0) hlt h1
 have hrl:(l0*LimbNum.B+l1)%d0<LimbNum.B:=Nat.lt_trans (Nat.mod_lt _ (by omega)) k0
 obtain⟨Q,hQ⟩:∃ Q,Q=((l0*LimbNum.B+l1)*LimbNum.B+l2)/(d0*LimbNum.B+d1):=⟨_,rfl⟩
 rw[←hQ] at hfst ⊢
 obtain⟨A,hAe⟩:∃ A,A=l0*LimbNum.B+l1:=⟨_,rfl⟩
 rw[←hAe] at hA hfst hdl hrl hdiv hQ
 have Hdiv:=K7 hdiv
 have HA:=K7 hA
 have HQ:=K7 hQ
 have Hdp:=K7 hdp
 clear hdiv hA hAe hQ hdp
 have Hdl:=K7 hdl
 have Hrl:=K7 hrl
 generalize A/d0=q at *
 generalize A%d0=r at *
 clear hdl hrl
 go_enter Tryz.func249,Tryz.ntmps249
 go_wp2_with (go_at_call 246;refine (Hdiv.out _).mono ?_;rintro e w' ⟨rfl,q',rfl⟩)
 go_loop [5,6] (fun x y=>∃ a b:Nat,x=.int .u64 a∧y=.int .u64 b∧Hid (a*d0+b=A)∧Q≤a∧Hid (a<LimbNum.B∧b<LimbNum.B)) (fun x _=>(intOf x).toNat)
 case atStart=>exact⟨q,r,rfl,rfl,HA,hfst,K7 ⟨Hdl.out,Hrl.out⟩⟩
 case round=>
  obtain⟨a,b,rfl,rfl,He,hQa,Hab⟩:=hrel
  have hmul:=K7 fun w=>jM a d1 Hab.out.1 k1 w
  have hp:=Nat.div_add_mod (a*d1) LimbNum.B
  rw[Nat.mul_comm] at hp
  have hll:a*d1%LimbNum.B<LimbNum.B:=Nat.mod_lt _ aA
  generalize a*d1/LimbNum.B=h at *
  generalize a*d1%LimbNum.B=l at *
  have hab:(a:Int)≤18446744073709551615:=by have:=Hab.out.1;unfold LimbNum.B at this;omega
  by_cases c1:h<b
  ·clear hp hll
   go_wp2_with (go_at_call 216;refine (hmul.out _).mono ?_;rintro e w' ⟨rfl,rfl⟩)
   go_ret
   exact⟨a,rfl,⟨hQa,Hab.out.1⟩,al (((Below.refl _ _).alloc (K6 _) _).alloc (by simp) _) _⟩
  by_cases c2:h=b
  ·subst c2
   by_cases c3:l≤l2
   ·clear hp hll
    have hirr:¬h<h:=Nat.lt_irrefl h
    go_wp2_with (go_at_call 216;refine (hmul.out _).mono ?_;rintro e w' ⟨rfl,rfl⟩)
    go_ret
    exact⟨a,rfl,⟨hQa,Hab.out.1⟩,al (((Below.refl _ _).alloc (K6 _) _).alloc (by simp) _) _⟩
   ·have hirr:¬h<h:=Nat.lt_irrefl h
    revert hmul
    intro hmul
    have hgm:=pF hp h2 (.inr ⟨rfl,by omega⟩)
    obtain⟨hq1,hq2⟩:=fL (c:=l2) He.out Hdp.out hgm
    rw[←HQ.out] at hq1
    obtain⟨p,rfl⟩:∃ p,a=p+1:=⟨a-1,by omega⟩
    rw[Nat.add_sub_cancel] at hq1
    have hadd:=bV h d0 0 (by omega)
    rw[show ((0:Nat):Int)=0 from rfl] at hadd
    have hsum:=Nat.div_add_mod (h+d0+0) LimbNum.B
    have hsl:(h+d0+0)%LimbNum.B<LimbNum.B:=Nat.mod_lt _ aA
    generalize (h+d0+0)/LimbNum.B=o at *
    generalize (h+d0+0)%LimbNum.B=r1 at *
    have Hp:=K7 (Nat.lt_of_succ_lt Hab.out.1)
    skip
    clear hp hll hgm hq2
    obtain⟨pI,hpI⟩:∃ pI:Int,(p:Int)=pI:=⟨_,rfl⟩
    have eI:((p+1:Nat):Int)=pI+1:=by omega
    rw[eI] at hab hmul ⊢
    have hp0:0≤pI:=by omega
    have HpI:=K7 hpI
    clear eI hpI
    by_cases ho:o=0
    ·subst ho
     have hr1:r1=h+d0:=by omega
     have He2:Hid (p*d0+r1=A):=K7 (by rw[hr1,←He.out,Nat.add_mul];omega)
     have Hr:=K7 hsl
     have Hq1:=K7 hq1
     clear hsum hr1 hsl hq1
     go_wp2_with (go_at_call 216;refine (hmul.out _).mono ?_;rintro e w' ⟨rfl,rfl⟩)
     go_round
     case rel=>exact⟨p,r1,by rw[HpI.out],rfl,He2,Hq1.out,K7 ⟨Hp.out,Hr.out⟩⟩
     case measure=>simp[intOf];omega
    ·have hob:((o:Int)==0)=false:=by rw[beq_eq_false_iff_ne];omega
     have hob2:((o:Int) != 0)=true:=by rw[bne_iff_ne];omega
     have hop:0<(o:Int):=by omega
     have Hq1:=K7 hq1
     clear hsum hsl hq1 ho
     go_wp2_with (go_at_call 216;refine (hmul.out _).mono ?_;rintro e w' ⟨rfl,rfl⟩)
     go_ret
     exact⟨p,by rw[HpI.out];rfl,⟨Hq1.out,Hp.out⟩,al (((Below.refl _ _).alloc (K6 _) _).alloc (by simp) _) _⟩
  ·have hne:((h:Int)==b)=false:=by rw[beq_eq_false_iff_ne];omega
   have c4:b<h:=by omega
   clear c1 c2
   have hgm:=pF hp h2 (.inl c4)
   obtain⟨hq1,hq2⟩:=fL (c:=l2) He.out Hdp.out hgm
   rw[←HQ.out] at hq1
   obtain⟨p,rfl⟩:∃ p,a=p+1:=⟨a-1,by omega⟩
   rw[Nat.add_sub_cancel] at hq1
   have hadd:=bV b d0 0 (by omega)
   rw[show ((0:Nat):Int)=0 from rfl] at hadd
   have hsum:=Nat.div_add_mod (b+d0+0) LimbNum.B
   have hsl:(b+d0+0)%LimbNum.B<LimbNum.B:=Nat.mod_lt _ aA
   generalize (b+d0+0)/LimbNum.B=o at *
   generalize (b+d0+0)%LimbNum.B=r1 at *
   have Hp:=K7 (Nat.lt_of_succ_lt Hab.out.1)
   skip
   clear hp hll hgm hq2
   obtain⟨pI,hpI⟩:∃ pI:Int,(p:Int)=pI:=⟨_,rfl⟩
   have eI:((p+1:Nat):Int)=pI+1:=by omega
   rw[eI] at hab hmul ⊢
   have hp0:0≤pI:=by omega
   have HpI:=K7 hpI
   clear eI hpI
   by_cases ho:o=0
   ·subst ho
    have hr1:r1=b+d0:=by omega
    have He2:Hid (p*d0+r1=A):=K7 (by rw[hr1,←He.out,Nat.add_mul];omega)
    have Hr:=K7 hsl
    have Hq1:=K7 hq1
    clear hsum hr1 hsl hq1
    go_wp2_with (go_at_call 216;refine (hmul.out _).mono ?_;rintro e w' ⟨rfl,rfl⟩)
    go_round
    case rel=>exact⟨p,r1,by rw[HpI.out],rfl,He2,Hq1.out,K7 ⟨Hp.out,Hr.out⟩⟩
    case measure=>simp[intOf];omega
   ·have hob:((o:Int)==0)=false:=by rw[beq_eq_false_iff_ne];omega
    have hob2:((o:Int) != 0)=true:=by rw[bne_iff_ne];omega
    have hop:0<(o:Int):=by omega
    have Hq1:=K7 hq1
    clear hsum hsl hq1 ho
    go_wp2_with (go_at_call 216;refine (hmul.out _).mono ?_;rintro e w' ⟨rfl,rfl⟩)
    go_ret
    exact⟨p,by rw[HpI.out];rfl,⟨Hq1.out,Hp.out⟩,al (((Below.refl _ _).alloc (K6 _) _).alloc (by simp) _) _⟩
theorem oA (l0 l1 l2 d0 d1:Nat) (w:World) (hle:d0≤l0) :
  Calls Tryz.prog 249 #[.agg #[.int .u64 l0,.int .u64 l1,.int .u64 l2],.agg #[.int .u64 d0,.int .u64 d1]] w fun e w'=>e=.returned (.int .u64 ((LimbNum.B-1:Nat):Int))∧Kept w w':=by
 have hB:((LimbNum.B-1:Nat):Int)=18446744073709551615:=by simp[LimbNum.B]
 rw[hB]
 clear hB
 go_enter Tryz.func249,Tryz.ntmps249
 go_wp2
 go_ret
 exact⟨rfl,(((Below.refl _ _).alloc (K6 _) _).alloc (by simp) _)⟩
theorem pD (l0 l1 l2 d0 d1:Nat) (w:World) (h0:l0<LimbNum.B) (h1:l1<LimbNum.B) (h2:l2<LimbNum.B) (k0:d0<LimbNum.B) (k1:d1<LimbNum.B) :
  Calls Tryz.prog 249 #[.agg #[.int .u64 l0,.int .u64 l1,.int .u64 l2],.agg #[.int .u64 d0,.int .u64 d1]] w fun e w'=>∃ g:Nat,e=.returned (.int .u64 g)∧(l0<d0→((l0*LimbNum.B+l1)*LimbNum.B+l2)/(d0*LimbNum.B+d1)≤g)∧(d0≤l0→g=LimbNum.B-1)∧g<LimbNum.B∧Kept w w':=by
 by_cases hlt:l0<d0
 ·refine (pE l0 l1 l2 d0 d1 w h0 h1 h2 k0 k1 hlt).mono ?_
  rintro e w' ⟨g,rfl,⟨ha,hb⟩,hk⟩
  exact⟨g,rfl,fun _=>ha,fun h=>absurd h (by omega),hb,hk⟩
 ·refine (oA l0 l1 l2 d0 d1 w (by omega)).mono ?_
  rintro e w' ⟨rfl,hk⟩
  exact⟨_,rfl,fun h=>absurd h hlt,fun _=>rfl,by have:=aA;omega,hk⟩
end Go.Proofs.YtjbcmmaniphkkaaGreatDoor
