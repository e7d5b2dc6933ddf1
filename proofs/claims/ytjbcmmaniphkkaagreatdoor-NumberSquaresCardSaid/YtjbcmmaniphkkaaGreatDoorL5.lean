import Derived.StillTailTactics
import Derived.Laws.CopyOwn
import Derived.Test.YtjbcmmaniphkkaaGreatDoorL4
set_option linter.unusedSectionVars false
set_option linter.unusedVariables false
set_option linter.unusedSimpArgs false
set_option maxRecDepth 100000
set_option maxHeartbeats 4000000
namespace Go.Proofs.YtjbcmmaniphkkaaGreatDoor
open Go.RowKit LimbNum
theorem Own.block {w:World} {B g n:Nat} {xs:List Nat} (h:Own w B g n xs):w.heap[g]?=some (.cells (cellsOf xs).toArray 232 (0,0)):=by
 rcases h.2.2 with ⟨h',_⟩|⟨g',cap',cur,h',hb,hg,hnc,hcm,hcs,htake⟩
 ·simp at h'
 ·simp only[Value.slice.injEq,K5,Addr.mk.injEq,and_true,true_and] at h'
  obtain⟨rfl,rfl⟩:=h'
  rw[hg,←htake]
  congr 2
  rw[List.take_of_length_le (by rw[Array.length_toList,hcs];exact K6 _)]
theorem Own.mk' {w:World} {B g n:Nat} {xs:List Nat} (h:w.heap[g]?=some (.cells (cellsOf xs).toArray 232 (0,0))) (hB:B≤g) (hn:xs.length=n) (hm:n≤1099511627776):Own w B g n xs:=by
 refine ⟨hn,by rw[cA,hn,Nat.mul_one],.inr ⟨g,n,_,rfl,hB,h,K6 _,by unfold maxLen;omega,by simp[cA,hn],?_⟩⟩
 rw[List.take_of_length_le (by rw[cA,hn,Nat.mul_one];exact K6 _)]
theorem Own.base {w:World} {B B' g n:Nat} {xs:List Nat} (h:Own w B g n xs) (hB:B'≤g) (hm:n≤1099511627776):Own w B' g n xs:=Own.mk' h.block hB h.1 hm
theorem Own.same {w w':World} {B g n:Nat} {xs:List Nat} (h:Own w B g n xs) (hm:n≤1099511627776) (he:w'.heap[g]?=w.heap[g]?):Own w' B g n xs:=Own.mk' (he.trans h.block) h.lt.2 h.1 hm
theorem Own.kept {w w':World} {B g n:Nat} {xs:List Nat} (h:Own w B g n xs) (hm:n≤1099511627776) (k:Kept w w'):Own w' B g n xs:=h.same hm (k.block g h.lt.1)
theorem Own.other {w:World} {B g n g' i:Nat} {xs:List Nat} {u:Value} (h:Own w B g n xs) (hm:n≤1099511627776) (hne:g≠g'):Own (w.setCell ⟨g',i,none⟩ u) B g n xs:=
 h.same hm (heap_setCell_other w ⟨g',i,none⟩ g u (by simpa using hne))
theorem vX {y s n:Nat} (h:y*2^s<LimbNum.B^n) (hn:size y=n):size (y*2^s)=n:=by
 refine Nat.le_antisymm (size_le h) ?_
 rw[←hn]
 exact aK (Nat.le_mul_of_pos_right _ (Nat.pos_of_ne_zero (by simp)))
theorem Tryz.EE:(Tryz.prog.info? 232).map (·.size)=some 1:=by kernel_rfl
theorem Ab {w:World} {b o:Nat} {xs:List Nat} (h:∀ i,i<xs.length→w.cell? ⟨b,o+i,none⟩=some (.int .u64 ((xs.getD i 0:Nat):Int))) :
  ∀ j v,(cellsOf xs)[j]?=some v→w.cell? ((⟨b,o,none⟩:Addr).add j)=some v:=by
 intro j v hv
 by_cases hj:j<xs.length
 ·rw[eV hj] at hv
  rw[←hv,←h j hj]
  unfold Addr.add
  by_cases h0:j=0
  ·subst h0;rfl
  ·rw[if_neg h0]
 ·rw[List.getElem?_eq_none (by rw[cA];omega)] at hv;cases hv
theorem Aa {xs:List Nat}:∀ v∈cellsOf xs,v.oneCell'=true:=by
 intro v hv
 obtain⟨x,_,rfl⟩:=List.mem_map.1 hv
 rfl
theorem tR (xs:List Nat) (n:Nat):splice (cellsOf (List.replicate n 0)) 0 (cellsOf xs)=cellsOf (xs++List.replicate (n-xs.length) 0):=by
 simp[splice,cellsOf,List.drop_replicate]
theorem vV (w:World):(sizeOf 232).run Tryz.prog w=.ok 1 w:=by kernel_rfl
theorem dP (b off len cap i:Nat) (h:i<len) (w:World) :
  (Instr.indexAt 93 (.slice (some ⟨b,off,none⟩) len cap) (.int .i64 (i:Int))).run Tryz.prog w=.ok (.pointer (some ⟨b,off+i,none⟩)) w:=by
 rw[run_indexAt_slice w 93 ⟨b,off,none⟩ len cap .i64 i (by kernel_rfl),if_pos ⟨by omega,by omega⟩]
 rw[show Tryz.prog.elem 93=232 by kernel_rfl,vV]
 simp only[Result.andThen,Int.toNat_natCast,Nat.mul_one,Addr.add]
 by_cases h0:i=0
 ·subst h0;rfl
 ·rw[if_neg h0]
theorem ko (b off n c:Nat) (xs:List Nat) (w:World) (hn:xs.length=n) (hm:n≤1099511627776) (hnc:n≤c)
  (hc:∀ i,i<n→w.cell? ⟨b,off+i,none⟩=some (.int .u64 ((xs.getD i 0:Nat):Int))) :
  Calls Tryz.prog 218 #[.slice (some ⟨b,off,none⟩) n c] w fun e w'=>e=.returned (.slice (some ⟨b,off,none⟩) (bn xs) c)∧w'=w:=
 (aU b off n c xs w hn hm hnc hc).mono fun _ _ ⟨h1,h2⟩=>⟨h1,h2.symm⟩
theorem qI (va:Value) (x s:Nat) (w:World) (ha:Lim w va x) (hx:size x≤1073741824) (hs:s<64) :
  Calls Tryz.prog 250 #[va,.int .u64 (s:Int)] w fun e w'=>∃ v,e=.returned v∧Lim w' v (x/2^s)∧Kept w w':=by
 obtain⟨a,c,rfl,_,hr⟩:=ha
 have:=qK a c s (s:Int) (ai x) w hr (ao _) hx (by omega) (by omega) (by omega)
 rwa [au] at this
theorem getD_take {xs:List Nat} {n i:Nat} (h:i<n):(xs.take n).getD i 0=xs.getD i 0:=by simp[List.getD_eq_getElem?_getD,h]
theorem jC (va:Value) (x c n:Nat) (w:World) (ha:Lim w va x) (hx:size x≤1073741824) (hc:c≤1073741824) (hx0:x≠0) (hn:size (x*2^c)=n) :
  Calls Tryz.prog 212 #[va,.int .i64 (c:Int)] w fun e w'=>∃ b o cv,e=.returned (.slice (some ⟨b,o,none⟩) n cv)∧b<w'.heap.size∧(∀ i,i<n→w'.cell? ⟨b,o+i,none⟩=some (.int .u64 (((ai (x*2^c)).getD i 0:Nat):Int)))∧Kept w w':=by
 refine (kl va x c w ha hx hc).mono ?_
 rintro e w' ⟨v,rfl,⟨a,cv,rfl,_,hr⟩,hk⟩
 have hne:x*2^c≠0:=Nat.mul_ne_zero hx0 (by simp)
 rcases hr with ⟨_,h1⟩|⟨b,o,rfl,hb,hc'⟩
 ·exact absurd (aF.1 h1) hne
 ·refine ⟨b,o,cv,by rw[hn],hb,fun i hi=>hc' i (by rw[←hn] at hi;exact hi),hk⟩
theorem mN (b1 o1 ca b2 o2 cb n x y s m1:Nat) (xs ys:List Nat) (w:World) (hxs:ai x=xs) (hys:ai y=ys) (hla:xs.length=(n+m1)) (hn:ys.length=n) (hma:(n+m1)≤536870912) (hn2:2≤n) (hle:y≤x)
  (_hb1:b1<w.heap.size) (hb2:b2<w.heap.size)
  (hca:∀ i,i<(n+m1)→w.cell? ⟨b1,o1+i,none⟩=some (.int .u64 ((xs.getD i 0:Nat):Int)))
  (hcb:∀ i,i<n→w.cell? ⟨b2,o2+i,none⟩=some (.int .u64 ((ys.getD i 0:Nat):Int)))
  (hA:∀ w',Kept w w'→Lim w' (.slice (some ⟨b1,o1,none⟩) (n+m1) ca) x) (hB:∀ w',Kept w w'→Lim w' (.slice (some ⟨b2,o2,none⟩) n cb) y)
  (hs64:s<64) (htop:∀ w,Calls Tryz.prog 248 #[.int .u64 ((ys.getD (n-1) 0:Nat):Int)] w fun e w'=>e=.returned (.int .i64 ((s:Nat):Int))∧w=w')
  (hVn:size (y*2^s)=n) (hXn:size (x*2^s)≤(n+m1)+1) (Hx0:Hid (x≠0)) (Hy0:Hid (y≠0)) :
  Calls Tryz.prog 219 #[.slice (some ⟨b1,o1,none⟩) (n+m1) ca,.slice (some ⟨b2,o2,none⟩) n cb] w fun e w'=>∃ v r,e=.returned (.tuple #[v,r])∧Lim w' v (x/y)∧Lim w' r (x%y)∧Kept w w':=by
 obtain⟨i0,hi,hz0,hz1,hz2⟩:=info_parts Tryz.cd
 have hszx:size x=(n+m1):=by unfold size;rw[hxs,hla]
 have hszy:size y=n:=by unfold size;rw[hys,hn]
 have hcmp:=K7 (aV _ _ x y w (hA w (Below.refl _ _)) (hB w (Below.refl _ _)) (by omega))
 obtain⟨c,hc⟩:∃ c,ord x y=c:=⟨_,rfl⟩
 have hc0:0≤c:=by rw[←hc];unfold ord;split<;>(try split)<;>omega
 rw[hc] at hcmp
 have hcl:decide (c<0)=false:=by simp;omega
 have hn1:((n:Int)==1)=false:=by rw[beq_eq_false_iff_ne];omega
 have hcell:=hcb (n-1) (by omega)
 have Htop:=K7 htop
 have HA:=K7 hA
 have HB:=K7 hB
 have Hxs:=K7 hxs
 have Hys:=K7 hys
 have Hla:=K7 hla
 have Hn:=K7 hn
 have Hca:=K7 hca
 have Hcb:=K7 hcb
 have Hsx:=K7 hszx
 have Hsy:=K7 hszy
 have HVn:=K7 hVn
 have HXn:=K7 hXn
 have Hle:=K7 hle
 clear htop hA hB hxs hys hla hn hca hcb hc hszx hszy hVn hXn hle
 generalize ys.getD (n-1) 0=top at *
 go_enter Tryz.func219,Tryz.ntmps219
 go_wp2_with fail
 refine (hcmp.out).mono ?_
 rintro e w0 ⟨rfl,q0,hw0⟩
 have hk0:Kept w w0:=by rw[hw0];exact al (Below.refl _ _) q0
 have hcell0:=(hk0.cell (p:=⟨b2,o2+(n-1),none⟩) hb2).trans hcell
 clear hw0 hcell
 go_wp2_with fail
 refine (Htop.out _).mono ?_
 rintro e w0' ⟨rfl,rfl⟩
 go_wp2_with fail
 refine (jC _ y s n _ (HB.out _ hk0) (by have:=Hsy.out;omega) (by omega) Hy0.out HVn.out).mono ?_
 rintro e w2 ⟨bv,ov,cv,rfl,hbv,hcv,hk2⟩
 have hk02:=hk0.trans (hk2.mono hk0.size)
 have hA2:=HA.out _ hk02
 have HA2:=K7 hA2
 have Hcv:=K7 hcv
 clear hA2 hcv hcell0 hk0 hk2
 go_wp2_with (at_make;go_loud (refine wpList_make_full _ rfl _ _ 93 rfl w2.heap.size 232 i0 (.int .u64 0) 1 Tryz.underlying93 hi hz0 hz1 .i64 .i64 _ _ (n+m1+1) rfl rfl (by omega) (by omega) (by rw[hz2];omega) (by unfold maxLen;omega) (K6 _) ?_);intro w3 hown3 hgrow3)
 have hO3:Own w3 w2.heap.size w2.heap.size (n+m1+1) (List.replicate (n+m1+1) 0):=by
  rw[aQ] at hown3
  exact⟨by simp,hown3⟩
 have hk23:Below w2.heap.size w2 w3:=(Below.refl _ _).grown hgrow3 (K6 _) (by intro k h;cases h)
 clear hown3 hgrow3
 go_wp2_with fail
 refine (jC _ x s (size (x*2^s)) _ (HA2.out.kept hk23) (by have:=Hsx.out;omega) (by omega) Hx0.out rfl).mono ?_
 rintro e w4 ⟨bs,os,cs,rfl,hbs,hcs,hk34⟩
 have hO4:=hO3.kept (by omega) hk34
 have hk24:Below w2.heap.size w2 w4:=hk23.trans (hk34.mono hk23.size)
 have hcl0:(cellsOf (ai (x*2^s))).length=Nat.min (size (x*2^s)) (n+m1+1):=by
  rw[cA];exact (Nat.min_eq_left HXn.out).symm
 have hsrc:=Ab hcs
 have hfit0:0+(cellsOf (ai (x*2^s))).length≤(cellsOf (List.replicate (n+m1+1) 0)).length:=by
  rw[cA,cA,List.length_replicate,Nat.zero_add];exact HXn.out
 go_wp2_with (first|(with_reducible refine wpList_copy_splice rfl (.tmp 60) (.tmp 63) 93 93 rfl 232 Tryz.underlying93 Tryz.EE _ _ _ _ _ _ rfl rfl w2.heap.size 0 (cellsOf (List.replicate (n+m1+1) 0)) 232 hO4.block (cellsOf (ai (x*2^s))) hcl0 (fun _=>⟨rfl,_,rfl,hsrc⟩) hfit0 Aa w2.heap.size w2 hk24 (K6 _) ?_;intro w5 hblk hk25)|(at_make;go_loud (refine wpList_make_full _ rfl _ _ 93 rfl w2.heap.size 232 i0 (.int .u64 0) 1 Tryz.underlying93 hi hz0 hz1 .i64 .i64 _ _ (m1+1) rfl rfl (by omega) (by omega) (by rw[hz2];omega) (by unfold maxLen;omega) hk25.size ?_);intro w6 hown6 hgrow6))
 have hO5:Own w5 w2.heap.size w2.heap.size (n+m1+1) (ai (x*2^s)++List.replicate (n+m1+1-(ai (x*2^s)).length) 0):=Own.mk' (by rw[←tR];exact hblk.out) (K6 _) (by rw[List.length_append,List.length_replicate];have h:(ai (x*2^s)).length≤n+m1+1:=HXn.out;omega) (by omega)
 have hk56:Below w5.heap.size w5 w6:=(Below.refl _ _).grown hgrow6 (K6 _) (by intro k h;cases h)
 have hq56:w5.heap.size<w6.heap.size∧w6.ownsRow w2.heap.size 232 1 (.slice (some ⟨w5.heap.size,0,none⟩) (m1+1) (m1+1)) (m1+1) (cellsOf (List.replicate (m1+1) 0)):=by
  rw[aQ] at hown6
  have ho:Own w6 w2.heap.size w5.heap.size (m1+1) (List.replicate (m1+1) 0):=⟨by simp,hown6⟩
  exact⟨ho.lt.1,hown6⟩
 have hOq:Own w6 w2.heap.size w5.heap.size (m1+1) (List.replicate (m1+1) 0):=⟨by simp,hq56.2⟩
 have hOu:=hO5.kept (by omega) hk56
 have hk26:Below w2.heap.size w2 w6:=hk25.trans (hk56.mono hk25.size)
 have hgq:w2.heap.size<w5.heap.size:=hO5.lt.1
 have hds:=Al (s:=s) Hsx.out Hsy.out hn2 HXn.out
 have hvv:=au (y*2^s)
 have hVp:0<y*2^s:=Nat.mul_pos (by have:=Hy0.out;omega) (Nat.pos_of_ne_zero (by simp))
 have hvl:(ai (y*2^s)).length=n:=HVn.out
 have hvf:=ao (y*2^s)
 have hvtop:0<(ai (y*2^s)).getD (n-1) 0:=by
  have hne:ai (y*2^s)≠[]:=by intro h;rw[h] at hvl;simp at hvl;omega
  have h:=eF hne
  rw[List.getLast_eq_getElem] at h
  rw[bf (by omega)]
  have e:(ai (y*2^s)).length-1=n-1:=by omega
  simp only[e] at h
  omega
 have hVlt:y*2^s<LimbNum.B^n:=by have h:=lt_size (y*2^s);rwa [HVn.out] at h
 generalize hX:x*2^s=X at *
 generalize hV:y*2^s=V at *
 have HX:=K7 hX
 have HV:=K7 hV
 obtain⟨vs,hvs⟩:∃ vs,ai V=vs:=⟨_,rfl⟩
 rw[hvs] at hds hvv hvl hvf hvtop
 have Hcv2:Hid (∀ i,i<n→w2.cell? ⟨bv,ov+i,none⟩=some (.int .u64 ((vs.getD i 0:Nat):Int))):=K7 (by rw[←hvs];exact Hcv.out)
 have Hds:=K7 hds.1
 have Hvv:=K7 hvv
 have Hvl:=K7 hvl
 have Hvf:=K7 hvf
 have Hvt:=K7 hvtop
 have HVlt:=K7 hVlt
 have HVp:=K7 hVp
 clear hX hV hvs hds hvv hvl hvf hvtop hVlt hVp Hcv hown6 hgrow6 hblk hk25 hO5 hq56 hk56 hO4 hk24 hcl0 hsrc hfit0 hO3 hk23 hk34 hcs hi hz0 hz1 hz2 HA2 HA HB
 generalize ai X++List.replicate (n+m1+1-(ai X).length) 0=U0 at *
 generalize List.replicate (m1+1) 0=qs0 at *
 obtain⟨G,hG⟩:∃ G,w2.heap.size=G:=⟨_,rfl⟩
 obtain⟨gq,hgqe⟩:∃ gq,w5.heap.size=gq:=⟨_,rfl⟩
 rw[hG] at hOu hOq hk26 hgq hbv ⊢
 rw[hgqe] at hOq hgq ⊢
 have HG:=K7 hG
 clear hG hgqe
 have hneq:G≠gq:=by omega
 have hneq2:gq≠G:=by omega
 go_loopw [12] (fun i wr=>∃ k:Nat,k≤m1+1∧i=.int .i64 ((k:Int)-1)∧∃ U qs,Own wr G G (n+m1+1) U∧Own wr G gq (m1+1) qs∧Hid (Div X V vs U qs k)∧Below G w2 wr) (fun i _=>(intOf i+1).toNat)
 case atStart=>exact⟨m1+1,K6 _,by go_num,U0,qs0,hOu,hOq,Hds,hk26⟩
 case round=>
  clear hOu hOq hk26 Hds
  obtain⟨k,hk,rfl,U,qs,hOu,hOq,HD,hbel⟩:=hrel
  by_cases hk0:k=0
  ·subst hk0
   rw[show ((0:Nat):Int)-1 = -1 from rfl]
   obtain⟨e1,e2⟩:=HD.out.last HVp.out
   have e3:LimbNum.val (U.take n)=X%V:=by
    have h1:=bX U n (by rw[hOu.1];omega)
    have h2:fF U n:=eE (by rw[e2];exact Nat.lt_trans (Nat.mod_lt _ HVp.out) HVlt.out)
    rw[h2.drop,Nat.mul_zero,Nat.add_zero] at h1
    rw[←h1,e2]
   have hOu1:Own wr.drew G G (n+m1+1) U:=hOu
   have hOq1:Own wr.drew G gq (m1+1) qs:=hOq
   have hbel1:Below G w2 wr.drew:=hbel.drew
   have htl:(U.take n).length=n:=by rw[List.length_take,hOu.1];omega
   have hcu:∀ i,i<n→wr.drew.cell? ⟨G,0+i,none⟩=some (.int .u64 (((U.take n).getD i 0:Nat):Int)):=by
    intro i hi
    rw[Nat.zero_add,hOu1.cell (by omega),getD_take hi]
   have tq:=ko gq 0 (m1+1) (m1+1) qs wr.drew hOq1.1 (by omega) (K6 _) (fun i hi=>by rw[Nat.zero_add];exact hOq1.cell hi)
   have tu:=ko G 0 n (n+m1+1) (U.take n) wr.drew htl (by omega) (by omega) hcu
   have lq:=aZ (c:=m1+1) hOq1.row HD.out.fitQ (by rw[hOq1.1];exact K6 _)
   have lu:=aZ (c:=n+m1+1) (xs:=U.take n) (a:=some ⟨G,0,none⟩) (w:=wr.drew) (.inr ⟨G,0,rfl,hOu1.lt.1,fun i hi=>hcu i (by rw[htl] at hi;exact hi)⟩) (HD.out.fitU.take n) (by rw[htl];omega)
   rw[e3] at lu
   rw[e1] at lq
   have hsz:size (X%V)≤1073741824:=by
    have h1:=aK (Nat.le_of_lt (Nat.mod_lt X HVp.out))
    have h2:size V=n:=HVn.out
    omega
   have hsr:=qI _ (X%V) s wr.drew lu hsz hs64
   have Tq:=K7 tq
   have Tu:=K7 tu
   have Hsr:=K7 hsr
   have Lq:=K7 lq
   clear tq tu hsr lq lu hcu htl e1 e2 e3 hsz
   go_wp2_with fail
   have hslb:(n:Int)≤(n:Int)+(m1:Int)+1:=by omega
   go_still_tail 8,(by kernel_rfl)
   still_call (Tq.out)
   repeat still_step
   still_call (Tu.out)
   repeat still_step
   refine wpStill_nil ?_
   change wpList _ _ _ _ _ wr.drew
   clear hOu hOq hbel
   generalize wr.drew=wd at *
   go_wp2_with (go_at_call 250;refine (Hsr.out).mono ?_;rintro e w8 ⟨vr,rfl,hlr,hk8⟩)
   go_ret2
   have f1:X/V=x/y:=by rw[←HX.out,←HV.out];exact Nat.mul_div_mul_right _ _ (Nat.pos_of_ne_zero (by simp))
   have f2:X%V/2^s=x%y:=by rw[←HX.out,←HV.out];exact kG.2
   rw[f1] at Lq
   rw[f2] at hlr
   exact⟨_,_,rfl,Lq.out.kept hk8,hlr,hk02.trans ((hbel1.trans (hk8.mono (Nat.le_of_lt hOu1.lt.1))).mono (by rw[←HG.out];exact hk02.size))⟩
  ·obtain⟨j,rfl⟩:∃ j,k=j+1:=⟨k-1,by omega⟩
   rw[show ((j+1:Nat):Int)-1=(j:Int) by omega]
   have cu0:=hOu.cell (i:=j+n) (by omega)
   have cu1:=hOu.cell (i:=j+(n-1)) (by omega)
   have cu2:=hOu.cell (i:=j+(n-2)) (by omega)
   have cv1:=(hbel.cell (p:=⟨bv,ov+(n-1),none⟩) hbv).trans (Hcv2.out (n-1) (by omega))
   have cv2:=(hbel.cell (p:=⟨bv,ov+(n-2),none⟩) hbv).trans (Hcv2.out (n-2) (by omega))
   have hgs:=fun w=>pD (U.getD (j+n) 0) (U.getD (j+(n-1)) 0) (U.getD (j+(n-2)) 0) (vs.getD (n-1) 0) (vs.getD (n-2) 0) w (HD.out.fitU.get _) (HD.out.fitU.get _) (HD.out.fitU.get _) (Hvf.out.get _) (Hvf.out.get _)
   have hgok:=fun g=>CZ (j:=j) (g:=g) HD.out.fitU Hvl.out hn2 Hvt.out Hvf.out (by rw[Hvv.out];exact HD.out.part (by rw[hOu.1];omega))
   have Hgs:=K7 hgs
   have Hgok:=K7 hgok
   clear hgs hgok
   generalize U.getD (j+n) 0=l0 at *
   generalize U.getD (j+(n-1)) 0=l1 at *
   generalize U.getD (j+(n-2)) 0=l2 at *
   generalize vs.getD (n-1) 0=d0 at *
   generalize vs.getD (n-2) 0=d1 at *
   go_wp2_with fail
   rw[show j+n+1-j=n+1 by omega]
   have ia0:=dP G j (n+1) (n+m1+1-j) n (by omega)
   have ia1:=dP G j (n+1) (n+m1+1-j) (n-1) (by omega)
   have ia2:=dP G j (n+1) (n+m1+1-j) (n-2) (by omega)
   have ia3:=dP bv ov n cv (n-1) (by omega)
   have ia4:=dP bv ov n cv (n-2) (by omega)
   have wa1:IntKind.i64.wrap ((n:Int)-1)=((n-1:Nat):Int):=by rw[IntWalk.i64_in _ (by omega)];omega
   have wa2:IntKind.i64.wrap ((n:Int)-2)=((n-2:Nat):Int):=by rw[IntWalk.i64_in _ (by omega)];omega
   go_still_tail 26,(by kernel_rfl)
   clear cu0 cu1 cu2 cv1 cv2 ia0 ia1 ia2 ia3 ia4 wa1 wa2
   change wpList _ _ _ _ _ wr.drew
   have hOu1:Own wr.drew G G (n+m1+1) U:=hOu
   have hOq1:Own wr.drew G gq (m1+1) qs:=hOq
   have hbel1:Below G w2 wr.drew:=hbel.drew
   clear hOu hOq hbel
   generalize wr.drew=wd at *
   go_wp2_with (go_at_call 249;refine (Hgs.out _).mono ?_;rintro e w7 ⟨g,rfl,hg1,hg2,hgB,hk7⟩)
   have hgok:=Hgok.out g hg1 hg2
   have hOu2:=hOu1.kept (by omega) hk7
   have hOq2:=hOq1.kept (by omega) hk7
   have hbel2:=hbel1.trans (hk7.mono (Nat.le_of_lt hOu1.lt.1))
   clear hg1 hg2 hOu1 hOq1 hbel1 hk7 Hgs Hgok
   have HUf:=K7 HD.out.fitU
   have hhigh:=K7 (HD.out.high (n:=n) HVlt.out)
   have hgI:(g:Int)≤18446744073709551615:=by unfold LimbNum.B at hgB;omega
   obtain⟨wo,hwo⟩:∃ wo:World,wo=w7:=⟨_,rfl⟩
   subst hwo
   go_loopw [15,16,114] (fun cc bb i wr=>∃ k:Nat,k≤n∧i=.int .i64 k∧cc=.int .u64 (((ms U j vs g k).2.1:Nat):Int)∧bb=.int .u64 (((ms U j vs g k).2.2:Nat):Int)∧Own wr G G (n+m1+1) (ms U j vs g k).1∧Own wr G gq (m1+1) qs∧Below G w2 wr) (fun _ _ i _=>n-(intOf i).toNat)
   case atStart=>exact⟨0,Nat.zero_le _,rfl,rfl,rfl,hOu2,hOq2,hbel2⟩
   case round=>
    clear hOu2 hOq2 hbel2
    obtain⟨k,hkn,rfl,rfl,rfl,hOu,hOq,hbel⟩:=hrel
    by_cases hlk:k<n
    ·have hcell:=(hbel.cell (p:=⟨bv,ov+k,none⟩) hbv).trans (Hcv2.out k hlk)
     obtain⟨hf1,hf2,hf3⟩:=jy (j:=j) HUf.out Hvf.out hgB k
     have hvk:=Hvf.out.get k
     have hold:=hOu.cell (i:=j+k) (by omega)
     have hfree:=hOu.free (j+k)
     have hmul:=fun w=>jM g (vs.getD k 0) hgB hvk w
     obtain⟨p1,p2⟩:=kh (p:=g*vs.getD k 0) (c:=(ms U j vs g k).2.1) rfl rfl rfl rfl
     have hcfit:=lV hgB hvk hf2
     have hadd:=bV (g*vs.getD k 0%LimbNum.B) (ms U j vs g k).2.1 0 (by omega)
     have hdlt:(g*vs.getD k 0%LimbNum.B+(ms U j vs g k).2.1+0)%LimbNum.B<LimbNum.B:=Nat.mod_lt _ aA
     have hsub:=ig ((ms U j vs g k).1.getD (j+k) 0) ((g*vs.getD k 0%LimbNum.B+(ms U j vs g k).2.1+0)%LimbNum.B) (ms U j vs g k).2.2 hf3
     have hzlt:=hf1.get (j+k)
     have hstep:ms U j vs g (k+1)=((ms U j vs g k).1.set (j+k) (if (ms U j vs g k).1.getD (j+k) 0<(g*vs.getD k 0+(ms U j vs g k).2.1)%LimbNum.B+(ms U j vs g k).2.2 then (ms U j vs g k).1.getD (j+k) 0+LimbNum.B-((g*vs.getD k 0+(ms U j vs g k).2.1)%LimbNum.B+(ms U j vs g k).2.2) else (ms U j vs g k).1.getD (j+k) 0-((g*vs.getD k 0+(ms U j vs g k).2.1)%LimbNum.B+(ms U j vs g k).2.2)),(g*vs.getD k 0+(ms U j vs g k).2.1)/LimbNum.B,if (ms U j vs g k).1.getD (j+k) 0<(g*vs.getD k 0+(ms U j vs g k).2.1)%LimbNum.B+(ms U j vs g k).2.2 then 1 else 0):=rfl
     rw[p1,p2] at hstep
     rw[p2] at hcfit
     rw[←zy hzlt hdlt hf3] at hstep
     rw[show ((0:Nat):Int)=0 from rfl] at hadd
     have Hstep:=K7 hstep
     have Hmul:=K7 hmul
     clear hstep hmul p1 p2 hdlt hzlt hf1 hf2 hvk
     generalize hq:ms U j vs g k=q at *
     have Hq:=K7 hq
     clear hq
     generalize (g*vs.getD k 0%LimbNum.B+q.2.1+0)/LimbNum.B=oo at *
     generalize (g*vs.getD k 0%LimbNum.B+q.2.1+0)%LimbNum.B=dd at *
     generalize g*vs.getD k 0%LimbNum.B=l at *
     generalize g*vs.getD k 0/LimbNum.B=h at *
     generalize (if q.1.getD (j+k) 0<dd+q.2.2 then 1 else 0)=nb at *
     generalize (q.1.getD (j+k) 0+LimbNum.B-(dd+q.2.2))%LimbNum.B=nz at *
     have hcf2:h+oo<18446744073709551616:=hcfit
     have hset:=hOu.set (j+k) nz
     have hOq':=hOq.other (i:=j+k) (u:=.int .u64 (nz:Int)) (by omega) hneq2
     generalize vs.getD k 0=vk at *
     generalize q.1.getD (j+k) 0=z at *
     generalize hc0:q.2.1=c0 at *
     generalize hb0:q.2.2=b0 at *
     generalize hq0:q.1=q1 at *
     clear hc0 hq0 hb0 hcfit
     go_wp2_with (go_at_call 216;refine (Hmul.out _).mono ?_;rintro e w' ⟨rfl,rfl⟩)
     go_roundw
     case rel=>exact⟨k+1,by omega,by go_num,by rw[Hstep.out];go_num,by rw[Hstep.out],by rw[Hstep.out];exact hset,hOq',hbel.setCell (K6 _) _⟩
     case measure=>simp[intOf];omega
    ·obtain rfl:k=n:=by omega
     obtain⟨hf1,hf2,hf3⟩:=jy (j:=j) HUf.out Hvf.out hgB k
     have hold:=hOu.cell (i:=j+k) (by omega)
     rw[fR _ _ (K6 _)] at hold
     have hfree:=hOu.free (j+k)
     have hsub:=ig (U.getD (j+k) 0) (ms U j vs g k).2.1 (ms U j vs g k).2.2 hf3
     have hzlt:=HUf.out.get (j+k)
     have hdig:=mJ (j:=j) HUf.out Hvf.out Hvl.out (by have h:=hOu.1;rw[dT] at h;omega) hhigh.out hgB _ _ rfl rfl
     rw[←zy hzlt hf2 hf3] at hdig
     generalize (if U.getD (j+k) 0<(ms U j vs g k).2.1+(ms U j vs g k).2.2 then 1 else 0)=nb at *
     generalize (U.getD (j+k) 0+LimbNum.B-((ms U j vs g k).2.1+(ms U j vs g k).2.2))%LimbNum.B=nz at *
     have hset:=hOu.set (j+k) nz
     have hOq':=hOq.other (i:=j+k) (u:=.int .u64 (nz:Int)) (by omega) hneq2
     have hbel':=hbel.setCell (K6 G) (p:=⟨G,j+k,none⟩) (.int .u64 (nz:Int))
     have Hdig:=K7 hdig
     clear hdig hzlt hf1 hf2 hf3
     generalize (ms U j vs g k).1.set (j+k) nz=W0 at *
     generalize (ms U j vs g k).2.1=c0 at *
     generalize (ms U j vs g k).2.2=b0 at *
     generalize U.getD (j+k) 0=z at *
     clear hOu hOq hbel
     go_wp2
     obtain⟨wp,hwp⟩:∃ wp:World,wp=wr.setCell ⟨G,j+k,none⟩ (.int .u64 (nz:Int)):=⟨_,rfl⟩
     rw[←hwp] at hset hOq' hbel' ⊢
     clear hwp hfree hold hsub
     go_loopw [14,16] (fun dd bb wr=>∃ (g' b':Nat) (W:List Nat),dd=.int .u64 (g':Int)∧bb=.int .u64 (b':Int)∧Hid (Dig U W vs j k g' b')∧Hid (digit U vs j≤g')∧Hid (g'<LimbNum.B)∧Own wr G G (k+m1+1) W∧Own wr G gq (m1+1) qs∧Below G w2 wr) (fun dd _ _=>(intOf dd).toNat)
     case atStart=>exact⟨g,nb,W0,rfl,rfl,Hdig,K7 hgok,K7 hgB,hset,hOq',hbel'⟩
     case round=>
      clear hset hOq' hbel' Hdig hgok hgI hgB
      obtain⟨g',b',W,rfl,rfl,Hd,Hg,HgB,hOu,hOq,hbel⟩:=hrel
      have hjU:j≤U.length:=by have h1:=hOu.1;have h2:=Hd.out.len;omega
      have hVp':0<LimbNum.val vs:=by rw[Hvv.out];exact HVp.out
      by_cases hb0:b'=0
      ·subst hb0
       have hnext:=HD.out.next Hvv.out HVp.out hjU (by rw[hOq.1];omega) Hd.out Hg.out HgB.out
       have Hnext:=K7 hnext
       have hset:=hOq.set j g'
       have hold:=hOq.cell (i:=j) (by omega)
       have hfree:=hOq.free j
       have hOu':=hOu.other (i:=j) (u:=.int .u64 (g':Int)) (by omega) hneq
       have hbel':=hbel.setCell (p:=⟨gq,j,none⟩) (by show G≤gq;omega) (.int .u64 (g':Int))
       generalize qs.getD j 0=z at *
       clear hnext hjU hVp'
       go_wp2
       go_roundw
       case rel=>exact⟨j,by omega,by go_num,W,qs.set j g',hOu',hset,Hnext,hbel'⟩
       case measure=>simp[intOf]
      ·have hb1:b'=1:=by have:=Hd.out.le;omega
       subst hb1
       have hmore:=Hd.out.more HUf.out hVp' hjU
       obtain⟨p,rfl⟩:∃ p,g'=p+1:=⟨g'-1,by omega⟩
       have Hp:Hid (digit U vs j≤p):=K7 (by omega)
       have HpB:Hid (p<LimbNum.B):=K7 (Nat.lt_of_succ_lt HgB.out)
       have hpI:(p:Int)≤18446744073709551614:=by have h:=HgB.out;unfold LimbNum.B at h;omega
       obtain⟨pI,hpe⟩:∃ pI:Int,(p:Int)=pI:=⟨_,rfl⟩
       rw[show ((p+1:Nat):Int)=pI+1 by omega]
       rw[hpe] at hpI
       have hp0:0≤pI:=by omega
       have HpI:=K7 hpe
       clear hmore hVp' hjU hpe hb0
       go_wp2
       obtain⟨wi,hwi⟩:∃ wi:World,wi=wr:=⟨_,rfl⟩
       subst hwi
       go_loopw [22,167] (fun oo i wr=>∃ t:Nat,t≤k∧i=.int .i64 t∧oo=.int .u64 (((ab W j vs t).2:Nat):Int)∧Own wr G G (k+m1+1) (ab W j vs t).1∧Own wr G gq (m1+1) qs∧Below G w2 wr) (fun _ i _=>k-(intOf i).toNat)
       case atStart=>exact⟨0,Nat.zero_le _,rfl,rfl,hOu,hOq,hbel⟩
       case round=>
        clear hOu hOq hbel
        obtain⟨t,htk,rfl,rfl,hOu,hOq,hbel⟩:=hrel
        by_cases hlt2:t<k
        ·have hcell:=(hbel.cell (p:=⟨bv,ov+t,none⟩) hbv).trans (Hcv2.out t hlt2)
         obtain⟨hf1,hf2⟩:=kz (j:=j) Hd.out.fit Hvf.out t
         have hold:=hOu.cell (i:=j+t) (by omega)
         have hfree:=hOu.free (j+t)
         have hadd:=bV ((ab W j vs t).1.getD (j+t) 0) (vs.getD t 0) (ab W j vs t).2 hf2
         have hstep:ab W j vs (t+1)=((ab W j vs t).1.set (j+t) (((ab W j vs t).1.getD (j+t) 0+vs.getD t 0+(ab W j vs t).2)%LimbNum.B),((ab W j vs t).1.getD (j+t) 0+vs.getD t 0+(ab W j vs t).2)/LimbNum.B):=rfl
         have Hstep:=K7 hstep
         clear hstep hf1 hf2
         generalize hq:ab W j vs t=q at *
         have Hq:=K7 hq
         clear hq
         generalize (q.1.getD (j+t) 0+vs.getD t 0+q.2)/LimbNum.B=no at *
         generalize (q.1.getD (j+t) 0+vs.getD t 0+q.2)%LimbNum.B=nz2 at *
         have hset:=hOu.set (j+t) nz2
         have hOq':=hOq.other (i:=j+t) (u:=.int .u64 (nz2:Int)) (by omega) hneq2
         generalize vs.getD t 0=vk at *
         generalize q.1.getD (j+t) 0=z at *
         generalize hc0:q.2=c0 at *
         generalize hq0:q.1=q1 at *
         clear hc0 hq0
         go_wp2
         go_roundw
         case rel=>exact⟨t+1,by omega,by go_num,by rw[Hstep.out],by rw[Hstep.out];exact hset,hOq',hbel.setCell (K6 _) _⟩
         case measure=>simp[intOf];omega
        ·obtain rfl:t=k:=by omega
         obtain⟨hf1,hf2⟩:=kz (j:=j) Hd.out.fit Hvf.out t
         have hold:=hOu.cell (i:=j+t) (by omega)
         rw[gQ _ _ (K6 _)] at hold
         have hfree:=hOu.free (j+t)
         have hadd:=bV (W.getD (j+t) 0) 0 (ab W j vs t).2 hf2
         rw[Nat.add_zero,show ((0:Nat):Int)=0 from rfl] at hadd
         obtain⟨ho1,hdig⟩:=pk (j:=j) Hd.out HUf.out Hvf.out (by rw[Hvv.out];exact HVp.out) Hvl.out (by have h1:=hOu.1;rw[ep] at h1;have h2:=Hd.out.len;omega) _ _ rfl rfl
         generalize (W.getD (j+t) 0+(ab W j vs t).2)/LimbNum.B=no at *
         generalize (W.getD (j+t) 0+(ab W j vs t).2)%LimbNum.B=nz2 at *
         have hset:=hOu.set (j+t) nz2
         have hOq':=hOq.other (i:=j+t) (u:=.int .u64 (nz2:Int)) (by omega) hneq2
         have hbel':=hbel.setCell (K6 G) (p:=⟨G,j+t,none⟩) (.int .u64 (nz2:Int))
         have Hdig:=K7 hdig
         clear hdig hf1 hf2
         generalize (ab W j vs t).1.set (j+t) nz2=W1 at *
         generalize (ab W j vs t).2=c0 at *
         generalize W.getD (j+t) 0=z at *
         clear hOu hOq hbel
         go_wp2
         go_roundw
         case rel=>exact⟨p,1-no,W1,by rw[HpI.out],by go_num,Hdig,Hp,HpB,hset,hOq',hbel'⟩
         case measure=>simp[intOf];omega
theorem mM (va vb:Value) (x y:Nat) (w:World) (ha:Lim w va x) (hb:Lim w vb y) (hx:size x≤1073741824) (hlt:x<y) :
  Calls Tryz.prog 219 #[va,vb] w fun e w'=>∃ v,e=.returned (.tuple #[v,va])∧v=.slice none 0 0∧Kept w w':=by
 have hcmp:=K7 (aV va vb x y w ha hb hx)
 rw[show ord x y = -1 by simp[ord,hlt]] at hcmp
 clear ha hb
 go_enter Tryz.func219,Tryz.ntmps219
 go_wp2_with (go_at_call 208;refine (hcmp.out).mono ?_;rintro e w' ⟨rfl,q,rfl⟩)
 go_ret2
 exact⟨_,rfl,rfl,al (Below.refl _ _) q⟩
theorem ox (va:Value) (b2 o2 cb x y d:Nat) (w:World) (ha:∀ w',Kept w w'→Lim w' va x) (hb:Lim w (.slice (some ⟨b2,o2,none⟩) 1 cb) y) (hx:size x≤1073741824) (hle:y≤x) (hyd:y=d) (hd0:0<d) (hd:d<LimbNum.B)
  (hb2:b2<w.heap.size) (hcell:w.cell? ⟨b2,o2,none⟩=some (.int .u64 (d:Int))) :
  Calls Tryz.prog 219 #[va,.slice (some ⟨b2,o2,none⟩) 1 cb] w fun e w'=>∃ v r,e=.returned (.tuple #[v,r])∧Lim w' v (x/y)∧Lim w' r (x%y)∧Kept w w':=by
 have hcmp:=K7 (aV va _ x y w (ha w (Below.refl _ _)) hb hx)
 obtain⟨c,hc⟩:∃ c,ord x y=c:=⟨_,rfl⟩
 have hc0:0≤c:=by rw[←hc];unfold ord;split<;>(try split)<;>omega
 rw[hc] at hcmp
 have hcl:decide (c<0)=false:=by simp;omega
 have Ha:=K7 ha
 have Hyd:=K7 hyd
 clear ha hb hc hle hyd
 go_enter Tryz.func219,Tryz.ntmps219
 go_wp2_with fail
 refine (hcmp.out).mono ?_
 rintro e w0 ⟨rfl,q0,hw0⟩
 have hk0:Kept w w0:=by rw[hw0];exact al (Below.refl _ _) q0
 have hcell0:=(hk0.cell (p:=⟨b2,o2,none⟩) hb2).trans hcell
 clear hw0 hcell
 go_wp2_with fail
 refine (dK va x d w0 (Ha.out _ hk0) hx hd0 hd).mono ?_
 rintro e w1 ⟨vq,rfl,hlq,hk1⟩
 clear hcell0
 generalize hr:x%d=r at *
 have Hr:=K7 hr
 have Hlq:=K7 hlq
 clear hr hlq
 have hcn:(w1.alloc (Obj.cells #[Value.int IntKind.u64 (r:Int)] 232)).cell? ⟨w1.heap.size,0+0,none⟩=some (.int .u64 ((([r]:List Nat).getD 0 0:Nat):Int)):=by simp
 have hcs:∀ i,i<1→(w1.alloc (Obj.cells #[Value.int IntKind.u64 (r:Int)] 232)).cell? ⟨w1.heap.size,0+i,none⟩=some (.int .u64 ((([r]:List Nat).getD i 0:Nat):Int)):=by
  intro i hi
  obtain rfl:i=0:=by omega
  exact hcn
 have hrow:cQ (w1.alloc (Obj.cells #[Value.int IntKind.u64 (r:Int)] 232)) (some ⟨w1.heap.size,0,none⟩) [r]:=.inr ⟨w1.heap.size,0,rfl,by simp,hcs⟩
 have hrB:r<LimbNum.B:=by rw[←Hr.out];exact Nat.lt_trans (Nat.mod_lt _ hd0) hd
 have hlr:=aZ (c:=1) hrow (Fit.cons hrB Fit.nil) (K6 _)
 have ht:=K7 (aU w1.heap.size 0 1 1 [r] (w1.alloc (Obj.cells #[Value.int IntKind.u64 (r:Int)] 232)) rfl (by omega) (K6 _) hcs)
 have Hlr:=K7 hlr
 have hka:Kept w1 (w1.alloc (Obj.cells #[Value.int IntKind.u64 (r:Int)] 232)):=(Below.refl _ _).alloc (K6 _) _
 have Hka:=K7 hka
 clear hcn hcs hrow hlr hka
 go_wp2_with fail
 refine (ht.out).mono ?_
 rintro e w' ⟨rfl,rfl⟩
 go_wp2
 go_ret2
 refine ⟨_,_,rfl,?_,?_,hk0.trans ((hk1.trans (Hka.out.mono hk1.size)).mono hk0.size)⟩
 ·rw[Hyd.out];exact Hlq.out.kept Hka.out
 ·have h:=Hlr.out
  rw[Hyd.out,Hr.out]
  simpa [val] using h
theorem iV (va vb:Value) (x y:Nat) (w:World) (ha:Lim w va x) (hb:Lim w vb y) (hx:size x≤536870912) (hy:y≠0) :
  Calls Tryz.prog 219 #[va,vb] w fun e w'=>∃ v r,e=.returned (.tuple #[v,r])∧Lim w' v (x/y)∧Lim w' r (x%y)∧Kept w w':=by
 by_cases hlt:x<y
 ·refine (mM va vb x y w ha hb (by omega) hlt).mono ?_
  rintro e w' ⟨v,rfl,rfl,hk⟩
  rw[Nat.div_eq_of_lt hlt,Nat.mod_eq_of_lt hlt]
  exact⟨_,_,rfl,Lim.fe _,ha.kept hk,hk⟩
 ·have hle:y≤x:=by omega
  have hb':=hb
  have ha':=ha
  obtain⟨a2,c2,rfl,hc2,hr2⟩:=hb
  rcases hr2 with ⟨_,h1⟩|⟨b2,o2,rfl,hb2,hcb⟩
  ·exact absurd (aF.1 h1) hy
  ·have hsy:=size_pos.2 hy
   by_cases h1:size y=1
   ·have hc0:=hcb 0 hsy
    have hv:=au y
    have hl1:ai y=[(ai y).getD 0 0]:=by
     match h:ai y,h1 with
     | [a],_=>simp
     | [],h1=>unfold size at h1;rw[h] at h1;simp at h1
     | _::_::_,h1=>unfold size at h1;rw[h] at h1;simp at h1
    have hd:y=(ai y).getD 0 0:=by
     conv=>lhs;rw[←hv,hl1]
     simp[val]
    rw[h1] at hb' ⊢
    rw[←hd,Nat.add_zero] at hc0
    exact ox va b2 o2 c2 x y y w (fun w' hk=>ha'.kept hk) hb' (by omega) hle rfl (by omega) (by rw[hd];exact (ao y).get 0) hb2 hc0
   ·obtain⟨a1,c1,rfl,hc1,hr1⟩:=ha
    rcases hr1 with ⟨_,h2⟩|⟨b1,o1,rfl,hb1,hca⟩
    ·exfalso
     have:=aF.1 h2
     omega
    ·obtain⟨m1,hm1⟩:∃ m1,size x=size y+m1:=⟨size x-size y,by have:=aK hle;omega⟩
     have hn2:2≤size y:=by omega
     have hlast:(ai y).getD (size y-1) 0≠0:=by
      have hne:ai y≠[]:=by intro h;exact hy (aF.1 h)
      have h:=eF hne
      rw[List.getLast_eq_getElem] at h
      rw[bf (by unfold size;unfold size at hsy;omega)]
      exact h
     have htopB:=(ao y).get (size y-1)
     obtain⟨l1,l2,l3⟩:=dE 64 _ (by unfold LimbNum.B at htopB;exact htopB) (K6 _) hlast
     have l4:=fy htopB
     obtain⟨s,hs⟩:∃ s,s=64-Lib.bitLen ((ai y).getD (size y-1) 0):=⟨_,rfl⟩
     have hz:∀ w,Calls Tryz.prog 248 #[.int .u64 (((ai y).getD (size y-1) 0:Nat):Int)] w fun e w'=>e=.returned (.int .i64 ((s:Nat):Int))∧w=w':=by
      intro w
      have:=jF _ htopB w
      rw[show (64-(Lib.bitLen ((ai y).getD (size y-1) 0):Int))=((s:Nat):Int) by omega] at this
      exact this
     have hVn:size (y*2^s)=size y:=by
      refine vX ?_ rfl
      have hc:=bX (ai y) (size y-1) (by unfold size;omega)
      rw[au,bg,show size y-1+1=(ai y).length by unfold size;unfold size at hsy;omega,List.drop_length] at hc
      have hlow:=bO (ao y) (size y-1)
      have ht:(ai y).getD (size y-1) 0+1≤2^(64-s):=by rw[show 64-s=Lib.bitLen ((ai y).getD (size y-1) 0) by omega];exact l2
      have hyle:y<LimbNum.B^(size y-1)*2^(64-s):=by
       have h1:=Nat.mul_le_mul_left (LimbNum.B^(size y-1)) ht
       rw[Nat.mul_add,Nat.mul_one] at h1
       simp only[LimbNum.val,Nat.mul_zero,Nat.add_zero] at hc
       omega
      have hp:0<2^s:=Nat.pos_of_ne_zero (by simp)
      have h2:=Nat.mul_lt_mul_of_pos_right hyle hp
      rw[Nat.mul_assoc,←iy (s:=s) (by omega),←Nat.pow_succ,show (size y-1).succ=size y by omega] at h2
      exact h2
     have hXn:size (x*2^s)≤size y+m1+1:=by
      refine size_le ?_
      have h1:=lt_size x
      rw[hm1] at h1
      have hpB:2^s≤LimbNum.B:=by rw[iy (s:=s) (by omega)];exact Nat.le_mul_of_pos_left _ (Nat.pos_of_ne_zero (by simp))
      rw[Nat.pow_succ]
      exact Nat.lt_of_lt_of_le (Nat.mul_lt_mul_of_pos_right h1 (Nat.pos_of_ne_zero (by simp))) (Nat.mul_le_mul_left _ hpB)
     rw[hm1] at ha' ⊢
     exact mN b1 o1 c1 b2 o2 c2 (size y) x y s m1 (ai x) (ai y) w rfl rfl hm1 rfl (by omega) hn2 hle hb1 hb2 (fun i hi=>hca i (by rw[←hm1] at hi;exact hi)) hcb (fun w' hk=>ha'.kept hk) (fun w' hk=>hb'.kept hk) (by omega) hz hVn hXn (K7 (by omega)) (K7 hy)
end Go.Proofs.YtjbcmmaniphkkaaGreatDoor
