import Derived.Test.YtjbcmmaniphkkaaGreatDoorRi
import Derived.Test.YtjbcmmaniphkkaaGreatDoorRg
set_option linter.unusedSectionVars false
set_option linter.unusedVariables false
set_option linter.unusedSimpArgs false
set_option maxRecDepth 100000
set_option maxHeartbeats 1000000
namespace Go.Proofs.YtjbcmmaniphkkaaGreatDoor.D
open Go.RowKit DigNum
theorem kN {w w':World} {l a:Value} {m b:Nat} {t:TypeId} {s:Bool} {p:Option Addr} {n c:Nat} (h:Lim w l m) (hB:Blk w b t [.bool s,.slice p n c]) (hs:w.heap.size≤w'.heap.size)
  (ho:∀ k,k≠b→w'.heap[k]?=w.heap[k]?):Lim w' l m:=by
 obtain⟨a,c,rfl,hc,hr⟩:=h
 refine ⟨a,c,rfl,hc,?_⟩
 rcases hr with hr|⟨b',off,rfl,hb,hcell⟩
 ·exact .inl hr
 ·refine .inr ⟨b',off,rfl,Nat.lt_of_lt_of_le hb hs,fun i hi=>?_⟩
  by_cases hbb:b'=b
  ·exfalso
   subst hbb
   have h1:=hcell i hi
   unfold World.cell? at h1
   rw[hB] at h1
   simp only[Option.isSome_none,Bool.false_eq_true,if_false,List.getElem?_toArray] at h1
   generalize off+i=q at h1
   rcases q with _|_|k<;>simp at h1
  ·rw[World.cell?_of_block (w:=w) (ho b' hbb)]
   exact hcell i hi
theorem iD {w:World} {b:Nat} {v u1 u2:Value} {t:TypeId} {s:Bool} {p:Option Addr} {n c:Nat} {z:Int} (hv:Big w v z) (hB:Blk w b t [.bool s,.slice p n c]) :
  Big ((w.setCell ⟨b,0,none⟩ u1).setCell ⟨b,1,none⟩ u2) v z:=by
 obtain⟨l,rfl,hl⟩:=hv
 refine ⟨l,rfl,kN (a:=l) hl hB (by simp[World.setCell]) fun k hk=>?_⟩
 rw[heap_setCell_other _ ⟨b,1,none⟩ k u2 (by simpa using hk),heap_setCell_other _ ⟨b,0,none⟩ k u1 (by simpa using hk)]
theorem cH {n:Nat} (h:n<DigNum.B) (h0:0<n):ai n=[n]∧size n=1:=by
 have h2:n≠0:=by omega
 have e:ai n=[n]:=by rw[br h2,Nat.div_eq_of_lt h,Nat.mod_eq_of_lt h,bc]
 exact⟨e,by show (ai n).length=1;rw[e];rfl⟩
theorem tj {n:Nat} (hs:size n=1):(ai n).getD 0 0=n:=by
 have h1:=au n
 have h2:(ai n).length=1:=hs
 match hl:ai n,h2 with
 | [d],_=>rw[hl] at h1;simp only[val] at h1;simp;omega
theorem lP {n d:Nat} (hd:0<d):0<Nat.gcd n d:=Nat.gcd_pos_of_pos_right _ hd
theorem pB (n d:Int) (hd:d≠0):(Rat.divInt n d).num=az (decide (d.sign*n<0)) (n.natAbs/Nat.gcd n.natAbs d.natAbs)∧(Rat.divInt n d).den=d.natAbs/Nat.gcd n.natAbs d.natAbs:=by
 rw[Rat.num_divInt,Rat.den_divInt,if_neg hd]
 have hg:d.gcd n=Nat.gcd n.natAbs d.natAbs:=by rw[Int.gcd_comm];rfl
 rw[hg]
 refine ⟨?_,rfl⟩
 have hgp:=lP (n:=n.natAbs) (d:=d.natAbs) (by omega)
 obtain⟨m,hm⟩:=Nat.gcd_dvd_left n.natAbs d.natAbs
 generalize Nat.gcd n.natAbs d.natAbs=g at *
 rw[hm,Nat.mul_div_cancel_left _ hgp]
 have ha:(d.sign*n).natAbs=g*m:=by rw[Int.natAbs_mul,Int.natAbs_sign_of_ne_zero hd,Nat.one_mul,hm]
 generalize d.sign*n=z at *
 unfold az
 by_cases hz:z<0
 ·have e:z=(g:Int)*(-(m:Int)):=by
   rw[Int.mul_neg,←Int.natCast_mul,←ha];omega
  rw[e,Int.mul_ediv_cancel_left _ (by omega),←e];simp[hz]
 ·have e:z=(g:Int)*(m:Int):=by
   rw[←Int.natCast_mul,←ha];omega
  rw[e,Int.mul_ediv_cancel_left _ (by omega),←e];simp[hz]
theorem lS {w:World} {v:Value} {n:Nat} (h:Lim w v n):∃ a c,v=.slice a (size n) c∧(0<size n→∃ b off,a=some ⟨b,off,none⟩∧∀ i,i<size n→w.cell? ⟨b,off+i,none⟩=some (.int .i64 (((ai n).getD i 0:Nat):Int))):=by
 obtain⟨a,c,rfl,_,h2⟩:=h.row.opened
 refine ⟨a,c,rfl,fun h0=>?_⟩
 obtain⟨b,off,rfl,_,h3⟩:=h2 h0
 exact⟨b,off,rfl,h3⟩
theorem GJ {n k:Nat} (h:size n≤k):nd n≤9*k+1:=by
 refine (eo (by omega)).2 ?_
 have h1:=lt_size n
 have h2:DigNum.B^size n=10^(9*size n):=by rw[Nat.pow_mul];rfl
 rw[h2] at h1
 exact Nat.lt_of_lt_of_le h1 (Nat.pow_le_pow_right (by decide) (by omega))
theorem vP {t:ByteArray} {n:Int} {k:Nat} (h:aN t n) (hn:size n.natAbs≤k):t.size≤9*k+2:=by
 rw[h.size,bw]
 have:=GJ hn
 split<;>omega
theorem fm (va vb:Value) (n d:Int) (w:World) (ha:Big w va n) (hb:Big w vb d) (hd:d≠0) (hn:size n.natAbs≤100000000) (hm:size d.natAbs≤100000000) :
  Calls Tryz.prog 116 #[va,vb] w fun e w'=>∃ t:ByteArray,e=.returned (.string t)∧aG t (Rat.divInt n d)∧Kept w w':=by
 obtain⟨f1,f2⟩:=pB n d hd
 obtain⟨x,hx⟩:∃ x,Rat.divInt n d=x:=⟨_,rfl⟩
 rw[hx] at f1 f2 ⊢
 clear hx
 have HN1:=K7 fun w' v (h:Big w' v n)=>iz v n w' h (by omega)
 have HN2:=K7 fun w' v (h:Big w' v d)=>iz v d w' h (by omega)
 have hA:=ha
 have hBv:=hb
 obtain⟨l1,rfl,hl1⟩:=ha
 obtain⟨l2,rfl,hl2⟩:=hb
 have HC:=K7 fun l1 l2 w' h1 h2=>kD l1 l2 n.natAbs d.natAbs w' h1 h2 (by omega) (by omega)
 have hgp:=lP (n:=n.natAbs) (d:=d.natAbs) (by omega)
 have HD1:=K7 fun l lg w' h1 h2=>gH l lg n.natAbs (Nat.gcd n.natAbs d.natAbs) w' h1 h2 (by omega) hgp
 have HD2:=K7 fun l lg w' h1 h2=>gH l lg d.natAbs (Nat.gcd n.natAbs d.natAbs) w' h1 h2 (by omega) hgp
 rw[←f2] at HD2
 have sz2:size x.den≤100000000:=by rw[f2];exact Nat.le_trans (aK (Nat.div_le_self _ _)) hm
 have sz1:size (n.natAbs/Nat.gcd n.natAbs d.natAbs)≤100000000:=Nat.le_trans (aK (Nat.div_le_self _ _)) hn
 have HS1:=K7 fun b l w' (hb:b=decide (d.sign*n<0)) (h:Lim w' l (n.natAbs/Nat.gcd n.natAbs d.natAbs))=>bm b l _ w' (h.num (by omega)) (by omega)
 have HS1:Hid (∀ b l w',b=decide (d.sign*n<0)→Lim w' l (n.natAbs/Nat.gcd n.natAbs d.natAbs)→Calls Tryz.prog 185 #[.bool b,l] w' fun e w2=>∃ v,e=.returned v∧Big w2 v x.num∧Kept w' w2):=K7 fun b l w' hb h=>by
  have:=HS1.out b l w' hb h
  subst hb
  rwa [←f1] at this
 have HT1:=K7 fun w' v (h:Big w' v x.num)=>sG v x.num w' h (by rw[f1,cT];exact sz1)
 have HT2:=K7 fun w' v (h:Big w' v (x.den:Int))=>sG v x.den w' h (by rw[Int.natAbs_natCast];exact sz2)
 have Hz1:=K7 fun t (h:aN t x.num)=>vP h (by rw[f1,cT];exact sz1)
 have Hz2:=K7 fun t (h:aN t (x.den:Int))=>vP h (by rw[Int.natAbs_natCast];exact sz2)
 have HS2:=K7 fun l w' (h:Lim w' l x.den)=>bm false l x.den w' (h.num (by omega)) (by omega)
 have hden:=x.den_nz
 have HW:=K7 fun t (h:aN t x.num) h1=>qE h h1
 have HJ:=K7 fun t u (h:aN t x.num) (h2:aN u (x.den:Int)) h1=>sw h h2 h1
 have Hsg:=K7 (show (d<0→decide (-n<0)=decide (d.sign*n<0))∧(¬d<0→decide (n<0)=decide (d.sign*n<0)) from by
  constructor
  ·intro h;rw[Int.sign_eq_neg_one_of_neg h];congr 1;rw[eq_iff_iff];omega
  ·intro h;rw[Int.sign_eq_one_of_pos (by omega)];congr 1;rw[eq_iff_iff];omega)
 have Hn1:=K7 (show (-n).natAbs=n.natAbs from Int.natAbs_neg n)
 have Hn2:=K7 (show (-d).natAbs=d.natAbs from Int.natAbs_neg d)
 obtain⟨a1,c1,e1,_⟩:=id hl1
 obtain⟨a2,c2,e2,_⟩:=id hl2
 obtain⟨hk,hB1,hB2⟩:=bp w [.bool (decide (n<0)),l1] [.bool (decide (d<0)),l2] 117 117
 clear hn hm sz1 sz2 f1 f2 hgp hl1 hl2
 generalize hsn1:size n.natAbs=k1 at *
 generalize hsn2:size d.natAbs=k2 at *
 subst e1 e2
 generalize hs1:decide (n<0)=s1 at *
 generalize hs2:decide (d<0)=s2 at *
 have Hs1:=K7 hs1
 have Hs2:=K7 hs2
 clear hs1 hs2
 cases s2
 ·go_enter Tryz.func116,Tryz.ntmps116
  have hsg:=K7 (Hsg.out.2 (by simpa using Hs2.out))
  have hL1:=(hA.kept hk).int.2
  have hL2:=(hBv.kept hk).int.2
  have cc0:=hB1.cell 0 rfl
  have cc1:=hB1.cell 1 rfl
  have cc2:=hB2.cell 0 rfl
  have cc3:=hB2.cell 1 rfl
  clear Hsg HN1 HN2 hA hBv
  go_wp2_with fail
  generalize (w.alloc (.cells [.bool s1,.slice a1 k1 c1].toArray _)).alloc (.cells [.bool false,.slice a2 k2 c2].toArray _)=u0 at *
  refine (HC.out _ _ _ hL1 hL2).mono ?_
  rintro e u1 ⟨vg,rfl,hg,hk1⟩
  have hB1:=hB1.kept hk1
  have hB2:=hB2.kept hk1
  have hL1:=hL1.kept hk1
  have hL2:=hL2.kept hk1
  have hk:=Kept.comp _ _ _ hk hk1
  have cc0:=hB1.cell 0 rfl
  have cc1:=hB1.cell 1 rfl
  have cc2:=hB2.cell 0 rfl
  have cc3:=hB2.cell 1 rfl
  clear hk1 HC
  go_wp2_with fail
  refine (HD1.out _ _ _ hL1 hg).mono ?_
  rintro e u2 ⟨vp,vr,rfl,hp,hr,hk1⟩
  have hB1:=hB1.kept hk1
  have hB2:=hB2.kept hk1
  have hL2:=hL2.kept hk1
  have hg:=hg.kept hk1
  have hk:=Kept.comp _ _ _ hk hk1
  have cc0:=hB1.cell 0 rfl
  have cc1:=hB1.cell 1 rfl
  have cc2:=hB2.cell 0 rfl
  have cc3:=hB2.cell 1 rfl
  clear hk1 hr hL1 HD1
  go_wp2_with fail
  refine (HD2.out _ _ _ hL2 hg).mono ?_
  rintro e u3 ⟨vq,vr,rfl,hq,hr,hk1⟩
  have hB1:=hB1.kept hk1
  have hB2:=hB2.kept hk1
  have hp:=hp.kept hk1
  have hk:=Kept.comp _ _ _ hk hk1
  have cc0:=hB1.cell 0 rfl
  have cc1:=hB1.cell 1 rfl
  clear hk1 hr hL2 hB2 hg HD2
  go_wp2_with fail
  refine (HS1.out _ _ _ hsg.out hp).mono ?_
  rintro e u4 ⟨vs,rfl,hs,hk1⟩
  have hq:=hq.kept hk1
  have hk:=Kept.comp _ _ _ hk hk1
  clear hk1 hp HS1 cc0 cc1 hB1
  go_wp2_with fail
  refine (HT1.out _ _ hs).mono ?_
  rintro e u5 ⟨t,rfl,ht,hk1⟩
  have hq:=hq.kept hk1
  have hk:=Kept.comp _ _ _ hk hk1
  clear hk1 hs HT1
  obtain⟨a6,c6,e6,o6⟩:=lS hq
  by_cases hd1:x.den=1
  ·have HR:=K7 (HW.out t ht hd1)
   rw[hd1] at o6 e6
   rw[(cH (n:=1) (by decide) (by decide)).1,(cH (n:=1) (by decide) (by decide)).2] at o6
   rw[(cH (n:=1) (by decide) (by decide)).2] at e6
   obtain⟨b6,f6,rfl,o7⟩:=o6 (by decide)
   clear o6
   have o6:=o7 0 (by decide)
   clear o7
   change _=some (Value.int .i64 1) at o6
   rw[Nat.add_zero] at o6
   subst e6
   clear hq HT2 HS2 HJ HW hden hd1 ht Hz1 Hz2
   go_wp2
   go_ret
   exact⟨_,rfl,HR.out,hk⟩
  ·have HR:=K7 fun u (h:aN u (x.den:Int))=>HJ.out t u ht h hd1
   have htz:=Hz1.out t ht
   by_cases hs1:size x.den=1
   ·have hio:=tj hs1
    rw[hs1] at e6
    obtain⟨b6,f6,rfl,o7⟩:=o6 (by omega)
    clear o6
    have o6:=o7 0 (by omega)
    clear o7
    rw[hio,Nat.add_zero] at o6
    subst e6
    have hHq:=K7 hq
    have hnb:(((x.den:Nat):Int)==1)=false:=by rw[beq_eq_false_iff_ne];omega
    clear hq HJ HW hden hs1 hio ht Hz1
    generalize x.den=D at *
    go_wp2_with fail
    refine (HS2.out _ _ hHq.out).mono ?_
    rintro e u6 ⟨vs,rfl,hs,hk1⟩
    have hk:=Kept.comp _ _ _ hk hk1
    clear hk1
    rw[show az false D=(D:Int) from rfl] at hs
    go_wp2_with fail
    refine (HT2.out _ _ hs).mono ?_
    rintro e u7 ⟨u,rfl,hu,hk1⟩
    have hk:=Kept.comp _ _ _ hk hk1
    have huz:=Hz2.out u hu
    have HR:=K7 (HR.out u hu)
    have hz3:(t++ByteArray.mk #[47]).size=t.size+1:=by rw[ByteArray.size_append];rfl
    clear hk1 hu Hz2 HT2 HS2 hHq o6
    go_wp2
    go_ret
    exact⟨_,rfl,HR.out,hk⟩
   ·subst e6
    have hHq:=K7 hq
    clear hq HJ HW hden o6 ht Hz1
    generalize hz:size x.den=z at *
    have hnb:(((z:Nat):Int)==1)=false:=by rw[beq_eq_false_iff_ne];omega
    have hzH:=K7 hz
    clear hz hs1
    generalize x.den=D at *
    go_wp2_with fail
    refine (HS2.out _ _ hHq.out).mono ?_
    rintro e u6 ⟨vs,rfl,hs,hk1⟩
    have hk:=Kept.comp _ _ _ hk hk1
    clear hk1
    rw[show az false D=(D:Int) from rfl] at hs
    go_wp2_with fail
    refine (HT2.out _ _ hs).mono ?_
    rintro e u7 ⟨u,rfl,hu,hk1⟩
    have hk:=Kept.comp _ _ _ hk hk1
    have huz:=Hz2.out u hu
    have HR:=K7 (HR.out u hu)
    have hz3:(t++ByteArray.mk #[47]).size=t.size+1:=by rw[ByteArray.size_append];rfl
    clear hk1 hu Hz2 HT2 HS2 hHq
    go_wp2
    go_ret
    exact⟨_,rfl,HR.out,hk⟩
 ·go_enter Tryz.func116,Tryz.ntmps116
  have hsg:=K7 (Hsg.out.1 (by simpa using Hs2.out))
  have cc0:=hB1.cell 0 rfl
  have cc1:=hB1.cell 1 rfl
  have cc2:=hB2.cell 0 rfl
  have cc3:=hB2.cell 1 rfl
  go_wp2_with fail
  have hA:=hA.kept hk
  have hBv:=hBv.kept hk
  generalize (w.alloc (.cells [.bool s1,.slice a1 k1 c1].toArray _)).alloc (.cells [.bool true,.slice a2 k2 c2].toArray _)=w2 at *
  refine aj 4 [.is (.agg #[.bool s1,.slice a1 k1 c1]),.int (-n),.is (.agg #[.bool true,.slice a2 k2 c2]),.int (-d)] [0,1,2,3] (by kernel_rfl) (by kernel_rfl) (by kernel_rfl) (by kernel_rfl) (by kernel_rfl) (by kernel_rfl) (by intro f;simp only[laid,List.foldl_cons,List.foldl_nil,List.getElem?_toArray,K9,K8,Option.bind_some,Act.put,List.setIfInBounds_toArray,List.set_cons_zero,List.set_cons_succ];rfl) ?_ ?_
  ·intro i o him ho f wi hki hdep
   have cc0:=(hB1.kept hki).cell 0 rfl
   have cc1:=(hB1.kept hki).cell 1 rfl
   have cc2:=(hB2.kept hki).cell 0 rfl
   have cc3:=(hB2.kept hki).cell 1 rfl
   rcases i with _|_|_|_|i
   ·cases so ho
    refine ae.value (.agg #[.bool s1,.slice a1 k1 c1]) ?_ (aa rfl)
    go_simp
   ·cases so ho
    have d0:=hdep ⟨0,.data⟩ (by simp) rfl
    simp only[af,K9] at d0
    refine ae.call 184 #[.agg #[.bool s1,.slice a1 k1 c1]] (by go_simp) ((HN1.out wi _ (hA.kept hki)).mono ?_)
    rintro e w7 ⟨v,rfl,hv,hk7⟩
    exact⟨v,rfl,hv,hk7⟩
   ·cases so ho
    refine ae.value (.agg #[.bool true,.slice a2 k2 c2]) ?_ (aa rfl)
    go_simp
   ·cases so ho
    have d2:=hdep ⟨2,.data⟩ (by simp) rfl
    simp only[af,K9,K8] at d2
    refine ae.call 184 #[.agg #[.bool true,.slice a2 k2 c2]] (by go_simp) ((HN2.out wi _ (hBv.kept hki)).mono ?_)
    rintro e w7 ⟨v,rfl,hv,hk7⟩
    exact⟨v,rfl,hv,hk7⟩
   ·omega
  ·intro f wi hki hall
   have hv1:=hall 1 (by decide)
   have hv2:=hall 3 (by decide)
   simp only[af,K9,K8] at hv1 hv2
   clear hall
   obtain⟨s3,a3,n3,c3,e1⟩:=aM hv1
   obtain⟨s4,a4,n4,c4,e2⟩:=aM hv2
   rw[e1] at hv1
   rw[e2] at hv2
   simp only[List.drop_succ_cons,List.drop_zero]
   rw[e1,e2]
   clear e1 e2
   have hk:=Kept.comp _ _ _ hk hki
   have hB1:=hB1.kept hki
   have hB2:=hB2.kept hki
   have cc0:=hB1.cell 0 rfl
   have cc1:=hB1.cell 1 rfl
   have cc2:=hB2.cell 0 rfl
   have cc3':=hB2.cell 1 rfl
   have f0:=hB1.free 0
   have f1:=hB1.free 1
   have f2:=hB2.free 0
   have f3:=hB2.free 1
   have D1:=hB1.nA (.bool s3) (.slice a3 n3 c3)
   have D2:=hB2.ef (b:=w.heap.size) (by omega) (.bool s3) (.slice a3 n3 c3)
   have D1:=D1.ef (b:=w.heap.size+1) (by omega) (.bool s4) (.slice a4 n4 c4)
   have V1:=iD (u1:=.bool s3) (u2:=.slice a3 n3 c3) hv1 hB1
   have V2:=iD (u1:=.bool s3) (u2:=.slice a3 n3 c3) hv2 hB1
   have V1:=iD (u1:=.bool s4) (u2:=.slice a4 n4 c4) V1 D2
   have V2:=iD (u1:=.bool s4) (u2:=.slice a4 n4 c4) V2 D2
   have D2:=D2.nA (.bool s4) (.slice a4 n4 c4)
   have hk:=(Below.setCell ((Below.setCell ((Below.setCell ((Below.setCell hk (K6 _) (.bool s3):Below _ _ (wi.setCell ⟨w.heap.size,0,none⟩ _))) (K6 _) (.slice a3 n3 c3):Below _ _ (World.setCell _ ⟨w.heap.size,1,none⟩ _))) (Nat.le_succ _) (.bool s4):Below _ _ (World.setCell _ ⟨w.heap.size+1,0,none⟩ _))) (Nat.le_succ _) (.slice a4 n4 c4):Below _ _ (World.setCell _ ⟨w.heap.size+1,1,none⟩ _))
   obtain⟨g1,hL1⟩:=V1.int
   obtain⟨g2,hL2⟩:=V2.int
   rw[Hn1.out] at hL1
   rw[Hn2.out] at hL2
   have hsg:=K7 (g1.trans hsg.out)
   have k0:=D1.cell 0 rfl
   have k1':=D1.cell 1 rfl
   have k2':=D2.cell 0 rfl
   have k3:=D2.cell 1 rfl
   have hB1:=D1
   have hB2:=D2
   clear hv1 hv2 V1 V2 Hsg HN1 HN2 hA hBv hki D1 D2 g1 g2
   go_wp2_with fail
   generalize (((wi.setCell ⟨w.heap.size,0,none⟩ (.bool s3)).setCell ⟨w.heap.size,1,none⟩ (.slice a3 n3 c3)).setCell ⟨w.heap.size+1,0,none⟩ (.bool s4)).setCell ⟨w.heap.size+1,1,none⟩ (.slice a4 n4 c4)=u0 at *
   refine (HC.out _ _ _ hL1 hL2).mono ?_
   rintro e u1 ⟨vg,rfl,hg,hk1⟩
   have hB1:=hB1.kept hk1
   have hB2:=hB2.kept hk1
   have hL1:=hL1.kept hk1
   have hL2:=hL2.kept hk1
   have hk:=Kept.comp _ _ _ hk hk1
   have cc0:=hB1.cell 0 rfl
   have cc1:=hB1.cell 1 rfl
   have cc2:=hB2.cell 0 rfl
   have cc3:=hB2.cell 1 rfl
   clear hk1 HC
   go_wp2_with fail
   refine (HD1.out _ _ _ hL1 hg).mono ?_
   rintro e u2 ⟨vp,vr,rfl,hp,hr,hk1⟩
   have hB1:=hB1.kept hk1
   have hB2:=hB2.kept hk1
   have hL2:=hL2.kept hk1
   have hg:=hg.kept hk1
   have hk:=Kept.comp _ _ _ hk hk1
   have cc0:=hB1.cell 0 rfl
   have cc1:=hB1.cell 1 rfl
   have cc2:=hB2.cell 0 rfl
   have cc3:=hB2.cell 1 rfl
   clear hk1 hr hL1 HD1
   go_wp2_with fail
   refine (HD2.out _ _ _ hL2 hg).mono ?_
   rintro e u3 ⟨vq,vr,rfl,hq,hr,hk1⟩
   have hB1:=hB1.kept hk1
   have hB2:=hB2.kept hk1
   have hp:=hp.kept hk1
   have hk:=Kept.comp _ _ _ hk hk1
   have cc0:=hB1.cell 0 rfl
   have cc1:=hB1.cell 1 rfl
   clear hk1 hr hL2 hB2 hg HD2
   go_wp2_with fail
   refine (HS1.out _ _ _ hsg.out hp).mono ?_
   rintro e u4 ⟨vs,rfl,hs,hk1⟩
   have hq:=hq.kept hk1
   have hk:=Kept.comp _ _ _ hk hk1
   clear hk1 hp HS1 cc0 cc1 hB1
   go_wp2_with fail
   refine (HT1.out _ _ hs).mono ?_
   rintro e u5 ⟨t,rfl,ht,hk1⟩
   have hq:=hq.kept hk1
   have hk:=Kept.comp _ _ _ hk hk1
   clear hk1 hs HT1
   obtain⟨a6,c6,e6,o6⟩:=lS hq
   by_cases hd1:x.den=1
   ·have HR:=K7 (HW.out t ht hd1)
    rw[hd1] at o6 e6
    rw[(cH (n:=1) (by decide) (by decide)).1,(cH (n:=1) (by decide) (by decide)).2] at o6
    rw[(cH (n:=1) (by decide) (by decide)).2] at e6
    obtain⟨b6,f6,rfl,o7⟩:=o6 (by decide)
    clear o6
    have o6:=o7 0 (by decide)
    clear o7
    change _=some (Value.int .i64 1) at o6
    rw[Nat.add_zero] at o6
    subst e6
    clear hq HT2 HS2 HJ HW hden hd1 ht Hz1 Hz2
    go_wp2
    go_ret
    exact⟨_,rfl,HR.out,hk⟩
   ·have HR:=K7 fun u (h:aN u (x.den:Int))=>HJ.out t u ht h hd1
    have htz:=Hz1.out t ht
    by_cases hs1:size x.den=1
    ·have hio:=tj hs1
     rw[hs1] at e6
     obtain⟨b6,f6,rfl,o7⟩:=o6 (by omega)
     clear o6
     have o6:=o7 0 (by omega)
     clear o7
     rw[hio,Nat.add_zero] at o6
     subst e6
     have hHq:=K7 hq
     have hnb:(((x.den:Nat):Int)==1)=false:=by rw[beq_eq_false_iff_ne];omega
     clear hq HJ HW hden hs1 hio ht Hz1
     generalize x.den=D at *
     go_wp2_with fail
     refine (HS2.out _ _ hHq.out).mono ?_
     rintro e u6 ⟨vs,rfl,hs,hk1⟩
     have hk:=Kept.comp _ _ _ hk hk1
     clear hk1
     rw[show az false D=(D:Int) from rfl] at hs
     go_wp2_with fail
     refine (HT2.out _ _ hs).mono ?_
     rintro e u7 ⟨u,rfl,hu,hk1⟩
     have hk:=Kept.comp _ _ _ hk hk1
     have huz:=Hz2.out u hu
     have HR:=K7 (HR.out u hu)
     have hz3:(t++ByteArray.mk #[47]).size=t.size+1:=by rw[ByteArray.size_append];rfl
     clear hk1 hu Hz2 HT2 HS2 hHq o6
     go_wp2
     go_ret
     exact⟨_,rfl,HR.out,hk⟩
    ·subst e6
     have hHq:=K7 hq
     clear hq HJ HW hden o6 ht Hz1
     generalize hz:size x.den=z at *
     have hnb:(((z:Nat):Int)==1)=false:=by rw[beq_eq_false_iff_ne];omega
     have hzH:=K7 hz
     clear hz hs1
     generalize x.den=D at *
     go_wp2_with fail
     refine (HS2.out _ _ hHq.out).mono ?_
     rintro e u6 ⟨vs,rfl,hs,hk1⟩
     have hk:=Kept.comp _ _ _ hk hk1
     clear hk1
     rw[show az false D=(D:Int) from rfl] at hs
     go_wp2_with fail
     refine (HT2.out _ _ hs).mono ?_
     rintro e u7 ⟨u,rfl,hu,hk1⟩
     have hk:=Kept.comp _ _ _ hk hk1
     have huz:=Hz2.out u hu
     have HR:=K7 (HR.out u hu)
     have hz3:(t++ByteArray.mk #[47]).size=t.size+1:=by rw[ByteArray.size_append];rfl
     clear hk1 hu Hz2 HT2 HS2 hHq
     go_wp2
     go_ret
     exact⟨_,rfl,HR.out,hk⟩
end Go.Proofs.YtjbcmmaniphkkaaGreatDoor.D
