import Derived.Test.YtjbcmmaniphkkaaGreatDoorLa
set_option linter.unusedSectionVars false
set_option linter.unusedVariables false
set_option linter.unusedSimpArgs false
set_option maxRecDepth 100000
namespace Go.Proofs.YtjbcmmaniphkkaaGreatDoor
open Go.RowKit LimbNum
theorem qV (x:Int) (c:Nat):az (decide (x<0)) (x.natAbs*2^c)=x*2^c:=by
 have h:az (decide (x<0)) (x.natAbs*2^c)=az (decide (x<0) != decide (((2^c:Nat):Int)<0)) (x.natAbs*((2^c:Nat):Int).natAbs):=by
  rw[show decide (((2^c:Nat):Int)<0)=false by rw[decide_eq_false_iff_not];exact Int.not_lt.2 (Int.natCast_nonneg _),Int.natAbs_natCast,Bool.bne_false]
 rw[h,iO]
 rw[Int.natCast_pow]
 rfl
theorem sD (c k:Nat) (h:c<64*k):size (2^c)≤k:=by
 refine size_le ?_
 have e:LimbNum.B=2^64:=by simp[LimbNum.B]
 rw[e,←Nat.pow_mul]
 exact Nat.pow_lt_pow_right (by omega) h
theorem xY (x c:Nat) (hc:c≤1073741824):size (x*2^c)≤size x+16777217:=by
 have h1:=mi x (2^c)
 have h2:=sD c 16777217 (by omega)
 omega
theorem nH (v:Value) (n c:Int) (w:World) (h:Whole w v n) (hm:size n.natAbs≤1073741824) (hc:c≤1073741824) :
  Calls Tryz.prog 151 #[v,.int .i64 c] w fun e w'=>∃ v,e=.returned v∧Whole w' v (n*2^c.toNat)∧Kept w w':=by
 obtain⟨l,rfl,hl⟩:=h
 have hn:=qV n c.toNat
 have hs:=K7 fun w' (hk:Kept w w')=>kl l n.natAbs c.toNat w' (hl.kept hk) hm (by omega)
 have hz:=K7 (Nat.le_trans (xY n.natAbs c.toNat (by omega)) (by omega:size n.natAbs+16777217≤1099511627776))
 clear hl hm
 generalize hmm:c.toNat=k at *
 have hcz:max c 0=(k:Int):=by omega
 generalize decide (n<0)=s at *
 go_enter Tryz.func151,Tryz.ntmps151
 go_wp2_with fail
 obtain⟨hk,hB1,hB3⟩:=bp w [.bool s,l] [.bool false,.slice none 0 0] 95 95
 generalize (w.alloc (.cells [.bool s,l].toArray _)).alloc (.cells [.bool false,.slice none 0 0].toArray _)=w2 at *
 refine aj 8 [.is (.pointer (some ⟨w.heap.size,0,none⟩)),.is (.bool s),.is (.pointer (some ⟨w.heap.size,1,none⟩)),.is l,.is (.int .i64 c),.is (.int .i64 (k:Int)),.lim (n.natAbs*2^k),.int (n*2^k)] [0,1,2,3,4,5,6,7] (by kernel_rfl) (by kernel_rfl) (by kernel_rfl) (by kernel_rfl) (by kernel_rfl) (by kernel_rfl) (by intro f;simp only[laid,List.foldl_cons,List.foldl_nil,List.getElem?_toArray,K9,K8,Option.bind_some,Act.put,List.setIfInBounds_toArray,List.set_cons_zero,List.set_cons_succ];rfl) ?_ ?_
 ·intro i o him ho f wi hki hdep
  have c1:=(hB1.kept hki).cell 0 rfl
  have c2:=(hB1.kept hki).cell 1 rfl
  rcases i with _|_|_|_|_|_|_|_|i
  ·cases so ho
   refine ae.value (.pointer (some ⟨w.heap.size,0,none⟩)) ?_ (aa rfl)
   go_simp
  ·cases so ho
   have d0:=hdep ⟨0,.data⟩ (by simp) rfl
   simp only[af,K9] at d0
   refine ae.value (.bool s) ?_ (aa rfl)
   go_simp
  ·cases so ho
   refine ae.value (.pointer (some ⟨w.heap.size,1,none⟩)) ?_ (aa rfl)
   go_simp
  ·cases so ho
   have d2:=hdep ⟨2,.data⟩ (by simp) rfl
   simp only[af,K9,K8] at d2
   refine ae.value l ?_ (aa rfl)
   go_simp
  ·cases so ho
   refine ae.value (.int .i64 c) ?_ (aa rfl)
   go_simp
  ·cases so ho
   have d4:=hdep ⟨4,.data⟩ (by simp) rfl
   simp only[af,K9,K8] at d4
   refine ae.value (.int .i64 (k:Int)) ?_ (aa rfl)
   go_simp
   split<;>omega
  ·cases so ho
   have d3:=hdep ⟨3,.data⟩ (by simp) rfl
   have d5:=hdep ⟨5,.data⟩ (by simp) rfl
   simp only[af,K9,K8] at d3 d5
   refine ae.call 212 #[l,.int .i64 (k:Int)] (by go_simp) ((hs.out wi (Kept.comp _ _ _ hk hki)).mono ?_)
   rintro e w3 ⟨u,rfl,hu,hk3⟩
   exact⟨u,rfl,hu,hk3⟩
  ·cases so ho
   have d1:=hdep ⟨1,.data⟩ (by simp) rfl
   have d6:=hdep ⟨6,.data⟩ (by simp) rfl
   simp only[af,K9,K8] at d1 d6
   refine ae.call 158 #[.bool s,f 6] (by go_simp) ((bm s (f 6) _ wi d6 hz.out).mono ?_)
   rintro e w3 ⟨u,rfl,hu,hk3⟩
   rw[hn] at hu
   exact⟨u,rfl,hu,hk3⟩
  ·omega
 ·intro f wi hki hall
  have hv:=hall 7 (by decide)
  simp only[af,K9,K8] at hv
  clear hall
  obtain⟨_,he,a',c',rfl,_⟩:=id hv
  rw[he] at hv
  simp only[List.drop_succ_cons,List.drop_zero]
  rw[he]
  generalize size (n*2^k).natAbs=n' at *
  generalize decide (n*2^k<0)=s' at *
  have hB:=hB3.kept hki
  have r0:=hB.cell 0 rfl
  have r1:=hB.cell 1 rfl
  have f0:=hB.free 0
  have f1:=hB.free 1
  go_wp2
  obtain⟨p0,p1,p2,p3⟩:=aP hB (by omega) (Kept.comp _ _ _ hk hki) hv
  exact bodyPost_ret (v:=.agg #[.bool s',.slice a' n' c']) (by simp[results,Tryz.results151,go_sem,p0,p1]) rfl ⟨_,rfl,p2,p3⟩
def bj (n:Nat):Nat:=if n=0 then 0 else Nat.log2 n+1
theorem kb {n:Nat} (h:n≠0):bj n=64*(size n-1)+Lib.bitLen ((ai n).getD (size n-1) 0):=by
 have hs:=LimbNum.size_pos.2 h
 have hl:(ai n).length=size n:=rfl
 have hv:=au n
 have ht:=aB (ai n) (size n-1)
 rw[show size n-1+1=(ai n).length by omega,List.take_length,hv] at ht
 have hlow:val ((ai n).take (size n-1))<LimbNum.B^(size n-1):=by
  have:=dn ((ao n).take (size n-1))
  rwa [List.length_take,Nat.min_eq_left (by omega)] at this
 have hge:=dO (n:=n) (k:=size n-1) (by omega)
 have htB:=(ao n).get (size n-1)
 generalize (ai n).getD (size n-1) 0=t at *
 generalize val ((ai n).take (size n-1))=low at *
 have ht0:t≠0:=by rintro rfl;rw[Nat.mul_zero] at ht;omega
 obtain⟨l1,l2,l3⟩:=dE 64 t (by unfold LimbNum.B at htB;exact htB) (K6 _) ht0
 have hB:LimbNum.B^(size n-1)=2^(64*(size n-1)):=by
  rw[show LimbNum.B=2^64 by simp[LimbNum.B],←Nat.pow_mul]
 generalize size n-1=k at *
 generalize Lib.bitLen t=bl at *
 unfold bj
 rw[if_neg h]
 have e:n.log2=64*k+bl-1:=by
  rw[Nat.log2_eq_iff h]
  have p1:2^(64*k+bl-1)=LimbNum.B^k*2^(bl-1):=by rw[hB,←Nat.pow_add];congr 1;omega
  have p2:2^(64*k+bl-1+1)=LimbNum.B^k*2^bl:=by rw[hB,←Nat.pow_add];congr 1;omega
  rw[p1,p2]
  refine ⟨?_,?_⟩
  ·have:=Nat.mul_le_mul_left (LimbNum.B^k) l1
   omega
  ·have:=Nat.mul_le_mul_left (LimbNum.B^k) (Nat.succ_le_of_lt l2)
   rw[Nat.succ_eq_add_one,Nat.mul_add,Nat.mul_one] at this
   omega
 omega
theorem kx (v:Value) (n:Int) (w:World) (h:Whole w v n) (hm:size n.natAbs≤1073741824) :
  Calls Tryz.prog 152 #[v] w fun e w'=>e=.returned (.int .i64 (bj n.natAbs))∧Kept w w':=by
 obtain⟨_,rfl,a,c,rfl,hc,hr⟩:=h
 generalize decide (n<0)=s at *
 by_cases h0:n.natAbs=0
 ·rw[h0,show size 0=0 from rfl]
  rw[show ((bj 0:Nat):Int)=0 from rfl]
  go_enter Tryz.func152,Tryz.ntmps152
  go_wp2
  go_ret
  exact⟨rfl,ak _ _⟩
 ·rw[kb h0]
  rcases hr with ⟨_,hn⟩|⟨b,o,rfl,hb,hcell⟩
  ·exact absurd (aF.1 hn) h0
  ·have hs0:=LimbNum.size_pos.2 h0
   have hcl:=hcell (size n.natAbs-1) (by show _<size n.natAbs;omega)
   have hlB:=(ao n.natAbs).get (size n.natAbs-1)
   have hlen:=K7 (rZ _ hlB)
   have hk:=ak w (.cells [.bool s,.slice (some ⟨b,o,none⟩) (size n.natAbs) c].toArray 95)
   have hcl2:=(Below.cell hk (p:=⟨b,o+(size n.natAbs-1),none⟩) hb).trans hcl
   have hb64:Lib.bitLen ((ai n.natAbs).getD (size n.natAbs-1) 0)≤64:=fy hlB
   generalize (ai n.natAbs).getD (size n.natAbs-1) 0=t at *
   generalize Lib.bitLen t=bl at *
   clear hcell hcl hlB h0
   generalize size n.natAbs=z at *
   have ia:=dP b o z c (z-1) (by omega)
   have wa:IntKind.i64.wrap ((z:Int)-1)=((z-1:Nat):Int):=by rw[IntWalk.i64_in _ (by omega)];omega
   have hne:((z:Int)==0)=false:=by rw[beq_eq_false_iff_ne];omega
   go_enter Tryz.func152,Tryz.ntmps152
   go_wp2_with (go_at_call 213;refine (hlen.out _).mono ?_;rintro e w' ⟨rfl,rfl⟩)
   go_ret
   exact⟨by rw[Int.natCast_add,Int.natCast_mul];rfl,ak _ _⟩
theorem mW {w:World} {v:Value} {n:Nat} (h:Lim w v n) (h0:n≠0) :
  ∃ b o c,v=.slice (some ⟨b,o,none⟩) (size n) c∧w.cell? ⟨b,o,none⟩=some (.int .u64 ((n%LimbNum.B:Nat):Int))∧b<w.heap.size:=by
 obtain⟨a,c,rfl,_,hr⟩:=h
 rcases hr with ⟨_,hn⟩|⟨b,o,rfl,hb,hc⟩
 ·exact absurd (aF.1 hn) h0
 ·refine ⟨b,o,c,rfl,?_,hb⟩
  have:=hc 0 (by have:=LimbNum.size_pos.2 h0;exact this)
  rw[br h0] at this
  exact this
theorem vW {n:Nat} (h:size n=1):n%LimbNum.B=n:=by
 have:=lt_size n
 rw[h,Nat.pow_one] at this
 exact Nat.mod_eq_of_lt this
theorem vC {n:Nat} (h0:n≠0) (h:n<LimbNum.B):size n=1:=by
 have h1:=LimbNum.size_pos.2 h0
 have h2:size n≤1:=size_le (by rw[Nat.pow_one];exact h)
 omega
theorem mD (v:Value) (n:Int) (w:World) (h:Whole w v n) (hm:size n.natAbs≤1099511627776) :
  Calls Tryz.prog 148 #[v] w fun e w'=>e=.returned (.bool (decide (n=1)))∧Kept w w':=by
 obtain⟨_,rfl,hl⟩:=h
 by_cases h1:size n.natAbs=1
 ·have h0:n.natAbs≠0:=by intro h;rw[h] at h1;simp[bW] at h1
  obtain⟨b,o,c,rfl,hc,hb⟩:=mW hl h0
  rw[vW h1] at hc
  rw[h1]
  have hk:=ak w (.cells [.bool (decide (n<0)),.slice (some ⟨b,o,none⟩) 1 c].toArray 95)
  have hc2:=(Below.cell hk (p:=⟨b,o,none⟩) hb).trans hc
  by_cases hn1:n.natAbs=1
  ·rw[hn1] at hc2
   have hd:decide (n=1) = !decide (n<0):=by
    by_cases h:n<0
    ·have:n≠1:=by omega
     simp[h,this]
    ·have:n=1:=by omega
     simp[this]
   rw[hd]
   clear hc hl h0 h1 hn1 hd
   generalize decide (n<0)=s at *
   go_enter Tryz.func148,Tryz.ntmps148
   go_wp2
   go_ret
   exact⟨rfl,ak _ _⟩
  ·have hd:decide (n=1)=false:=by simp;omega
   have hne:(((n.natAbs:Nat):Int)==1)=false:=by rw[beq_eq_false_iff_ne];omega
   rw[hd]
   clear hc hl h0 h1 hn1 hd
   generalize decide (n<0)=s at *
   generalize ((n.natAbs:Nat):Int)=m at *
   go_enter Tryz.func148,Tryz.ntmps148
   go_wp2
   go_ret
   exact⟨rfl,ak _ _⟩
 ·have hd:decide (n=1)=false:=by
   rw[decide_eq_false_iff_not]
   rintro rfl
   exact h1 (vC (by decide) (by simp[LimbNum.B]))
  rw[hd]
  obtain⟨a,c,rfl,_,_⟩:=hl
  have hne:((size n.natAbs:Int)==1)=false:=by rw[beq_eq_false_iff_ne];omega
  clear hd h1
  generalize size n.natAbs=z at *
  generalize decide (n<0)=s at *
  go_enter Tryz.func148,Tryz.ntmps148
  go_wp2
  go_ret
  exact⟨rfl,ak _ _⟩
theorem zM (v:Value) (n:Int) (w:World) (h:Whole w v n) (hm:size n.natAbs≤1099511627776) :
  Calls Tryz.prog 259 #[v] w fun e w'=>e=.returned (.bool (decide (n%2=1)))∧Kept w w':=by
 obtain⟨_,rfl,hl⟩:=h
 by_cases h0:n.natAbs=0
 ·obtain rfl:n=0:=by omega
  obtain⟨a,c,rfl,_,_⟩:=hl
  rw[show size (Int.natAbs 0)=0 from rfl,show decide ((0:Int)<0)=false from rfl,show decide ((0:Int)%2=1)=false from rfl]
  go_enter Tryz.func259,Tryz.ntmps259
  go_wp2
  go_ret
  exact⟨rfl,ak _ _⟩
 ·obtain⟨b,o,c,rfl,hc,hb⟩:=mW hl h0
  have hs:=LimbNum.size_pos.2 h0
  have hk:=ak w (.cells [.bool (decide (n<0)),.slice (some ⟨b,o,none⟩) (size n.natAbs) c].toArray 95)
  have hc2:=(Below.cell hk (p:=⟨b,o,none⟩) hb).trans hc
  have hd:decide (n%2=1)=(((n.natAbs%LimbNum.B:Nat):Int)%2==1):=by
   have:LimbNum.B=2*9223372036854775808:=by simp[LimbNum.B]
   have h2:n.natAbs%LimbNum.B%2=n.natAbs%2:=by rw[this];exact Nat.mod_mul_right_mod _ _ _
   have h3:(((n.natAbs%LimbNum.B:Nat):Int)%2)=((n.natAbs%LimbNum.B%2:Nat):Int):=by omega
   rw[h3,h2,Bool.eq_iff_iff]
   simp
   omega
  rw[hd]
  have hp:(0:Int)≤((n.natAbs%LimbNum.B:Nat):Int):=by omega
  have hd2:decide ((size n.natAbs:Int)>0)=true:=by simp;omega
  clear hc hl hd h0
  generalize ((n.natAbs%LimbNum.B:Nat):Int)=m at *
  generalize size n.natAbs=z at *
  generalize decide (n<0)=s at *
  go_enter Tryz.func259,Tryz.ntmps259
  go_wp2
  go_ret
  exact⟨rfl,ak _ _⟩
def gJ (n:Int):Bool:=decide (n.natAbs<9223372036854775808)
theorem zL (v:Value) (n:Int) (w:World) (h:Whole w v n) (hm:size n.natAbs≤1099511627776) :
  Calls Tryz.prog 236 #[v] w fun e w'=>e=.returned (.tuple #[.int .i64 (if gJ n then n else 0),.bool (gJ n)])∧Kept w w':=by
 obtain⟨_,rfl,hl⟩:=h
 by_cases h0:n.natAbs=0
 ·obtain rfl:n=0:=by omega
  obtain⟨a,c,rfl,_,_⟩:=hl
  rw[show size (Int.natAbs 0)=0 from rfl,show decide ((0:Int)<0)=false from rfl,show gJ 0=true from rfl,if_pos rfl]
  go_enter Tryz.func236,Tryz.ntmps236
  go_wp2
  go_ret2
  exact⟨rfl,ak _ _⟩
 ·obtain⟨b,o,c,rfl,hc,hb⟩:=mW hl h0
  have hs:=LimbNum.size_pos.2 h0
  have hk:=ak w (.cells [.bool (decide (n<0)),.slice (some ⟨b,o,none⟩) (size n.natAbs) c].toArray 95)
  have hc2:=(Below.cell hk (p:=⟨b,o,none⟩) hb).trans hc
  have hne:((size n.natAbs:Int)==0)=false:=by rw[beq_eq_false_iff_ne];omega
  by_cases h1:size n.natAbs=1
  ·rw[vW h1] at hc2
   have hB:=lt_size n.natAbs
   rw[h1,Nat.pow_one] at hB
   rw[h1] at hc2 ⊢
   by_cases hf:n.natAbs<9223372036854775808
   ·have hff:gJ n=true:=by simp[gJ,hf]
    rw[hff,if_pos rfl]
    obtain⟨m,hm1⟩:∃ m:Int,m=((n.natAbs:Nat):Int):=⟨_,rfl⟩
    rw[←hm1] at hc2
    have hlt:decide (m ≥ 9223372036854775808)=false:=by rw[decide_eq_false_iff_not];omega
    have hw:IntKind.i64.wrap m=m:=IntWalk.i64_in _ (by omega)
    have hw2:IntKind.i64.wrap (-m) = -m:=IntWalk.i64_in _ (by omega)
    have e:n=if decide (n<0) then -m else m:=by
     by_cases hn:n<0
     ·rw[decide_eq_true hn,if_pos rfl];omega
     ·rw[decide_eq_false hn,if_neg (by simp)];omega
    generalize hsg:decide (n<0)=s at *
    clear hc hl h0 h1 hf hff hB hm1 hsg hne hs
    cases s
    ·rw[if_neg (by simp)] at e
     subst e
     go_enter Tryz.func236,Tryz.ntmps236
     go_wp2
     go_ret2
     exact⟨rfl,ak _ _⟩
    ·rw[if_pos rfl] at e
     subst e
     go_enter Tryz.func236,Tryz.ntmps236
     go_wp2
     go_ret2
     exact⟨rfl,ak _ _⟩
   ·have hff:gJ n=false:=by simp[gJ];omega
    rw[hff,if_neg (by simp)]
    obtain⟨m,hm1⟩:∃ m:Int,m=((n.natAbs:Nat):Int):=⟨_,rfl⟩
    rw[←hm1] at hc2
    have hlt:decide (m ≥ 9223372036854775808)=true:=by rw[decide_eq_true_iff];omega
    clear hc hl h0 h1 hf hff hB hm1 hne hs
    generalize decide (n<0)=s at *
    go_enter Tryz.func236,Tryz.ntmps236
    go_wp2
    go_ret2
    exact⟨rfl,ak _ _⟩
  ·have hff:gJ n=false:=by
    simp only[gJ,decide_eq_false_iff_not]
    intro hf
    exact h1 (vC h0 (Nat.lt_trans hf (by simp[LimbNum.B])))
   rw[hff,if_neg (by simp)]
   have hgt:decide ((size n.natAbs:Int)>1)=true:=by simp;omega
   clear hc hl h0 hff h1
   generalize ((n.natAbs%LimbNum.B:Nat):Int)=m at *
   generalize size n.natAbs=z at *
   generalize decide (n<0)=s at *
   go_enter Tryz.func236,Tryz.ntmps236
   go_wp2
   go_ret2
   exact⟨rfl,ak _ _⟩
end Go.Proofs.YtjbcmmaniphkkaaGreatDoor
