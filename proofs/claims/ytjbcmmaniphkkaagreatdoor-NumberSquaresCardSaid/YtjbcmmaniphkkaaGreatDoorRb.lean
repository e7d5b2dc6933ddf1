import Derived.Test.YtjbcmmaniphkkaaGreatDoorRa
set_option linter.unusedSectionVars false
set_option linter.unusedVariables false
set_option linter.unusedSimpArgs false
set_option maxRecDepth 100000
set_option maxHeartbeats 2000000
namespace Go.Proofs.YtjbcmmaniphkkaaGreatDoor.D
open Go.RowKit DigNum
def ow (xs ys:List Nat) (k:Nat):List Nat:=(List.range k).map (cY xs ys)
theorem Aj (xs ys:List Nat) (k:Nat):ow xs ys (k+1)=ow xs ys k++[cY xs ys k]:=by simp[ow,List.range_succ]
theorem nK (xs ys:List Nat) (k:Nat):(ow xs ys k).length=k:=by simp[ow]
theorem CF {xs ys:List Nat} (hx:Fit xs) (hy:Fit ys) (k:Nat):Fit (ow xs ys k):=by
 intro x h
 obtain⟨i,_,rfl⟩:=List.mem_map.1 h
 exact mj hx hy i
theorem CE {xs ys:List Nat} (hx:Fit xs) (hy:Fit ys) (hl:ys.length≤xs.length) (h:val ys≤val xs):val (ow xs ys xs.length)=val xs-val ys:=by
 rw[←tT hx hy hl h,cU];rfl
theorem rC (va vb:Value) (xs ys:List Nat) (w:World) (ha:Row w va xs) (hb:Row w vb ys) (hfx:Fit xs) (hfy:Fit ys) (hx:xs.length≤1073741824) (hy:ys.length≤xs.length) (hle:val ys≤val xs) :
  Calls Tryz.prog 226 #[va,vb] w fun e w'=>∃ v,e=.returned v∧Lim w' v (val xs-val ys)∧Kept w w':=by
 obtain⟨i0,hi,hz0,hz1,hz2⟩:=info_parts Tryz.fM
 have D2:=K7 fun w' (hk:Kept w w') (i:Nat)=>mK vb ys i w' (hb.kept hk) (by omega)
 have hall:=CE hfx hfy hy hle
 have hfit:=CF hfx hfy
 have Tr:=K7 fun w' v (hr:Row w' v (ow xs ys xs.length))=>fV v (ow xs ys xs.length) w' hr (hfit _) (by rw[nK];omega)
 rw[hall] at Tr
 obtain⟨a1,c1,rfl,hc1,r1⟩:=ha.opened
 obtain⟨a2,c2,rfl,_,_⟩:=id hb
 have Hle:=K7 (dM xs ys)
 have Gx:=K7 hfx.get
 have Gy:=K7 hfy.get
 have Hx:=K7 r1
 generalize hn1:xs.length=n1 at *
 generalize hn2:ys.length=n2 at *
 have HL:=K7 hn1
 clear hn1 hn2 ha hb hfit hall
 generalize hg:w.heap.size=G
 have hG:=K7 hg
 clear hg
 go_enter Tryz.func226,Tryz.ntmps226
 go_wp2
 go_loopw [5,6,7,8] (fun v c i _ wr=>∃ k:Nat,k≤n1∧i=.int .i64 k∧c=.int .i64 ((bJ xs ys k:Nat):Int)∧wr.ownsRow G 3 1 v k (cellsOf (ow xs ys k))∧Below G w wr) (fun _ _ i _ _=>n1-(intOf i).toNat)
 case atStart=>exact⟨0,Nat.zero_le _,rfl,rfl,⟨rfl,.inl ⟨rfl,rfl⟩⟩,Below.refl _ _⟩
 case round=>
  obtain⟨k,hk,rfl,rfl,hown,hbel⟩:=hrel
  have hc:=Hle.out k
  by_cases hkn:k=n1
  ·have hr:=dW hown
   rw[hkn] at hr
   have Tr':=K7 (Tr.out _ _ hr)
   obtain⟨a3,c3,rfl,_,_⟩:=hr
   rw[nK] at *
   clear Hle Hx
   go_wp2_with fail
   refine (Tr'.out).mono ?_
   rintro e w' ⟨v,rfl,hv,hk'⟩
   obtain⟨a4,c4,rfl,_,_⟩:=id hv
   go_wp2
   go_ret
   exact⟨_,rfl,hv,by unfold Kept;rw[hG.out];exact hbel.trans (hk'.mono (by have:=hbel.size;rw[hG.out] at this;exact this))⟩
  ·obtain⟨b1,off,rfl,hb1,hcells⟩:=Hx.out (by omega)
   have hx1:=hcells k (by omega)
   have d2:=K7 fun w' hk=>D2.out w' hk k
   have h1:=Gx.out k
   have h2:=Gy.out k
   have hB:DigNum.B=1000000000:=rfl
   rw[hB] at h1 h2
   have hnx:bJ xs ys (k+1)=if xs.getD k 0<ys.getD k 0+bJ xs ys k then 1 else 0:=rfl
   have hsu:=Aj xs ys k
   have hd:cY xs ys k=if xs.getD k 0<ys.getD k 0+bJ xs ys k then xs.getD k 0+1000000000-(ys.getD k 0+bJ xs ys k) else xs.getD k 0-(ys.getD k 0+bJ xs ys k):=rfl
   have hkw:Kept w wr:=by unfold Kept;rw[hG.out];exact hbel
   have hsize:=hbel.size
   rw[hG.out] at hsize
   clear Hx hcells Hle Tr
   generalize hcn0:bJ xs ys (k+1)=cn at *
   generalize hln0:ow xs ys (k+1)=ln at *
   have Hcn0:=K7 hcn0
   have Hln0:=K7 hln0
   have Hnx:=K7 hnx
   have Hsu:=K7 hsu
   have Hd:=K7 hd
   clear hcn0 hln0 hnx hsu hd
   generalize ow xs ys k=lk at *
   generalize cY xs ys k=d at *
   generalize bJ xs ys k=c at *
   generalize xs.getD k 0=x at *
   generalize ys.getD k 0=y at *
   have w1:IntKind.i64.wrap ((x:Int)-y)=(x:Int)-y:=IntWalk.i64_in _ (by omega)
   have w2:IntKind.i64.wrap ((x:Int)-y-c)=(x:Int)-y-c:=IntWalk.i64_in _ (by omega)
   go_wp2_with fail
   refine aj 10 [.is (.slice (some ⟨b1,off,none⟩) n1 c1),.is (.int .i64 k),.is (.pointer (some ⟨b1,off+k,none⟩)),.is (.int .i64 x),.is (.slice a2 n2 c2),.is (.int .i64 k),.is (.int .i64 y),.is (.int .i64 ((x:Int)-y)),.is (.int .i64 c),.is (.int .i64 ((x:Int)-y-c))] [0,1,2,3,4,5,6,7,8,9] (by kernel_rfl) (by kernel_rfl) (by kernel_rfl) (by kernel_rfl) (by kernel_rfl) (by kernel_rfl) (by intro f;simp only[laid,List.foldl_cons,List.foldl_nil,List.getElem?_toArray,K9,K8,Option.bind_some,Act.put,List.setIfInBounds_toArray,List.set_cons_zero,List.set_cons_succ];rfl) ?_ ?_
   ·intro i o him ho f wi hki hdep
    have e1:=((Kept.comp _ _ _ hkw hki).cell (p:=⟨b1,off+k,none⟩) hb1).trans hx1
    rcases i with _|_|_|_|_|_|_|_|_|_|i
    ·cases so ho
     refine ae.value (.slice (some ⟨b1,off,none⟩) n1 c1) ?_ (aa rfl)
     go_simp
    ·cases so ho
     refine ae.value (.int .i64 k) ?_ (aa rfl)
     go_simp
    ·cases so ho
     have d0:=hdep ⟨0,.data⟩ (by simp) rfl
     have d1:=hdep ⟨1,.data⟩ (by simp) rfl
     simp only[af,K9,K8] at d0 d1
     refine ae.value (.pointer (some ⟨b1,off+k,none⟩)) ?_ (aa rfl)
     go_simp
    ·cases so ho
     have d2:=hdep ⟨2,.data⟩ (by simp) rfl
     simp only[af,K9,K8] at d2
     refine ae.value (.int .i64 x) ?_ (aa rfl)
     go_simp
    ·cases so ho
     refine ae.value (.slice a2 n2 c2) ?_ (aa rfl)
     go_simp
    ·cases so ho
     refine ae.value (.int .i64 k) ?_ (aa rfl)
     go_simp
    ·cases so ho
     have d4:=hdep ⟨4,.data⟩ (by simp) rfl
     have d5:=hdep ⟨5,.data⟩ (by simp) rfl
     simp only[af,K9,K8] at d4 d5
     refine ae.call 251 #[.slice a2 n2 c2,.int .i64 k] (by go_simp) ((d2.out wi (Kept.comp _ _ _ hkw hki)).mono ?_)
     rintro e w3 ⟨rfl,rfl⟩
     exact⟨_,rfl,rfl,Kept.rfl' _⟩
    ·cases so ho
     have d3:=hdep ⟨3,.data⟩ (by simp) rfl
     have d6:=hdep ⟨6,.data⟩ (by simp) rfl
     simp only[af,K9,K8] at d3 d6
     refine ae.value (.int .i64 ((x:Int)-y)) ?_ (aa rfl)
     go_simp
    ·cases so ho
     refine ae.value (.int .i64 c) ?_ (aa rfl)
     go_simp
    ·cases so ho
     have d7:=hdep ⟨7,.data⟩ (by simp) rfl
     have d8:=hdep ⟨8,.data⟩ (by simp) rfl
     simp only[af,K9,K8] at d7 d8
     refine ae.value (.int .i64 ((x:Int)-y-c)) ?_ (aa rfl)
     go_simp
    ·omega
   ·intro f wi hki hall
    have v9:=hall 9 (by decide)
    simp only[af,K9,K8] at v9
    clear hall
    simp only[List.drop_succ_cons,List.drop_zero]
    rw[v9]
    have hbel:=hbel.trans (hki.mono hsize)
    have hown:=eK hown hki
    have Ho:Hid (cellsOf ln=cellsOf lk++cellsOf [d]):=K7 (by rw[Hsu.out];simp[cellsOf])
    have hsz:=hbel.size
    rw[hG.out] at hsz
    clear hki v9 d2 hx1
    by_cases hlt:x<y+c
    ·have hs:(x:Int)-y-c<0:=by omega
     have hd:=Hd.out
     rw[if_pos hlt] at hd
     have hcn:=Hnx.out
     rw[if_pos hlt] at hcn
     have w3:IntKind.i64.wrap ((x:Int)-y-c+1000000000)=(x:Int)-y-c+1000000000:=IntWalk.i64_in _ (by omega)
     have hdi:(x:Int)-y-c+1000000000=(d:Int):=by omega
     have Hdi:=K7 hdi
     clear hd hdi
     go_wp2_with (at_builtin;refine wpList_append_own _ rfl _ _ 87 rfl G 3 i0 (.int .i64 0) 1 8 Tryz.underlying87 hi hz0 hz1 hz2 rfl (by decide) _ _ _ rfl (hown.alloc _) ⟨_,0,none⟩ 1 1 [.int .i64 ((x:Int)-y-c+1000000000)] rfl rfl (cG _ _ _) (fun x hx=>by simp at hx;subst hx;rfl) (by unfold maxLen;omega) (by omega) (by simp;omega) ?_;intro v' w3 hown' hgrow3 hnil3)
     have R:w3.ownsRow G 3 1 v' (k+1) (cellsOf ln)∧Below G w w3:=
      ⟨by rw[Ho.out];rw[Hdi.out] at hown';exact hown',(hbel.alloc hsz _).grown hgrow3 (by simp;omega) (fun q hq=>(hown.lt q hq).1)⟩
     clear hown' hgrow3 hown hbel hi
     go_wp2
     go_roundw
     case rel=>exact⟨k+1,by omega,by go_num,by rw[Hcn0.out,hcn];rfl,by rw[Hln0.out];exact R.1,R.2⟩
     case measure=>simp[intOf];omega
    ·have hs:¬(x:Int)-y-c<0:=by omega
     have hd:=Hd.out
     rw[if_neg hlt] at hd
     have hcn:=Hnx.out
     rw[if_neg hlt] at hcn
     have hdi:(x:Int)-y-c=(d:Int):=by omega
     have Hdi:=K7 hdi
     clear hd hdi
     go_wp2_with (at_builtin;refine wpList_append_own _ rfl _ _ 87 rfl G 3 i0 (.int .i64 0) 1 8 Tryz.underlying87 hi hz0 hz1 hz2 rfl (by decide) _ _ _ rfl (hown.alloc _) ⟨_,0,none⟩ 1 1 [.int .i64 ((x:Int)-y-c)] rfl rfl (cG _ _ _) (fun x hx=>by simp at hx;subst hx;rfl) (by unfold maxLen;omega) (by omega) (by simp;omega) ?_;intro v' w3 hown' hgrow3 hnil3)
     have R:w3.ownsRow G 3 1 v' (k+1) (cellsOf ln)∧Below G w w3:=
      ⟨by rw[Ho.out];rw[Hdi.out] at hown';exact hown',(hbel.alloc hsz _).grown hgrow3 (by simp;omega) (fun q hq=>(hown.lt q hq).1)⟩
     clear hown' hgrow3 hown hbel hi
     go_wp2
     go_roundw
     case rel=>exact⟨k+1,by omega,by go_num,by rw[Hcn0.out,hcn];rfl,by rw[Hln0.out];exact R.1,R.2⟩
     case measure=>simp[intOf];omega
theorem jE (s:Nat):((s:Nat):Int).tmod 1000000000=((s%1000000000:Nat):Int):=by
 rw[Int.tmod_eq_emod_of_nonneg (Int.natCast_nonneg _)];omega
theorem jD (s:Nat):((s:Nat):Int).tdiv 1000000000=((s/1000000000:Nat):Int):=by
 rw[Int.tdiv_eq_ediv_of_nonneg (Int.natCast_nonneg _)];omega
theorem gK (va vb:Value) (xs ys:List Nat) (w:World) (ha:Row w va xs) (hb:Row w vb ys) (hfx:Fit xs) (hfy:Fit ys) (hma:xs.length≤1073741824) (hmb:ys.length≤1073741824) :
  Calls Tryz.prog 186 #[va,vb] w fun e w'=>∃ v,e=.returned v∧Lim w' v (val xs*val ys)∧Kept w w':=by
 obtain⟨i0,hi,hz0,hz1,hz2⟩:=info_parts Tryz.fM
 have hall:=xv xs ys
 obtain⟨a1,c1,rfl,hc1,r1⟩:=ha.opened
 obtain⟨a2,c2,rfl,hc2,r2⟩:=hb.opened
 generalize hla:xs.length=la at *
 generalize hlb:ys.length=lb at *
 have hmo0:mo xs ys 0=List.replicate (la+lb) 0:=by simp[mo,hla,hlb]
 have hlen:∀ i,(mo xs ys i).length=la+lb:=fun i=>by rw[hE,hla,hlb]
 have Tr:=K7 fun w' v (hr:Row w' v (mo xs ys la))=>fV v (mo xs ys la) w' hr (pS hfx hfy _) (by rw[hlen];omega)
 rw[hall] at Tr
 have Hlen:=K7 hlen
 have Hlb:=K7 hlb
 have Hhigh:=K7 (oM (xs:=xs) (ys:=ys))
 have R1:=K7 r1
 have R2:=K7 r2
 clear hall hla hlen hlb ha hb r1 r2
 go_enter Tryz.func186,Tryz.ntmps186
 go_wp2_with (at_make;go_loud (refine wpList_make_full _ rfl _ _ 87 rfl w.heap.size 3 i0 (.int .i64 0) 1 Tryz.underlying87 hi hz0 hz1 .i64 .i64 _ _ (la+lb) rfl rfl (by omega) (by omega) (by rw[hz2];omega) (by unfold maxLen;omega) (K6 _) ?_);intro w1 hown1 hgrow1)
 rw[aQ,←hmo0] at hown1
 have hO:Own w1 w.heap.size w.heap.size (la+lb) (mo xs ys 0):=⟨Hlen.out _,hown1⟩
 have hB:Below w.heap.size w w1:=(Below.refl _ _).grown hgrow1 (K6 _) (by intro k h;cases h)
 clear hown1 hgrow1 hi hz0 hz1 hz2 hmo0
 generalize hg:w.heap.size=G at *
 have hG:=K7 hg
 clear hg
 go_wp2
 go_loopw [6,7,8,9] (fun i _ _ _ wr=>∃ k:Nat,k≤la∧i=.int .i64 k∧Own wr G G (la+lb) (mo xs ys k)∧Below G w wr) (fun i _ _ _ _=>la-(intOf i).toNat)
 case atStart=>exact⟨0,Nat.zero_le _,rfl,hO,hB⟩
 case round=>
  clear hO hB
  obtain⟨k,hk,rfl,hown,hbel⟩:=hrel
  by_cases hlt:k<la
  ·obtain⟨b1,o1,rfl,hb1,hca⟩:=R1.out (by omega)
   have hfp:Fit (mo xs ys k):=pS hfx hfy k
   have hx:=hfx.get k
   have hend:(mr (mo xs ys k) k (xs.getD k 0) ys lb).1.set (k+lb) (mr (mo xs ys k) k (xs.getD k 0) ys lb).2=mo xs ys (k+1):=by simp only[mo,Hlb.out]
   have hhz:(mr (mo xs ys k) k (xs.getD k 0) ys lb).1.getD (k+lb) 0=0:=by rw[hI _ _ (K6 _)];exact Hhigh.out _ _ (by rw[Hlb.out];exact K6 _)
   have Hend:=K7 hend
   have Hhz:=K7 hhz
   have hcx:=hca k hlt
   clear hend hca hhz
   generalize xs.getD k 0=x at *
   obtain⟨p,hp⟩:∃ p,mo xs ys k=p:=⟨_,rfl⟩
   rw[hp] at hown hfp Hend Hhz
   clear hp
   have hmr0:mr p k x ys 0=(p,0):=rfl
   go_wp2
   obtain⟨wo,hwo⟩:∃ wo:World,wo=wr:=⟨_,rfl⟩
   subst hwo
   go_loopw [7,8,9] (fun c i _ wr=>∃ j:Nat,j≤lb∧i=.int .i64 j∧c=.int .i64 (((mr p k x ys j).2:Nat):Int)∧Own wr G G (la+lb) (mr p k x ys j).1∧Below G w wr) (fun _ i _ _=>lb-(intOf i).toNat)
   case atStart=>exact⟨0,Nat.zero_le _,rfl,rfl,hown,hbel⟩
   case round=>
    clear hown hbel
    obtain⟨j,hj,rfl,rfl,hown,hbel⟩:=hrel
    by_cases hlj:j<lb
    ·obtain⟨b2,o2,rfl,hb2,hcb⟩:=R2.out (by omega)
     have cx:=(hbel.cell (p:=⟨b1,o1+k,none⟩) hb1).trans hcx
     have cy:=(hbel.cell (p:=⟨b2,o2+j,none⟩) hb2).trans (hcb j hlj)
     obtain⟨hf1,hf2⟩:=nh (i:=k) hfp hx hfy j
     have cz:=hown.cell (i:=k+j) (by omega)
     have hfree:=hown.free (k+j)
     have hstep:mr p k x ys (j+1)=((mr p k x ys j).1.set (k+j) ((x*ys.getD j 0+(mr p k x ys j).1.getD (k+j) 0+(mr p k x ys j).2)%DigNum.B),(x*ys.getD j 0+(mr p k x ys j).1.getD (k+j) 0+(mr p k x ys j).2)/DigNum.B):=rfl
     have hy1:=hfy.get j
     have hz1:=hf1.get (k+j)
     have hxy:x*ys.getD j 0≤999999999*999999999:=Nat.mul_le_mul (by unfold DigNum.B at hx;omega) (by unfold DigNum.B at hy1;omega)
     have hset:=fun d q=>(hown.drewN q).set (k+j) d
     have Hstep:=K7 hstep
     have Hset:=K7 hset
     rw[show DigNum.B=1000000000 from rfl] at hz1 hf2
     clear hstep hset hf1 hcb hy1
     generalize hq:mr p k x ys j=q at *
     have Hq:=K7 hq
     clear hq
     generalize ys.getD j 0=y at *
     generalize hz0:q.1.getD (k+j) 0=z at *
     generalize hc0:q.2=c at *
     have ht:(x:Int)*(y:Int)=((x*y:Nat):Int):=by simp
     generalize hxy0:x*y=t at *
     have Hz0:=K7 hz0
     have Hc0:=K7 hc0
     have Hxy0:=K7 hxy0
     clear hz0 hc0 hxy0
     have w1:IntKind.i64.wrap ((x:Int)*(y:Int))=(t:Int):=by rw[ht];exact IntWalk.i64_in _ (by omega)
     have w2:IntKind.i64.wrap ((z:Int)+(t:Int))=(z:Int)+t:=IntWalk.i64_in _ (by omega)
     obtain⟨S,hS⟩:∃ S:Nat,S=t+z+c:=⟨_,rfl⟩
     have w3:IntKind.i64.wrap ((z:Int)+t+c)=(S:Int):=by rw[IntWalk.i64_in _ (by omega)];omega
     have w4:=jE S
     have w5:=jD S
     have hwk:IntKind.i64.wrap ((k:Int)+(j:Int))=((k+j:Nat):Int):=by rw[IntWalk.i64_in _ (by omega)];omega
     clear ht
     go_wp2
     go_quiet (fail)
     go_wp2
     have e1:((t:Int)+z+c)%1000000000=(((t+z+c)%1000000000:Nat):Int):=by omega
     have e2:((t:Int)+z+c)/1000000000=(((t+z+c)/1000000000:Nat):Int):=by omega
     rw[e1,e2]
     have Hbel:=K7 fun u=>(al hbel nq).setCell (K6 G) (p:=⟨G,k+j,none⟩) u
     have Hs2:=K7 fun d=>Hset.out d nq
     clear hbel hown Hset
     go_roundw
     case rel=>exact⟨j+1,by omega,by go_num,by rw[Hstep.out];rfl,by rw[Hstep.out];exact Hs2.out _,Hbel.out _⟩
     case measure=>simp[intOf];omega
    ·obtain rfl:j=lb:=by omega
     have hset:=hown.set (k+j) (mr p k x ys j).2
     rw[Hend.out] at hset
     have hold:=hown.cell (i:=k+j) (by omega)
     rw[Hhz.out] at hold
     have hfree:=hown.free (k+j)
     have hf2:=(nh (i:=k) hfp hx hfy j).2
     rw[show DigNum.B=1000000000 from rfl] at hf2
     have hbel2:=K7 fun u=>hbel.setCell (K6 G) (p:=⟨G,k+j,none⟩) u
     have hwk:IntKind.i64.wrap ((k:Int)+(j:Int))=((k+j:Nat):Int):=by rw[IntWalk.i64_in _ (by omega)];omega
     have Hset:=K7 hset
     clear hset hown hbel Hhz Hend
     generalize (mr p k x ys j).2=c0 at *
     go_wp2
     go_roundw
     case rel=>exact⟨k+1,by omega,by go_num,Hset.out,hbel2.out _⟩
     case measure=>simp[intOf];omega
  ·obtain rfl:k=la:=by omega
   have hrow:=hown.row
   have ht:=K7 (Tr.out wr _ ⟨_,_,rfl,by rw[hown.1];exact K6 _,hrow⟩)
   rw[hown.1] at ht
   clear Tr hown R1 R2
   go_wp2_with fail
   refine (ht.out).mono ?_
   rintro e w' ⟨v,rfl,hv,hk'⟩
   obtain⟨a4,c4,rfl,_,_⟩:=id hv
   have hsz:=hbel.size
   rw[hG.out] at hsz
   go_wp2
   go_ret
   exact⟨_,rfl,hv,by unfold Kept;rw[hG.out];exact hbel.trans (hk'.mono hsz)⟩
theorem mv (s d:Nat):((s:Nat):Int).tmod (d:Int)=((s%d:Nat):Int):=by
 rw[Int.tmod_eq_emod_of_nonneg (Int.natCast_nonneg _)];simp
theorem mu (s d:Nat):((s:Nat):Int).tdiv (d:Int)=((s/d:Nat):Int):=by
 rw[Int.tdiv_eq_ediv_of_nonneg (Int.natCast_nonneg _)];simp
theorem EM {r x S:Int} (h:r*1000000000+x=S) (hr:r≤999999999) (hx:x≤999999999):S≤1000000000000000000:=by omega
theorem tX {Q S:Nat} (h:Q≤S) (hS:(S:Int)≤1000000000000000000):IntKind.i64.wrap (Q:Int)=Q:=IntWalk.i64_in _ (by omega)
theorem lK (va:Value) (xs:List Nat) (d:Nat) (w:World) (ha:Row w va xs) (hfx:Fit xs) (hm:xs.length≤1073741824) (hd0:0<d) (hd:d<DigNum.B) :
  Calls Tryz.prog 221 #[va,.int .i64 d] w fun e w'=>∃ v,e=.returned (.tuple #[v,.int .i64 ((val xs%d:Nat):Int)])∧Lim w' v (val xs/d)∧Kept w w':=by
 obtain⟨i0,hi,hz0,hz1,hz2⟩:=info_parts Tryz.fM
 obtain⟨a1,a2⟩:=sS hd0 xs
 have hfit:=sT hd0 hfx
 have hlen:=jL d xs
 have hd0':ds d (xs.drop xs.length)=([],0):=by rw[List.drop_of_length_le (K6 _)];rfl
 have Tr:=K7 fun w' v (hr:Row w' v (ds d xs).1)=>fV v (ds d xs).1 w' hr hfit (by rw[hlen];omega)
 rw[a1] at Tr
 rw[←a2]
 have Hdrop:=K7 fun i h=>@oI d xs i h
 have Hspec:=K7 fun i=>(gi hd0 (xs.drop i)).2
 have Gx:=K7 hfx.get
 obtain⟨ad,c1,rfl,hc1,r1⟩:=ha.opened
 have Hx:=K7 r1
 have Hlen:=K7 hlen
 generalize hla:xs.length=la at *
 clear hla a1 a2 hlen hfit ha r1
 go_enter Tryz.func221,Tryz.ntmps221
 go_wp2_with (at_make;go_loud (refine wpList_make_full _ rfl _ _ 87 rfl w.heap.size 3 i0 (.int .i64 0) 1 Tryz.underlying87 hi hz0 hz1 .i64 .i64 _ _ la rfl rfl (by omega) (by omega) (by rw[hz2];omega) (by unfold maxLen;omega) (K6 _) ?_);intro w1 hown1 hgrow1)
 rw[aQ] at hown1
 have hO:Own w1 w.heap.size w.heap.size la (List.replicate la 0++(ds d (xs.drop la)).1):=by
  rw[hd0'];exact⟨by simp,by simpa using hown1⟩
 have hB:Below w.heap.size w w1:=(Below.refl _ _).grown hgrow1 (K6 _) (by intro k h;cases h)
 have hr0:(ds d (xs.drop la)).2=0:=by rw[hd0']
 have Hr0:=K7 hr0
 clear hown1 hgrow1 hi hz0 hz1 hz2 hd0' hr0
 generalize hg:w.heap.size=G at *
 have hG:=K7 hg
 clear hg
 go_wp2
 go_loopw [7,8,9] (fun r i _ wr=>∃ k:Nat,k≤la∧i=.int .i64 ((k:Int)-1)∧r=.int .i64 (((ds d (xs.drop k)).2:Nat):Int)∧Own wr G G la (List.replicate k 0++(ds d (xs.drop k)).1)∧Below G w wr) (fun _ i _ _=>(intOf i+1).toNat)
 case atStart=>exact⟨la,K6 _,rfl,by rw[Hr0.out];rfl,hO,hB⟩
 case round=>
  clear hO hB
  obtain⟨k,hk,rfl,rfl,hown,hbel⟩:=hrel
  by_cases hk0:k=0
  ·subst hk0
   rw[show ((0:Nat):Int)-1 = -1 from rfl]
   rw[List.drop_zero] at hown
   have hrow:=hown.row
   rw[show List.replicate 0 0++(ds d xs).1=(ds d xs).1 from rfl] at hrow
   have ht:=K7 (Tr.out wr (.slice (some ⟨G,0,none⟩) la la) ⟨_,_,by rw[Hlen.out],by rw[Hlen.out];exact K6 _,hrow⟩)
   clear Tr hown Hx Hdrop Hspec
   go_wp2_with fail
   refine (ht.out).mono ?_
   rintro e w' ⟨v,rfl,hv,hk'⟩
   obtain⟨a4,c4,rfl,_,_⟩:=id hv
   have hsz:=hbel.size
   rw[hG.out] at hsz
   go_wp2
   go_ret2
   exact⟨_,rfl,hv,by unfold Kept;rw[hG.out];exact hbel.trans (hk'.mono hsz)⟩
  ·obtain⟨j,rfl⟩:∃ j,k=j+1:=⟨k-1,by omega⟩
   rw[show ((j+1:Nat):Int)-1=(j:Int) by omega]
   obtain⟨b1,o1,rfl,hb1,hca⟩:=Hx.out (by omega)
   have hcell:=(hbel.cell (p:=⟨b1,o1+j,none⟩) hb1).trans (hca j (by omega))
   have hstep:=Hdrop.out j (by omega)
   have hrl:=Hspec.out (j+1)
   have hxj:=Gx.out j
   rw[show DigNum.B=1000000000 from rfl] at hxj hd
   have hold:=hown.cell (i:=j) (by omega)
   have hfree:=hown.free j
   have hset:=fun v=>hown.set j v
   simp only[jW] at hset
   have e1:(ds d (xs.drop j)).2=((ds d (xs.drop (j+1))).2*DigNum.B+xs.getD j 0)%d:=by rw[hstep]
   have e2:(ds d (xs.drop j)).1=((ds d (xs.drop (j+1))).2*DigNum.B+xs.getD j 0)/d::(ds d (xs.drop (j+1))).1:=by rw[hstep]
   rw[show DigNum.B=1000000000 from rfl] at e1 e2
   have Hset:=K7 hset
   have E1:=K7 e1
   have E2:=K7 e2
   clear hset hstep e1 e2 hca Hx Hdrop Hspec Tr
   generalize (List.replicate (j+1) 0++(ds d (xs.drop (j+1))).1).getD j 0=z at *
   generalize (ds d (xs.drop (j+1))).2=r0 at *
   generalize xs.getD j 0=x at *
   have hbel2:=K7 fun u=>hbel.setCell (K6 G) (p:=⟨G,j,none⟩) u
   have hr0b:(r0:Int)≤999999999:=by omega
   have hxb:(x:Int)≤999999999:=by omega
   have w1:IntKind.i64.wrap ((r0:Int)*1000000000)=(r0:Int)*1000000000:=IntWalk.i64_in _ (by omega)
   obtain⟨S,hS⟩:∃ S:Nat,r0*1000000000+x=S:=⟨_,rfl⟩
   rw[hS] at E1 E2
   have hSI:(r0:Int)*1000000000+x=(S:Int):=by rw[←hS];simp
   clear hS
   have hSb:=EM hSI hr0b hxb
   have w2:IntKind.i64.wrap ((r0:Int)*1000000000+x)=(S:Int):=by rw[hSI];exact IntWalk.i64_in _ (by omega)
   have w3:=mu S d
   have w4:=mv S d
   have hSd:S/d≤S:=Nat.div_le_self _ _
   generalize S/d=Q at *
   generalize S%d=M at *
   have w5:=tX hSd hSb
   clear hown hbel hSI
   go_wp2
   go_roundw
   case rel=>exact⟨j,by omega,by go_num,by rw[E1.out],by rw[E2.out];exact Hset.out _,hbel2.out _⟩
   case measure=>simp[intOf]
theorem aV (va vb:Value) (x y:Nat) (w:World) (ha:Lim w va x) (hb:Lim w vb y) (hx:size x≤1073741824) :
  Calls Tryz.prog 220 #[va,vb] w fun e w'=>e=.returned (.int .i64 (ord x y))∧∃ q,w'=w.drewN q:=lG va vb x y w ha hb hx
theorem iB (va vb:Value) (x y:Nat) (w:World) (ha:Lim w va x) (hb:Lim w vb y) (hx:size x≤1073741824) (hy:size y≤1073741824) :
  Calls Tryz.prog 225 #[va,vb] w fun e w'=>∃ v,e=.returned v∧Num w' v (x+y)∧Kept w w':=by
 refine (rh va vb (ai x) (ai y) w ha.row hb.row (ao _) (ao _) hx hy).mono ?_
 rintro e w' ⟨v,zs,rfl,h1,h2,h3,h4,h5⟩
 rw[au,au] at h3
 change _≤size x+size y+1 at h4
 exact⟨v,rfl,⟨zs,h1,h2,h3,by omega⟩,h5⟩
theorem bM (va vb:Value) (x y:Nat) (w:World) (ha:Lim w va x) (hb:Lim w vb y) (hx:size x≤1073741824) (hle:y≤x) :
  Calls Tryz.prog 226 #[va,vb] w fun e w'=>∃ v,e=.returned v∧Num w' v (x-y)∧Kept w w':=by
 refine (rC va vb (ai x) (ai y) w ha.row hb.row (ao _) (ao _) hx (aK hle) (by rw[au,au];exact hle)).mono ?_
 rintro e w' ⟨v,rfl,h1,h2⟩
 rw[au,au] at h1
 exact⟨v,rfl,h1.num (Nat.le_trans (aK (Nat.sub_le x y)) (by omega)),h2⟩
theorem mh (x y:Nat):size (x+y)≤size x+size y+1:=by
 refine size_le ?_
 have h1:=lt_size x
 have h2:=lt_size y
 have e1:DigNum.B^size x≤DigNum.B^(size x+size y):=Nat.pow_le_pow_right aA (by omega)
 have e2:DigNum.B^size y≤DigNum.B^(size x+size y):=Nat.pow_le_pow_right aA (by omega)
 rw[Nat.pow_succ]
 have hb:2≤DigNum.B:=by simp[DigNum.B]
 have:=Nat.mul_le_mul_left (DigNum.B^(size x+size y)) hb
 omega
theorem mi (x y:Nat):size (x*y)≤size x+size y:=by
 refine size_le ?_
 rw[Nat.pow_add]
 rcases Nat.eq_zero_or_pos y with h|h
 ·subst h
  rw[Nat.mul_zero]
  exact Nat.mul_pos (Nat.pow_pos aA) (Nat.pow_pos aA)
 ·exact Nat.lt_of_lt_of_le (Nat.mul_lt_mul_of_pos_right (lt_size x) h) (Nat.mul_le_mul_left _ (Nat.le_of_lt (lt_size y)))
theorem ec (va vb:Value) (x y:Nat) (w:World) (ha:Lim w va x) (hb:Lim w vb y) (hx:size x≤1073741824) (hy:size y≤1073741824) :
  Calls Tryz.prog 186 #[va,vb] w fun e w'=>∃ v,e=.returned v∧Num w' v (x*y)∧Kept w w':=by
 refine (gK va vb (ai x) (ai y) w ha.row hb.row (ao _) (ao _) hx hy).mono ?_
 rintro e w' ⟨v,rfl,h1,h2⟩
 rw[au,au] at h1
 exact⟨v,rfl,h1.num (Nat.le_trans (mi x y) (by omega)),h2⟩
theorem Gk {a b A v1 v0 c Bd D:Nat} (he:a*v1+b=A) (hD:D≤a) (hDb:D<Bd) (hv:0<v1*Bd+v0) (hDQ:D≤(A*Bd+c)/(v1*Bd+v0)) (h:Bd≤a∨b*Bd+c<a*v0) :
  (a-1)*v1+(b+v1)=A∧D≤a-1∧0<a:=by
 have h1:D≤a-1∧0<a:=by
  rcases h with h|h
  ·exact⟨by omega,by omega⟩
  ·have:=fL he hv h
   exact⟨by omega,this.2⟩
 obtain⟨p,rfl⟩:∃ p,a=p+1:=⟨a-1,by omega⟩
 refine ⟨?_,h1⟩
 rw[Nat.add_sub_cancel,←he,Nat.add_mul];omega
theorem CY {a b A v1 v0 c Bd:Nat} (he:a*v1+b=A) (hb:Bd≤b) (hv0:v0<Bd) (hA:A≤v1*Bd+v0) (hv:0<v1*Bd+v0):a≤(A*Bd+c)/(v1*Bd+v0)∧a<Bd:=by
 have h1:a<Bd:=by
  rcases Nat.lt_or_ge a Bd with h|h
  ·exact h
  ·have:=Nat.mul_le_mul_right v1 h
   rw[Nat.mul_comm Bd v1] at this
   omega
 refine ⟨iG he hv ?_,h1⟩
 have h2:a*v0≤Bd*Bd:=Nat.mul_le_mul (by omega) (by omega)
 have h3:Bd*Bd≤b*Bd:=Nat.mul_le_mul_right Bd hb
 omega
theorem Jo {A c Y Bd:Nat} (h:A*Bd+c<(Y+1)*Bd):A≤Y:=by
 have:A*Bd<(Y+1)*Bd:=by omega
 exact Nat.lt_succ_iff.1 (Nat.lt_of_mul_lt_mul_right this)
theorem prod_bound {a v:Nat} (ha:a<1000000000) (hv:v<1000000000):0≤(a:Int)*(v:Int)∧(a:Int)*(v:Int)≤999999998000000001:=by
 have h:a*v≤999999999*999999999:=Nat.mul_le_mul (by omega) (by omega)
 have e:(a:Int)*(v:Int)=((a*v:Nat):Int):=by simp
 rw[e]
 generalize a*v=p at *
 omega
theorem sN {a v:Nat} (ha:a<1000000000) (hv:v<1000000000):IntKind.i64.wrap ((a:Int)*(v:Int))=(a:Int)*(v:Int):=by
 have:=prod_bound ha hv
 exact IntWalk.i64_in _ (by omega)
theorem wA {b u:Nat} (hb:b<1000000000) (hu:u<1000000000):IntKind.i64.wrap ((b:Int)*1000000000)=(b:Int)*1000000000∧IntKind.i64.wrap ((b:Int)*1000000000+u)=(b:Int)*1000000000+u:=
 ⟨IntWalk.i64_in _ (by omega),IntWalk.i64_in _ (by omega)⟩
theorem CB (a b u v:Nat):(b*1000000000+u<a*v)↔((b:Int)*1000000000+u<(a:Int)*(v:Int)):=by
 rw[←Int.ofNat_lt]
 simp
theorem pM {q A:Nat} (h:q≤A) (hA:(A:Int)≤1000000000000000000):(q:Int)≤1000000000000000000:=by omega
theorem sM {a:Nat} (h:(a:Int)≤1000000000000000000) (h0:0<a):IntKind.i64.wrap ((a:Int)-1)=((a-1:Nat):Int):=by rw[IntWalk.i64_in _ (by omega)];omega
theorem sL {b v:Nat} (h:b<1000000000) (hv:v<1000000000):IntKind.i64.wrap ((b:Int)+v)=((b+v:Nat):Int):=by rw[IntWalk.i64_in _ (by omega)];omega
theorem Ax (va vb:Value) (us vs:List Nat) (j n:Nat) (w:World) (ha:Row w va us) (hb:Row w vb vs) (hfu:Fit us) (hfv:Fit vs) (hn:vs.length=n) (h2:2≤n) (hj:j+n<us.length) (hu:us.length≤1073741824)
  (htop:0<vs.getD (n-1) 0) (hT:val (us.drop j)<val vs*DigNum.B) :
  Calls Tryz.prog 223 #[va,vb,.int .i64 j] w fun e w'=>∃ t:Nat,e=.returned (.int .i64 t)∧digit us vs j≤t∧t≤digit us vs j+1∧t<DigNum.B∧Kept w w':=by
 obtain⟨m,rfl⟩:∃ m,n=m+2:=⟨n-2,by omega⟩
 obtain⟨e1,e2⟩:=Kn (U:=us) (j:=j) hfv hn hT
 rw[show m+2-1=m+1 by omega] at htop
 have hY0:DigNum.B≤vs.getD (m+1) 0*DigNum.B+vs.getD m 0:=by
  have:=Nat.mul_le_mul_right DigNum.B (Nat.succ_le_of_lt htop)
  omega
 obtain⟨n1,n2,n3,n4⟩:=near (Nat.pow_pos (n:=m) aA) (by rw[Nat.add_comm];rw[e2,Nat.add_comm]) (by rw[Nat.add_comm];rw[e1,Nat.add_comm]) (bO (hfu.drop j) m) (bO hfv m) hY0 aA hT
 have hA:=Jo n4
 have hYp:0<vs.getD (m+1) 0*DigNum.B+vs.getD m 0:=Nat.lt_of_lt_of_le aA hY0
 have l2:=hfu.get (j+(m+2));have l1:=hfu.get (j+(m+1));have l0:=hfu.get (j+m)
 have k1:=hfv.get (m+1);have k0:=hfv.get m
 obtain⟨ad1,ca1,rfl,_,r1⟩:=ha.opened
 obtain⟨ad2,ca2,rfl,_,r2⟩:=hb.opened
 obtain⟨b1,o1,rfl,hb1,c1⟩:=r1 (by omega)
 obtain⟨b2,o2,rfl,hb2,c2⟩:=r2 (by omega)
 have cu2:=c1 (j+(m+2)) hj
 have cu1:=c1 (j+(m+1)) (by omega)
 have cu0:=c1 (j+m) (by omega)
 have cv1:=c2 (m+1) (by omega)
 have cv0:=c2 m (by omega)
 change digit us vs j≤_ at n1
 change _≤digit us vs j+1 at n2
 change digit us vs j<_ at n3
 rw[hn]
 generalize digit us vs j=D at *
 generalize us.getD (j+(m+2)) 0=u2 at *
 generalize us.getD (j+(m+1)) 0=u1 at *
 generalize us.getD (j+m) 0=u0 at *
 generalize vs.getD (m+1) 0=v1 at *
 generalize vs.getD m 0=v0 at *
 generalize us.length=nu at *
 clear e1 e2 hT c1 c2 r1 r2 ha hb hfu hfv hn n4
 obtain⟨A,hAe⟩:∃ A,u2*DigNum.B+u1=A:=⟨_,rfl⟩
 rw[hAe] at n1 n2 hA
 have hq:=Nat.div_add_mod A v1
 rw[Nat.mul_comm] at hq
 have hQl:=Nat.div_le_self A v1
 have hr1:=Nat.mod_lt A htop
 have hD0:D≤A/v1:=Nat.le_trans n1 (fa htop l0)
 have St:=K7 fun a b he hDa h=>Gk (A:=A) (a:=a) (b:=b) (c:=u0) he hDa n3 hYp n1 h
 have Bk:=K7 fun a b he hb=>CY (A:=A) (a:=a) (b:=b) (c:=u0) he hb k0 hA hYp
 have Sp:=K7 fun a b he h=>iG (A:=A) (q:=a) (r:=b) (c:=u0) he hYp h
 obtain⟨Q,hQ⟩:∃ Q,(A*DigNum.B+u0)/(v1*DigNum.B+v0)=Q:=⟨_,rfl⟩
 simp only[hQ] at Sp Bk n2
 have N2:=K7 n2
 clear n1 n2 n3 hYp hY0 hA hQ
 have hAI:(u2:Int)*1000000000+u1=(A:Int):=by rw[←hAe];simp[DigNum.B]
 clear hAe
 have hBv:DigNum.B=1000000000:=rfl
 rw[hBv] at l2 l1 l0 k1 k0
 have b2':(u2:Int)≤999999999:=by omega
 have b1':(u1:Int)≤999999999:=by omega
 have hAb:=EM hAI b2' b1'
 have w1:IntKind.i64.wrap ((u2:Int)*1000000000)=(u2:Int)*1000000000:=IntWalk.i64_in _ (by omega)
 have w2:IntKind.i64.wrap ((u2:Int)*1000000000+u1)=(A:Int):=by rw[hAI];exact IntWalk.i64_in _ (by omega)
 have w3:=mu A v1
 have w4:=mv A v1
 have w5:=tX hQl hAb
 have x1:IntKind.i64.wrap ((j:Int)+((m+2:Nat):Int))=((j+(m+2):Nat):Int):=by rw[IntWalk.i64_in _ (by omega)];omega
 have x2:IntKind.i64.wrap (((j+(m+2):Nat):Int)-1)=((j+(m+1):Nat):Int):=by rw[IntWalk.i64_in _ (by omega)];omega
 have x3:IntKind.i64.wrap (((j+(m+2):Nat):Int)-2)=((j+m:Nat):Int):=by rw[IntWalk.i64_in _ (by omega)];omega
 have x4:IntKind.i64.wrap (((m+2:Nat):Int)-1)=((m+1:Nat):Int):=by rw[IntWalk.i64_in _ (by omega)];omega
 have x5:IntKind.i64.wrap (((m+2:Nat):Int)-2)=((m:Nat):Int):=by rw[IntWalk.i64_in _ (by omega)];omega
 have i1:j+(m+1)<nu:=by omega
 have i0:j+m<nu:=by omega
 have p1:m+1<m+2:=by omega
 have p0:m<m+2:=by omega
 have hnn:m+2≤1073741824:=by omega
 generalize j+(m+2)=q2 at *
 generalize j+(m+1)=q1 at *
 generalize j+m=q0' at *
 generalize m+2=n at *
 generalize m+1=m1 at *
 have He:=K7 hq
 have Hr1:=K7 hr1
 generalize A/v1=q0 at *
 generalize A%v1=r0 at *
 clear hAI hq hr1 b2' b1'
 go_enter Tryz.func223,Tryz.ntmps223
 go_wp2
 go_quiet (fail)
 go_wp2
 go_quiet (fail)
 go_wp2
 go_loopw [9,10] (fun x y wr=>∃ a b:Nat,x=.int .i64 a∧y=.int .i64 b∧Hid (a*v1+b=A)∧D≤a∧b<1000000000∧(a:Int)≤1000000000000000000∧Kept w wr) (fun x _ _=>(intOf x).toNat)
 case atStart=>exact⟨q0,r0,rfl,rfl,He,hD0,Nat.lt_trans Hr1.out k1,pM hQl hAb,ar (ar (Below.refl _ _) _) _⟩
 case round=>
  obtain⟨a,b,rfl,rfl,He,hDa,hb1000,hab,hbel⟩:=hrel
  have du2:=(hbel.cell (p:=⟨b1,o1+q2,none⟩) hb1).trans cu2
  have du0:=(hbel.cell (p:=⟨b1,o1+q0',none⟩) hb1).trans cu0
  have dv1:=(hbel.cell (p:=⟨b2,o2+m1,none⟩) hb2).trans cv1
  have dv0:=(hbel.cell (p:=⟨b2,o2+m,none⟩) hb2).trans cv0
  have hkd:∀ q,Kept w (wr.drewN q):=ar hbel
  clear cu2 cu1 cu0 cv1 cv0 hbel
  by_cases c1:1000000000≤a
  ·obtain⟨s1,s2,s3⟩:=St.out a b He.out hDa (.inl c1)
   have y1:=sM hab s3
   have y2:=sL hb1000 k1
   have hpb:=pM (Nat.sub_le a 1) hab
   have hlt:a-1<a:=by omega
   generalize a-1=p at *
   have S1:=K7 s1
   have S2:=K7 s2
   have Hpb:=K7 hpb
   have hcI:(1000000000:Int)≤(a:Int):=by omega
   have Hlt:Hid (p<a):=K7 hlt
   clear s1 s2 s3 hDa hpb hab c1 hlt
   obtain⟨aI,haI⟩:∃ aI:Int,(a:Int)=aI:=⟨_,rfl⟩
   obtain⟨sI,hsI⟩:∃ sI:Int,((b+v1:Nat):Int)=sI:=⟨_,rfl⟩
   rw[haI] at hcI y1 ⊢
   rw[hsI] at y2
   by_cases c2:1000000000≤b+v1
   ·have B1:=K7 (Bk.out p (b+v1) S1.out c2)
    have hsc:(1000000000:Int)≤sI:=by omega
    have HaI:=K7 haI
    clear haI hsI c2
    go_wp2
    go_quiet (fail)
    go_wp2
    go_ret
    exact⟨p,rfl,S2.out,Nat.le_trans B1.out.1 N2.out,B1.out.2,hkd _⟩
   ·have hsc:sI<(1000000000:Int):=by omega
    have Hb2:Hid (b+v1<1000000000):=K7 (by omega)
    have HaI:=K7 haI
    have HsI:=K7 hsI
    clear haI hsI c2
    go_wp2
    go_quiet (fail)
    go_wp2
    go_roundw
    case rel=>exact⟨p,b+v1,rfl,by rw[HsI.out],S1,S2.out,Hb2.out,Hpb.out,hkd _⟩
    case measure=>have:=Hlt.out;have:=HaI.out;simp[intOf];omega
  ·have hc1:(a:Int)<1000000000:=by omega
   have y3:=sN (show a<1000000000 by omega) k0
   obtain⟨y4,y5⟩:=wA hb1000 l0
   have hcc:=CB a b u0 v0
   have hsp:=K7 (Sp.out a b He.out)
   have hst:=K7 (St.out a b He.out hDa)
   by_cases c3:b*1000000000+u0<a*v0
   ·obtain⟨s1,s2,s3⟩:=hst.out (.inr c3)
    have c3I:=hcc.1 c3
    have y1:=sM hab s3
    have y2:=sL hb1000 k1
    have hpb:=pM (Nat.sub_le a 1) hab
    have hlt:a-1<a:=by omega
    generalize a-1=p at *
    have S1:=K7 s1
    have S2:=K7 s2
    have Hpb:=K7 hpb
    have Hlt:Hid (p<a):=K7 hlt
    clear s1 s2 s3 hDa hpb hab c1 hlt c3 hcc hsp hst
    obtain⟨aI,haI⟩:∃ aI:Int,(a:Int)=aI:=⟨_,rfl⟩
    obtain⟨sI,hsI⟩:∃ sI:Int,((b+v1:Nat):Int)=sI:=⟨_,rfl⟩
    rw[haI] at hc1 y1 y3 c3I ⊢
    rw[hsI] at y2
    obtain⟨PI,hPI⟩:∃ PI:Int,aI*(v0:Int)=PI:=⟨_,rfl⟩
    have y6:IntKind.i64.wrap (aI*(v0:Int))=PI:=by rw[←hPI];exact y3
    rw[hPI] at c3I
    obtain⟨RI,hRI⟩:∃ RI:Int,(b:Int)*1000000000+u0=RI:=⟨_,rfl⟩
    have y7:IntKind.i64.wrap ((b:Int)*1000000000+u0)=RI:=by rw[←hRI];exact y5
    rw[hRI] at c3I
    clear y3 y5
    clear hPI hRI
    by_cases c2:1000000000≤b+v1
    ·have B1:=K7 (Bk.out p (b+v1) S1.out c2)
     have hsc:(1000000000:Int)≤sI:=by omega
     have HaI:=K7 haI
     clear haI hsI c2
     go_wp2
     go_quiet (fail)
     go_wp2
     go_ret
     exact⟨p,rfl,S2.out,Nat.le_trans B1.out.1 N2.out,B1.out.2,hkd _⟩
    ·have hsc:sI<(1000000000:Int):=by omega
     have Hb2:Hid (b+v1<1000000000):=K7 (by omega)
     have HaI:=K7 haI
     have HsI:=K7 hsI
     clear haI hsI c2
     go_wp2
     go_quiet (fail)
     go_wp2
     go_roundw
     case rel=>exact⟨p,b+v1,rfl,by rw[HsI.out],S1,S2.out,Hb2.out,Hpb.out,hkd _⟩
     case measure=>have:=Hlt.out;have:=HaI.out;simp[intOf];omega
   ·have hSp:=K7 (hsp.out (by rw[hBv];exact Nat.le_of_not_lt c3))
    have c3I:¬((b:Int)*1000000000+u0<(a:Int)*(v0:Int)):=fun h=>c3 (hcc.2 h)
    have Hc1:Hid (a<1000000000):=K7 (by omega)
    have HD:=K7 hDa
    clear hDa hab c1 c3 hcc hsp hst
    obtain⟨aI,haI⟩:∃ aI:Int,(a:Int)=aI:=⟨_,rfl⟩
    rw[haI] at hc1 y3 c3I ⊢
    obtain⟨PI,hPI⟩:∃ PI:Int,aI*(v0:Int)=PI:=⟨_,rfl⟩
    have y6:IntKind.i64.wrap (aI*(v0:Int))=PI:=by rw[←hPI];exact y3
    rw[hPI] at c3I
    obtain⟨RI,hRI⟩:∃ RI:Int,(b:Int)*1000000000+u0=RI:=⟨_,rfl⟩
    have y7:IntKind.i64.wrap ((b:Int)*1000000000+u0)=RI:=by rw[←hRI];exact y5
    rw[hRI] at c3I
    clear y3 y5
    have HaI:=K7 haI
    clear hPI hRI haI
    go_wp2
    go_quiet (fail)
    go_wp2
    go_ret
    exact⟨a,by rw[HaI.out];rfl,HD.out,Nat.le_trans hSp.out N2.out,Hc1.out,hkd _⟩
def jl (xs:List Int):List Value:=xs.map fun x=>Value.int .i64 x
def zz (xs:List Nat):List Int:=xs.map fun (x:Nat)=>(x:Int)
theorem fD (xs:List Nat):(zz xs).length=xs.length:=by simp[zz]
theorem qY (xs:List Nat) (i:Nat):(zz xs).getD i 0=((xs.getD i 0:Nat):Int):=by
 simp only[zz,List.getD_eq_getElem?_getD,List.getElem?_map]
 cases xs[i]?<;>rfl
theorem ll (xs:List Nat) (i v:Nat):(zz xs).set i (v:Int)=zz (xs.set i v):=by simp[zz,List.map_set]
theorem rO (xs:List Nat):jl (zz xs)=cellsOf xs:=by simp[jl,zz,cellsOf]
def cZ (w:World) (B:Nat) (g n c:Nat) (xs:List Int):Prop:=
 xs.length=n∧w.ownsRow B 3 1 (.slice (some ⟨g,0,none⟩) n c) n (jl xs)
theorem cZ.cell {w:World} {B g n c:Nat} {xs:List Int} (h:cZ w B g n c xs) {i:Nat} (hi:i<n):w.cell? ⟨g,i,none⟩=some (.int .i64 (xs.getD i 0)):=by
 rw[h.2.cellAt i (by omega)]
 have:=h.1
 simp[jl,show i<xs.length by omega]
theorem cZ.free {w:World} {B g n c:Nat} {xs:List Int} (h:cZ w B g n c xs) (i:Nat):w.frozen? ⟨g,i,none⟩=false:=h.2.frozenAt i
theorem cZ.set {w:World} {B g n c:Nat} {xs:List Int} (h:cZ w B g n c xs) (i:Nat) (v:Int):cZ (w.setCell ⟨g,i,none⟩ (.int .i64 v)) B g n c (xs.set i v):=by
 refine ⟨by simp[h.1],?_⟩
 have:=(h.2.stored i (.int .i64 v)).1
 rwa [show (jl xs).set i (.int .i64 v)=jl (xs.set i v) by simp[jl,List.map_set]] at this
theorem cZ.inv {w:World} {B g n c:Nat} {xs:List Int} (h:cZ w B g n c xs):B≤g∧∃ cur,w.heap[g]?=some (.cells cur 3 (0,0))∧n≤c∧c≤maxLen∧cur.size=c*1∧cur.toList.take (n*1)=jl xs:=by
 rcases h.2.2 with ⟨h',_⟩|⟨g',cap',cur,h',hb,hg,h1,h2,h3,h4⟩
 ·simp at h'
 ·simp only[Value.slice.injEq,K5,Addr.mk.injEq,and_true,true_and] at h'
  obtain⟨rfl,rfl⟩:=h'
  exact⟨hb,cur,hg,h1,h2,h3,h4⟩
theorem cZ.lt {w:World} {B g n c:Nat} {xs:List Int} (h:cZ w B g n c xs):g<w.heap.size∧B≤g:=by
 obtain⟨hb,cur,hg,_⟩:=h.inv
 exact⟨(Array.getElem?_eq_some_iff.1 hg).1,hb⟩
theorem cZ.block {w w':World} {B g n c:Nat} {xs:List Int} (h:cZ w B g n c xs) (hk:w'.heap[g]?=w.heap[g]?):cZ w' B g n c xs:=by
 obtain⟨hb,cur,hg,h1,h2,h3,h4⟩:=h.inv
 exact⟨h.1,h.2.1,.inr ⟨g,c,cur,rfl,hb,hk.trans hg,h1,h2,h3,h4⟩⟩
theorem cZ.kept {w w':World} {B g n c:Nat} {xs:List Int} (h:cZ w B g n c xs) (k:Kept w w'):cZ w' B g n c xs:=h.block (k.block g h.lt.1)
theorem cZ.other {w:World} {B g n c:Nat} {xs:List Int} (h:cZ w B g n c xs) {b i:Nat} (hb:b≠g) (u:Value):cZ (w.setCell ⟨b,i,none⟩ u) B g n c xs:=
 h.block (heap_setCell_other _ ⟨b,i,none⟩ g u (by simpa using Ne.symm hb))
theorem cZ.drewN {w:World} {B g n c:Nat} {xs:List Int} (h:cZ w B g n c xs) (q:Nat):cZ (w.drewN q) B g n c xs:=h
theorem cZ.row {w:World} {B g n c:Nat} {xs:List Nat} (h:cZ w B g n c (zz xs)):Row w (.slice (some ⟨g,0,none⟩) n c) xs:=by
 have hl:=h.1
 rw[fD] at hl
 obtain⟨_,_,_,h1,_⟩:=h.inv
 refine ⟨_,c,by rw[hl],by omega,.inr ⟨g,0,rfl,h.lt.1,fun i hi=>?_⟩⟩
 rw[Nat.zero_add,h.cell (by omega),qY]
theorem GO {w:World} {B n:Nat} {v:Value} {xs:List Nat} (h:w.ownsRow B 3 1 v n (cellsOf xs)) (hn:0<n):∃ g c,v=.slice (some ⟨g,0,none⟩) n c∧cZ w B g n c (zz xs):=by
 have hl:xs.length=n:=by have:=h.1;simpa [cellsOf] using this
 rcases h.2 with ⟨rfl,h0⟩|⟨g,c,cur,rfl,_⟩
 ·omega
 ·exact⟨g,c,rfl,by rw[fD,hl],by rw[rO];exact h⟩
theorem Row.below {w w':World} {v:Value} {xs:List Nat} {N:Nat} (h:Row w v xs) (hn:w.heap.size≤N) (k:Below N w w'):Row w' v xs:=h.kept (k.mono hn)
theorem GG {U v:List Nat} {j t:Nat} (hU:Fit U) (hv:Fit v) (ht:t<DigNum.B) (k:Nat) :
  (ms U j v t k).2.1+(ms U j v t k).2.2≤DigNum.B ∧
  (let s:=ms U j v t k;let p:=t*v.getD k 0+(s.2.1+s.2.2);let z:=s.1.getD (j+k) 0
   (z<p%DigNum.B→(ms U j v t (k+1)).1=s.1.set (j+k) (z+DigNum.B-p%DigNum.B)∧(ms U j v t (k+1)).2.1+(ms U j v t (k+1)).2.2=p/DigNum.B+1) ∧
   (p%DigNum.B≤z→(ms U j v t (k+1)).1=s.1.set (j+k) (z-p%DigNum.B)∧(ms U j v t (k+1)).2.1+(ms U j v t (k+1)).2.2=p/DigNum.B)):=by
 obtain⟨h1,h2,h3⟩:=jy (j:=j) hU hv ht k
 refine ⟨by omega,?_⟩
 simp only[ms]
 generalize ms U j v t k=s at *
 have hz:=h1.get (j+k)
 generalize s.1.getD (j+k) 0=z at *
 generalize t*v.getD k 0=q at *
 have hp:(q+(s.2.1+s.2.2))=(q+s.2.1)+s.2.2:=by omega
 rw[hp]
 generalize q+s.2.1=m at *
 have hm:=Nat.mod_lt m aA
 have hd:=Nat.mod_add_div m DigNum.B
 by_cases hw:m%DigNum.B+s.2.2<DigNum.B
 ·have e1:(m+s.2.2)%DigNum.B=m%DigNum.B+s.2.2:=by
   rw[Nat.add_mod,Nat.mod_eq_of_lt (show s.2.2<DigNum.B by omega),Nat.mod_eq_of_lt hw]
  have e2:(m+s.2.2)/DigNum.B=m/DigNum.B:=by
   rw[Nat.div_eq_iff aA,Nat.mul_comm]
   omega
  rw[e1,e2]
  constructor
  ·intro h
   rw[if_pos h];simp[h]
  ·intro h
   have h':¬z<m%DigNum.B+s.2.2:=by omega
   rw[if_neg h'];simp[h']
 ·have hb:s.2.2=1∧m%DigNum.B=DigNum.B-1:=by omega
  have e0:m+s.2.2=DigNum.B*(m/DigNum.B+1):=by rw[Nat.mul_add,Nat.mul_one];omega
  have e1:(m+s.2.2)%DigNum.B=0:=by rw[e0];exact Nat.mul_mod_right _ _
  have e2:(m+s.2.2)/DigNum.B=m/DigNum.B+1:=by rw[e0];exact Nat.mul_div_cancel_left _ aA
  rw[e1,e2]
  constructor
  ·intro h;omega
  ·intro _
   have h':z<m%DigNum.B+s.2.2:=by omega
   have e3:z+DigNum.B-(m%DigNum.B+s.2.2)=z-0:=by omega
   simp only[if_pos h',e3,and_self]
end Go.Proofs.YtjbcmmaniphkkaaGreatDoor.D
