import Derived.Test.YtjbcmmaniphkkaaGreatDoorRb
set_option linter.unusedSectionVars false
set_option linter.unusedVariables false
set_option linter.unusedSimpArgs false
set_option maxRecDepth 100000
set_option maxHeartbeats 4000000
namespace Go.Proofs.YtjbcmmaniphkkaaGreatDoor.D
open Go.RowKit DigNum
theorem bK (w:World) (o:Obj):Kept w (w.alloc o):=(Below.refl _ _).alloc (K6 _) o
theorem tL (w:World):(w.alloc (.cells #[] 3)).ownsRow w.heap.size 3 1 (.slice (some ⟨w.heap.size,0,none⟩) 0 0) 0 []:=by
 refine ⟨rfl,.inr ⟨_,0,#[],rfl,K6 _,?_,K6 _,by simp[maxLen],rfl,rfl⟩⟩
 exact heap_alloc_new w _
theorem EC {A:List Nat} {i p:Nat} (Z:Int) (h:i≠p):((zz A).set p Z).getD i 0=((A.getD i 0:Nat):Int):=by
 have:((zz A).set p Z).getD i 0=(zz A).getD i 0:=by simp[List.getD_eq_getElem?_getD,List.getElem?_set,Ne.symm h]
 rw[this,qY]
theorem ED {A:List Nat} {p:Nat} (Z:Int) (h:p<A.length):((zz A).set p Z).getD p 0=Z:=by
 have:p<(zz A).length:=by rw[fD];exact h
 simp[List.getD_eq_getElem?_getD,this]
theorem Bp {A:List Nat} {i p d:Nat} (Z:Int) (h:i≠p):((zz A).set p Z).set i (d:Int)=(zz (A.set i d)).set p Z:=by
 rw[←ll,List.set_comm _ _ h]
theorem Bq {S:List Nat} {p n:Nat} (Z:Int):(zz (S.set p n)).set p Z=(zz S).set p Z:=by
 rw[←ll,List.set_set]
theorem Bh {w:World} {b o F:Nat} (h:Row w (.slice (some ⟨b,o,none⟩) 1 1) [F]):w.cell? ⟨b,o,none⟩=some (.int .i64 (F:Int)):=by
 obtain⟨a,c,he,_,hr⟩:=h.opened
 obtain⟨b',o',rfl,_,hc⟩:=hr (by simp)
 simp only[Value.slice.injEq,K5,Addr.mk.injEq,and_true] at he
 obtain⟨⟨rfl,rfl⟩,_⟩:=he
 simpa using hc 0 (by simp)
theorem cZ.pre {w:World} {B g n c k:Nat} {xs:List Nat} (h:cZ w B g n c (zz xs)) (hk:k≤n):Row w (.slice (some ⟨g,0,none⟩) k c) (xs.take k):=by
 have hl:=h.1
 rw[fD] at hl
 obtain⟨_,_,_,hc,_⟩:=h.inv
 refine Row.pre h.lt.1 (by omega) (by omega) fun i hi=>?_
 rw[Nat.zero_add,h.cell (by omega),qY]
theorem Iy {m n:Nat} (hl:(ai m).length=n) (hn:2≤n):0<(ai m).getD (n-1) 0:=by
 have h:ai m≠[]:=by intro h;rw[h] at hl;simp at hl;omega
 have:=eF h
 rw[List.getD_eq_getElem?_getD,←hl,←List.getLast?_eq_getElem?,List.getLast?_eq_some_getLast h,Option.getD_some]
 omega
theorem IC (xs:List Nat) (k:Nat):val (xs++List.replicate k 0)=val xs:=by rw[bE,dY,Nat.mul_zero,Nat.add_zero]
theorem Gf {xs:List Nat} (h:Fit xs) (k:Nat):Fit (xs++List.replicate k 0):=h.append (Fit.gE k)
theorem GM {w:World} {b o:Nat} {xs:List Nat} (h:∀ i,i<xs.length→w.cell? ⟨b,o+i,none⟩=some (.int .i64 ((xs.getD i 0:Nat):Int))) :
  ∀ j u,(cellsOf xs)[j]?=some u→w.cell? ((⟨b,o,none⟩:Addr).add j)=some u:=by
 intro j u hu
 have hj:j<xs.length:=by
  have:=(List.getElem?_eq_some_iff.1 hu).1
  simpa [cellsOf] using this
 have:=h j hj
 simp only[cellsOf,List.getElem?_map,List.getElem?_eq_getElem hj,Option.map_some,K5] at hu
 rw[show xs.getD j 0=xs[j] by simp[List.getD_eq_getElem?_getD,List.getElem?_eq_getElem hj],hu] at this
 by_cases h0:j=0
 ·subst h0;simpa [Addr.add] using this
 ·simpa [Addr.add,h0] using this
theorem DU {x y:Nat} (h:y≤x):¬(ord x y<0):=by
 unfold ord
 rw[if_neg (by omega)]
 split<;>omega
theorem row_one (w:World) (F:Nat):Row (w.alloc (.cells #[.int .i64 (F:Int)] 3)) (.slice (some ⟨w.heap.size,0,none⟩) 1 1) [F]:=
 ⟨_,1,rfl,K6 _,.inr ⟨_,0,rfl,by simp,fun i hi=>by
  obtain rfl:i=0:=by simpa using hi
  exact pd w #[.int .i64 (F:Int)] 3 0 _ rfl⟩⟩
theorem pq (va vb:Value) (x y:Nat) (w:World) (ha:Lim w va x) (hb:Lim w vb y) (hx:size x≤536870912) (hy:2≤size y) (hle:y≤x) :
  Calls Tryz.prog 165 #[va,vb] w fun e w'=>∃ q r,e=.returned (.tuple #[q,r])∧Lim w' q (x/y)∧Lim w' r (x%y)∧Kept w w':=by
 obtain⟨i0,hi,hz0,hz1,hz2⟩:=info_parts Tryz.fM
 obtain⟨tb,F,htb,htb0,htbB,hF,hF0,hFB,hsy,hsx,hsxF,hsx0,hstart⟩:=Jj hy hle
 have hord:=DU hle
 have hmm:=aK hle
 have hC:=K7 fun w' (hk:Kept w w')=>aV va vb x y w' (ha.kept hk) (hb.kept hk) (by omega)
 have M1:=K7 fun w' v (hk:Kept w w') (hr:Row w' v [F])=>gK vb v (ai y) [F] w' (hb.kept hk).row hr (ao _) (Fit.cons hFB Fit.nil) (by show size y≤_;omega) (by simp)
 have M2:=K7 fun w' v (hk:Kept w w') (hr:Row w' v [F])=>gK va v (ai x) [F] w' (ha.kept hk).row hr (ao _) (Fit.cons hFB Fit.nil) (by show size x≤_;omega) (by simp)
 rw[au,show val [F]=F by simp[val]] at M1 M2
 obtain⟨ad1,c1,rfl,hc1,r1⟩:=ha.row.opened
 obtain⟨ad2,c2,rfl,hc2,r2⟩:=hb.row.opened
 change 0<size x→_ at r1
 change 0<size y→_ at r2
 obtain⟨b1,o1,rfl,hb1,hca⟩:=r1 (by omega)
 obtain⟨b2,o2,rfl,hb2,hcb⟩:=r2 (by omega)
 have hct:=hcb (size y-1) (by show _<size y;omega)
 rw[htb] at hct
 change Calls _ _ #[.slice (some ⟨b1,o1,none⟩) (size x) c1,.slice (some ⟨b2,o2,none⟩) (size y) c2] w _
 change Hid (∀ w':World,Kept w w'→Calls _ _ #[.slice (some ⟨b1,o1,none⟩) (size x) c1,.slice (some ⟨b2,o2,none⟩) (size y) c2] w' _) at hC
 change Hid (∀ w' v,Kept w w'→Row w' v [F]→Calls _ _ #[.slice (some ⟨b2,o2,none⟩) (size y) c2,v] w' _) at M1
 change Hid (∀ w' v,Kept w w'→Row w' v [F]→Calls _ _ #[.slice (some ⟨b1,o1,none⟩) (size x) c1,v] w' _) at M2
 change size x≤c1 at hc1
 change size y≤c2 at hc2
 clear r1 r2 hca hcb htb ha hb
 generalize hnx:size x=nx at *
 generalize hny:size y=ny at *
 have x1:IntKind.i64.wrap ((ny:Int)-1)=((ny-1:Nat):Int):=by rw[IntWalk.i64_in _ (by omega)];omega
 have x2:IntKind.i64.wrap ((tb:Int)+1)=((tb+1:Nat):Int):=by rw[IntWalk.i64_in _ (by rw[show DigNum.B=1000000000 from rfl] at htbB;omega)];omega
 have x3:(1000000000:Int).tdiv ((tb+1:Nat):Int)=(F:Int):=by rw[←hF];exact mu 1000000000 (tb+1)
 have x4:IntKind.i64.wrap (F:Int)=F:=IntWalk.i64_in _ (by rw[show DigNum.B=1000000000 from rfl] at hFB;omega)
 have hlt1:ny-1<ny:=by omega
 have htop:((tb+1:Nat):Int)≠0:=by omega
 generalize hord0:ord x y=od at *
 generalize tb+1=tb1 at *
 generalize ny-1=ny1 at *
 clear hF
 go_enter Tryz.func165,Tryz.ntmps165
 go_wp2_with fail
 refine (hC.out _ (Below.refl _ _)).mono ?_
 rintro e w1 ⟨rfl,q1,rfl⟩
 have hne1:((ny:Int)==1)=false:=by rw[beq_eq_false_iff_ne];omega
 have hk1:Kept w (w.drewN q1):=ar (Below.refl _ _) q1
 have hct1:(w.drewN q1).cell? ⟨b2,o2+ny1,none⟩=some (.int .i64 (tb:Int)):=hct
 generalize w.drewN q1=w1 at *
 go_wp2_with fail
 refine (M1.out _ _ (Kept.comp _ _ _ hk1 (bK _ _)) (row_one w1 F)).mono ?_
 rintro e w2 ⟨v,rfl,hlv,hk2⟩
 have hkF:Row w2 (.slice (some ⟨w1.heap.size,0,none⟩) 1 1) [F]:=(row_one w1 F).kept hk2
 have hkw2:Kept w w2:=Kept.comp _ _ _ hk1 (Kept.comp _ _ _ (bK _ _) hk2)
 have hvrow:=hlv.row
 obtain⟨ad3,c3,rfl,hc3,r3⟩:=hlv.row.opened
 change size (y*F)≤c3 at hc3
 change 0<size (y*F)→_ at r3
 rw[hsy] at hc3
 obtain⟨b3,o3,rfl,hb3,hcv⟩:=r3 (by omega)
 rw[show (ai (y*F)).length=ny from hsy] at *
 clear r3 hlv hct1 M1
 generalize w1.heap.size=bF at *
 generalize hG0:w2.heap.size=G at *
 have hG:=K7 hG0
 go_wp2_with fail
 refine (M2.out _ _ (Kept.comp _ _ _ hkw2 (bK _ _)) (hkF.kept (bK _ _))).mono ?_
 rintro e w3 ⟨vx,rfl,hlx,hk3⟩
 have hkw3:Kept w2 w3:=Kept.comp _ _ _ (bK _ _) hk3
 have hown0:=tL w2
 replace hown0:=eK hown0 hk3
 have hown1:w3.ownsRow G 3 1 (.slice (some ⟨G,0,none⟩) 0 0) 0 []:=by have:=hown0;rw[hG.out] at this;exact this
 clear hown0
 obtain⟨ad4,c4,rfl,hc4,r4⟩:=hlx.row.opened
 change Lim w3 (.slice ad4 (size (x*F)) c4) (x*F) at hlx
 change 0<size (x*F)→_ at r4
 change size (x*F)≤c4 at hc4
 obtain⟨b4,o4,rfl,hb4,hcx⟩:=r4 hsx0
 have hnews:=GM hcx
 have hvalx:=au (x*F)
 have hfitx:=ao (x*F)
 have hlenx:(ai (x*F)).length=size (x*F):=rfl
 generalize hxl:ai (x*F)=xl at *
 generalize size (x*F)=sx at *
 go_wp2_with (at_builtin;go_loud (refine wpList_append_own _ rfl _ _ 87 rfl G 3 i0 (.int .i64 0) 1 8 Tryz.underlying87 hi hz0 hz1 hz2 rfl (by decide) (.slice (some ⟨G,0,none⟩) 0 0) 0 [] rfl hown1 ⟨b4,o4,none⟩ sx c4 (cellsOf xl) rfl (by simp[cellsOf,hlenx]) hnews (fun x hx=>by simp only[cellsOf,List.mem_map] at hx;obtain⟨_,_,rfl⟩:=hx;rfl) (by unfold maxLen;omega) (by omega) (by rw[←hG.out];exact hkw3.size) ?_);intro v' w4 hown4 hgrow4 hnil4)
 have hb4':Below G w2 w4:=by
  have hkG:Below G w2 w3:=by have:=hkw3;unfold Kept at this;rwa [hG.out] at this
  exact hkG.grown hgrow4 (by rw[←hG.out];exact hkw3.size) (fun q hq=>(hown1.lt q hq).1)
 have hstartO:w4.ownsRow G 3 1 v' (sx+0) (cellsOf (xl++List.replicate 0 0)):=by
  rw[Nat.zero_add] at hown4
  simpa using hown4
 clear hown4 hgrow4 hnil4 hown1 hnews hcx r4 hlx hC
 have hsc:IntKind.i64.wrap ((nx:Int)+1)=((nx+1:Nat):Int):=by rw[IntWalk.i64_in _ (by omega)];omega
 go_wp2
 go_loopw [11] (fun u wr=>∃ k:Nat,∃ a5 c5,u=.slice a5 (sx+k) c5∧sx+k≤nx+1∧wr.ownsRow G 3 1 u (sx+k) (cellsOf (xl++List.replicate k 0))∧Below G w2 wr) (fun u _=>match u with | .slice _ n _=>nx+1-n|_=>0)
 case atStart=>
  obtain⟨a5,c5,hv5,hc5,_⟩:=dW hstartO
  rw[List.length_append,List.length_replicate,hlenx] at hv5
  exact⟨0,a5,c5,hv5,hsxF,hstartO,hb4'⟩
 case round=>
  clear hstartO hb4' hkw3 hk3
  obtain⟨k,a5,c5,rfl,hk,hown,hbel⟩:=hrel
  have hsize:=hbel.size
  rw[hG.out] at hsize
  by_cases hlt:sx+k<nx+1
  ·go_wp2_with (at_builtin;refine wpList_append_own _ rfl _ _ 87 rfl G 3 i0 (.int .i64 0) 1 8 Tryz.underlying87 hi hz0 hz1 hz2 rfl (by decide) _ _ _ rfl (hown.alloc _) ⟨_,0,none⟩ 1 1 [.int .i64 0] rfl rfl (cG _ _ _) (fun x hx=>by simp at hx;subst hx;rfl) (by unfold maxLen;omega) (by omega) (by simp;omega) ?_;intro v'' w5 hown5 hgrow5 hnil5)
   have R:w5.ownsRow G 3 1 v'' (sx+(k+1)) (cellsOf (xl++List.replicate (k+1) 0))∧Below G w2 w5:=
    ⟨by rw[List.replicate_succ',←List.append_assoc,show cellsOf (xl++List.replicate k 0++[0])=cellsOf (xl++List.replicate k 0)++[.int .i64 0] by simp[cellsOf]];exact hown5,(hbel.alloc hsize _).grown hgrow5 (by simp;omega) (fun q hq=>(hown.lt q hq).1)⟩
   have hv6:∃ a6 c6,v''=.slice a6 (sx+(k+1)) c6:=by
    obtain⟨a5,c5,hv5,hc5,_⟩:=dW R.1
    rw[List.length_append,List.length_replicate,hlenx] at hv5
    exact⟨_,_,hv5⟩
   obtain⟨a6,c6,rfl⟩:=hv6
   clear hown5 hgrow5 hnil5 hown hbel
   go_wp2
   go_roundw
   case rel=>exact⟨k+1,_,_,rfl,by omega,R.1,R.2⟩
   case measure=>show nx+1-(sx+(k+1))<nx+1-(sx+k);omega
  ·have hkk:sx+k=nx+1:=by omega
   have hU0l:(xl++List.replicate k 0).length=nx+1:=by rw[List.length_append,List.length_replicate,hlenx];exact hkk
   have hU0:=IC xl k
   rw[hvalx] at hU0
   have hU0f:=Gf hfitx k
   generalize xl++List.replicate k 0=U0 at *
   clear hvalx hfitx hlenx hxl hb4 hc4 M2 hnx hny hk hlt hsxF hsx0 hct hk1 hk2 hord0 x1 x2 x3 x4 htop
   generalize sx+k=L at *
   generalize hmd:L-ny=m at *
   have hstart':x*F<y*F*DigNum.B^m:=by rw[←hmd,hkk];exact hstart
   have hmL:m+ny=L:=by omega
   have hm0:0<m:=by omega
   have hLb:L≤536870913:=by omega
   rw[←hkk] at hU0l
   have hge:nx+1≤L:=by omega
   clear hstart hmd hkk
   have DS:=Div.start (v:=ai (y*F)) (m:=m) hU0f hU0 hstart'
   obtain⟨gu,cu,he,hO⟩:=GO hown (by omega)
   simp only[Value.slice.injEq,true_and] at he
   obtain⟨rfl,rfl⟩:=he
   have x5:IntKind.i64.wrap ((L:Int)-(ny:Int))=(m:Int):=by rw[IntWalk.i64_in _ (by omega)];omega
   have x6:IntKind.i64.wrap ((m:Int)-1)=(m:Int)-1:=IntWalk.i64_in _ (by omega)
   clear hown hU0f hU0 hstart' hmm hsx
   go_wp2_with (at_make;go_loud (refine wpList_make_full _ rfl _ _ 87 rfl G 3 i0 (.int .i64 0) 1 Tryz.underlying87 hi hz0 hz1 .i64 .i64 _ _ m rfl rfl (by omega) (by omega) (by rw[hz2];omega) (by unfold maxLen;omega) hsize ?_);intro w5 hown5 hgrow5)
   rw[aQ] at hown5
   have hk5:Kept wr w5:=(Below.refl _ _).grown hgrow5 (K6 _) (by intro k h;cases h)
   have hQ:cZ w5 G wr.heap.size m m (zz (List.replicate m 0)):=⟨by simp[fD],by rw[rO];exact hown5⟩
   have hne:gu<wr.heap.size:=hO.lt.1
   replace hO:=hO.kept hk5
   replace hbel:=hbel.trans (hk5.mono hsize)
   have hgG:G≤gu:=hO.lt.2
   have hqG:G≤wr.heap.size:=hsize
   clear hown5 hgrow5 hk5 hi hz0 hz1 hz2 hsize hge x5 hsc hne1 hord
   generalize wr.heap.size=gq at *
   have hvN:∀ w',Below G w2 w'→Row w' (.slice (some ⟨b3,o3,none⟩) ny c3) (ai (y*F)):=fun w' hb=>Row.below hvrow (by rw[hG.out];exact K6 _) hb
   have hfN:∀ w',Below G w2 w'→Row w' (.slice (some ⟨bF,0,none⟩) 1 1) [F]:=fun w' hb=>Row.below hkF (by rw[hG.out];exact K6 _) hb
   have hV:=au (y*F)
   have hvf:=ao (y*F)
   have hvl:(ai (y*F)).length=ny:=hsy
   have hVp:0<y*F:=(im (m:=y*F)).1 (by rw[hsy];omega)
   have hvtop:=Iy hvl hy
   have Hsy:=K7 hsy
   clear hvrow hkF hsy
   generalize hvs:ai (y*F)=vs at *
   have HvN:=K7 hvN
   have HfN:=K7 hfN
   have Hcv:=K7 hcv
   have HV:=K7 hV
   have Hvtop:=K7 hvtop
   clear hvN hfN hcv hvs hV hvtop
   go_wp2
   go_loopw [13,14,15,16,17,18,19,20,21] (fun j _ _ _ _ _ _ _ _ wr=>∃ (k:Nat) (U qs:List Nat),k≤m∧j=.int .i64 ((k:Int)-1)∧DigNum.Div (x*F) (y*F) vs U qs k∧U.length=L∧qs.length=m∧cZ wr G gu L c5 (zz U)∧cZ wr G gq m m (zz qs)∧Below G w2 wr)
    (fun j _ _ _ _ _ _ _ _ _=>(intOf j+1).toNat)
   case atStart=>exact⟨m,U0,_,K6 _,rfl,DS,hU0l,by simp,hO,hQ,hbel⟩
   case round=>
    clear hO hQ hbel DS hU0l
    obtain⟨k,U,qs,hk,rfl,D,hUl,hql,hO,hQ,hbel⟩:=hrel
    by_cases hk0:k=0
    ·subst hk0
     rw[show ((0:Nat):Int)-1 = -1 from rfl]
     obtain⟨hq,hr,hrf,hqf⟩:=D.rest HV.out hVp hvf hvl (by rw[hUl];omega)
     obtain⟨u1,u2⟩:=IA (x:=x) (y:=y) hF0
     rw[u1] at hq
     have hrs:size (x*F%(y*F))≤ny:=by
      have:=aK (Nat.le_of_lt (Nat.mod_lt (x*F) hVp))
      rwa [Hsy.out] at this
     have HTr:=K7 fun wi (hki:Kept wr wi)=>fV _ (U.take ny) wi ((hO.kept hki).pre (show ny≤L by omega)) hrf (by rw[List.length_take];omega)
     have HTq:=K7 fun wi (hki:Kept wr wi)=>fV _ qs wi (hQ.kept hki).row hqf (by rw[hql];omega)
     have HDv:=K7 fun wi v (hl:Lim wi v (x*F%(y*F)))=>lK v (ai (x*F%(y*F))) F wi hl.row (ao _) (by show size _≤_;omega) hF0 hFB
     rw[hr] at HTr
     rw[hq] at HTq
     rw[au,u2] at HDv
     have hbw:=K7 hbel
     have HcF:=K7 fun wi (hki:Kept wr wi)=>Bh (HfN.out wi (hbel.trans (hki.mono (hG.out ▸ hbel.size))))
     have hwr:w2.heap.size≤wr.heap.size:=hbel.size
     obtain⟨_,_,_,hLc,hcm,_⟩:=hO.inv
     have hnc:ny≤c5:=by omega
     clear hr hq u1 u2 D hrf hqf hO hQ hbel HvN HfN Hcv HV Hsy hvf hVp
     go_wp2
     refine aj 13 [.is (.slice (some ⟨gu,0,none⟩) L c5),.is (.int .i64 ny),.is (.slice (some ⟨gu,0,none⟩) ny c5),(.says fun w v=>Lim w v (x*F%(y*F))),.is (.slice (some ⟨bF,0,none⟩) 1 1),.is (.pointer (some ⟨bF,0,none⟩)),.is (.int .i64 F),(.says fun w v=>∃ v1,v=.tuple #[v1,.int .i64 ((x*F%(y*F)%F:Nat):Int)]∧Lim w v1 (x%y)),(.says fun w v=>∃ v1,v=.tuple #[v1,.int .i64 ((x*F%(y*F)%F:Nat):Int)]∧Lim w v1 (x%y)),(.says fun w v=>Lim w v (x%y)),.any,(.says fun w v=>Lim w v (x%y)),.any] [0,1,2,3,4,5,6,7,8,9,10,11,12] (by kernel_rfl) (by kernel_rfl) (by kernel_rfl) (by kernel_rfl) (by kernel_rfl) (by kernel_rfl) (by intro f;simp only[laid,List.foldl_cons,List.foldl_nil,List.getElem?_toArray,K9,K8,Option.bind_some,Act.put,List.setIfInBounds_toArray,List.set_cons_zero,List.set_cons_succ];rfl) ?_ ?_
     ·intro i o him ho f wi hki hdep
      have cF:=HcF.out wi hki
      rcases i with _|_|_|_|_|_|_|_|_|_|_|_|_|i
      ·cases so ho
       refine ae.value (.slice (some ⟨gu,0,none⟩) L c5) ?_ (aa rfl)
       go_simp
      ·cases so ho
       refine ae.value (.int .i64 ny) ?_ (aa rfl)
       go_simp
      ·cases so ho
       have d0:=hdep ⟨0,.data⟩ (by simp) rfl
       have d1:=hdep ⟨1,.data⟩ (by simp) rfl
       simp only[af,K9,K8] at d0 d1
       refine ae.value (.slice (some ⟨gu,0,none⟩) ny c5) ?_ (aa rfl)
       go_simp
      ·cases so ho
       have d2:=hdep ⟨2,.data⟩ (by simp) rfl
       simp only[af,K9,K8] at d2
       rw[d2]
       refine ae.call 222 #[.slice (some ⟨gu,0,none⟩) ny c5] (by go_simp) ((HTr.out wi hki).mono ?_)
       rintro e w' ⟨v,rfl,h1,h2⟩
       exact⟨v,rfl,fQ (fun w'' k=>h1.kept k) h2⟩
      ·cases so ho
       refine ae.value (.slice (some ⟨bF,0,none⟩) 1 1) ?_ (aa rfl)
       go_simp
      ·cases so ho
       have d4:=hdep ⟨4,.data⟩ (by simp) rfl
       simp only[af,K9,K8] at d4
       refine ae.value (.pointer (some ⟨bF,0,none⟩)) ?_ (aa rfl)
       go_simp
      ·cases so ho
       have d5:=hdep ⟨5,.data⟩ (by simp) rfl
       simp only[af,K9,K8] at d5
       refine ae.value (.int .i64 F) ?_ (aa rfl)
       go_simp
      ·cases so ho
       have d3:=hdep ⟨3,.data⟩ (by simp) rfl
       have d6:=hdep ⟨6,.data⟩ (by simp) rfl
       simp only[af,K9,K8] at d3 d6
       rw[d6]
       have hl:=d3 _ (Kept.rfl' _)
       refine ae.call 221 #[f 3,.int .i64 F] (by go_simp) ((HDv.out wi _ hl).mono ?_)
       rintro e w' ⟨v,rfl,h1,h2⟩
       exact⟨_,rfl,fQ (fun w'' k=>⟨v,rfl,h1.kept k⟩) h2⟩
      ·cases so ho
       have d7:=hdep ⟨7,.data⟩ (by simp) rfl
       simp only[af,K9,K8] at d7
       obtain⟨v1,he,hl⟩:=d7 _ (Kept.rfl' _)
       rw[he]
       refine ae.value (.tuple #[v1,.int .i64 ((x*F%(y*F)%F:Nat):Int)]) ?_ (fQ (fun w'' k=>⟨v1,rfl,hl.kept k⟩) (Kept.rfl' _))
       go_simp
      ·cases so ho
       have d8:=hdep ⟨8,.data⟩ (by simp) rfl
       simp only[af,K9,K8] at d8
       obtain⟨v1,he,hl⟩:=d8 _ (Kept.rfl' _)
       rw[he]
       refine ae.value v1 ?_ (fQ (fun w'' k=>hl.kept k) (Kept.rfl' _))
       go_simp
      ·cases so ho
       have d8:=hdep ⟨8,.data⟩ (by simp) rfl
       simp only[af,K9,K8] at d8
       obtain⟨v1,he,hl⟩:=d8 _ (Kept.rfl' _)
       rw[he]
       refine ae.value (.int .i64 ((x*F%(y*F)%F:Nat):Int)) ?_ ⟨trivial,Kept.rfl' _⟩
       go_simp
      ·cases so ho
       have d9:=hdep ⟨9,.data⟩ (by simp) rfl
       simp only[af,K9,K8] at d9
       have hl:=d9 _ (Kept.rfl' _)
       refine ae.value (f 9) ?_ (fQ (fun w'' k=>hl.kept k) (Kept.rfl' _))
       go_simp
      ·cases so ho
       have d10:=hdep ⟨10,.data⟩ (by simp) rfl
       simp only[af,K9,K8] at d10
       refine ae.value (f 10) ?_ ⟨trivial,Kept.rfl' _⟩
       go_simp
      ·omega
     ·intro f wi hki hall
      have hv:=hall 11 (by decide)
      simp only[af,K9,K8] at hv
      clear hall
      have hl:=hv _ (Kept.rfl' _)
      obtain⟨a',c',he,_⟩:=id hl
      rw[he] at hl
      simp only[List.drop_succ_cons,List.drop_zero]
      rw[he]
      go_wp2_with fail
      refine (HTq.out _ hki).mono ?_
      rintro e w7 ⟨vq,rfl,hlq,hkq⟩
      have hlr:=hl.kept hkq
      obtain⟨a'',c'',rfl,_⟩:=id hlq
      go_wp2
      go_ret2
      have hk27:Below G w2 w7:=(hbw.out.trans (hki.mono (hG.out ▸ hbw.out.size))).trans (hkq.mono (hG.out ▸ Nat.le_trans hbw.out.size hki.size))
      exact⟨_,_,rfl,hlq,hlr,Kept.comp _ _ _ hkw2 (by unfold Kept;rw[hG.out];exact hk27)⟩
    ·obtain⟨j,rfl⟩:∃ j,k=j+1:=⟨k-1,by omega⟩
     rw[show ((j+1:Nat):Int)-1=(j:Int) by omega]
     have hT:=D.part (by rw[hUl];omega)
     have hguess:=fun w' (hb:Below G w2 w') (hr:Row w' (.slice (some ⟨gu,0,none⟩) L c5) U)=>Ax _ _ U vs j ny w' hr (HvN.out _ hb) D.fitU hvf hvl hy (by rw[hUl];omega) (by rw[hUl];omega) Hvtop.out (by rw[HV.out];exact hT)
     have hround:=fun t h1 h2 h3=>round (t:=t) D HV.out hVp hvf hvl (by rw[hUl];omega) (by rw[hql];omega) h1 h2 h3
     have hUrow:=hO.row
     have Hguess:=K7 (hguess wr hbel hUrow)
     have Hround:=K7 hround
     have hUf:=D.fitU
     have HD:=K7 D
     clear hguess hround hUrow D hT
     go_wp2_with fail
     refine Hguess.out.mono ?_
     rintro e w6 ⟨t,rfl,ht1,ht2,ht3,hk6⟩
     have hRt:=Hround.out t ht1 ht2 ht3
     have hO:=hO.kept hk6
     have hQ:=hQ.kept hk6
     have hbel:=hbel.trans (hk6.mono (hG.out ▸ hbel.size))
     clear Hguess Hround ht1 ht2 hk6
     obtain⟨hbo,hR1,hR2⟩:=hRt
     have HR1:=K7 hR1
     have HR2:=K7 hR2
     have hmf:=fun k=>jy (j:=j) hUf hvf ht3 k
     have hmc:=fun k=>GG (j:=j) hUf hvf ht3 k
     have Hmf:=K7 hmf
     have Hmc:=K7 hmc
     have Hms:=K7 fun k=>dT U j vs t k
     have hms0:ms U j vs t 0=(U,0,0):=rfl
     clear hR1 hR2 hmf hmc
     go_wp2
     go_loopw [15,16,17,18] (fun b i _ _ wr=>∃ k:Nat,k≤ny∧i=.int .i64 k∧b=.int .i64 (((ms U j vs t k).2.1+(ms U j vs t k).2.2:Nat):Int)∧cZ wr G gu L c5 (zz (ms U j vs t k).1)∧cZ wr G gq m m (zz qs)∧Below G w2 wr)
      (fun _ i _ _ _=>ny-(intOf i).toNat)
     case atStart=>exact⟨0,Nat.zero_le _,rfl,rfl,hO,hQ,hbel⟩
     case round=>
      clear hO hQ hbel hms0
      obtain⟨k,hkn,rfl,rfl,hO,hQ,hbel⟩:=hrel
      by_cases hlk:k<ny
      ·obtain⟨hmb,hst⟩:=Hmc.out k
       obtain⟨hmf1,hmf2,hmf3⟩:=Hmf.out k
       have hcz:=hO.cell (i:=j+k) (by omega)
       rw[qY] at hcz
       have hcv:=(hbel.cell (p:=⟨b3,o3+k,none⟩) hb3).trans (Hcv.out k hlk)
       have hfree:=hO.free (j+k)
       have hset:=fun (d:Nat)=>hO.set (j+k) (d:Int)
       simp only[ll] at hset
       have Hset:=K7 hset
       have hbel2:=K7 fun u=>hbel.setCell (p:=⟨gu,j+k,none⟩) hgG u
       have hQ2:=K7 fun u=>hQ.other (b:=gu) (i:=j+k) (by omega) u
       have hvk:=hvf.get k
       have hzk:=hmf1.get (j+k)
       have hlt1:j+k<L:=by omega
       rw[show DigNum.B=1000000000 from rfl] at hvk hzk hmb ht3
       have hwk:IntKind.i64.wrap ((k:Int)+(j:Int))=((j+k:Nat):Int):=by rw[IntWalk.i64_in _ (by omega)];omega
       clear hset hmf1 hmf2 hmf3
       obtain⟨hs1,hs2⟩:=hst
       have Hs1:=K7 hs1
       have Hs2:=K7 hs2
       clear hs1 hs2
       generalize hbo0:(ms U j vs t k).2.1+(ms U j vs t k).2.2=b0 at *
       generalize (ms U j vs t k).1=S at *
       generalize vs.getD k 0=v at *
       generalize S.getD (j+k) 0=z at *
       clear hbo0
       have hTb:=prod_bound ht3 hvk
       obtain⟨T,hTe⟩:∃ T,t*v=T:=⟨_,rfl⟩
       have hTI:(t:Int)*(v:Int)=(T:Int):=by rw[←hTe];simp
       have w1:=sN ht3 hvk
       rw[hTI] at hTb w1
       rw[hTe] at Hs1 Hs2
       clear hTe
       obtain⟨P,hP⟩:∃ P,T+b0=P:=⟨_,rfl⟩
       rw[hP] at Hs1 Hs2
       have w2:IntKind.i64.wrap ((T:Int)+(b0:Int))=(P:Int):=by rw[IntWalk.i64_in _ (by omega)];omega
       have hPb:(P:Int)≤1000000000000000000:=by omega
       have w3:=jE P
       have w4:=jD P
       have hq:=Nat.div_le_self P 1000000000
       have hr:=Nat.mod_lt P (show 1000000000>0 by decide)
       clear hP hTb
       rw[show DigNum.B=1000000000 from rfl] at Hs1 Hs2
       generalize P%1000000000=r at *
       generalize P/1000000000=q at *
       have w5:=tX hq hPb
       have w6:IntKind.i64.wrap ((z:Int)-(r:Int))=(z:Int)-r:=IntWalk.i64_in _ (by omega)
       have hqb:(q:Int)≤1000000000000000000:=by omega
       have w7:IntKind.i64.wrap ((q:Int)+1)=((q+1:Nat):Int):=by rw[IntWalk.i64_in _ (by omega)];omega
       clear hq hPb hqb
       by_cases hzr:z<r
       ·obtain⟨g1,g2⟩:=Hs1.out hzr
        have hneg:(z:Int)-r<0:=by omega
        obtain⟨d,hd⟩:∃ d,z+1000000000-r=d:=⟨_,rfl⟩
        rw[hd] at g1
        have w8:IntKind.i64.wrap ((z:Int)-r+1000000000)=(d:Int):=by rw[IntWalk.i64_in _ (by omega)];omega
        have Hso:=K7 (Hset.out d)
        have G1:=K7 g1
        have G2:=K7 g2
        clear g1 g2 hd hr hO hQ hbel Hs1 Hs2 Hset
        go_wp2
        go_roundw
        case rel=>exact⟨k+1,by omega,by go_num,by rw[G2.out];go_num,by rw[G1.out];exact Hso.out,hQ2.out _,hbel2.out _⟩
        case measure=>simp[intOf];omega
       ·obtain⟨g1,g2⟩:=Hs2.out (by omega)
        have hneg:¬((z:Int)-r<0):=by omega
        obtain⟨d,hd⟩:∃ d,z-r=d:=⟨_,rfl⟩
        rw[hd] at g1
        have w8:(z:Int)-r=(d:Int):=by omega
        rw[w8] at w6 hneg
        have Hso:=K7 (Hset.out d)
        have G1:=K7 g1
        have G2:=K7 g2
        clear g1 g2 hd hr hO hQ hbel Hs1 Hs2 Hset
        go_wp2
        go_roundw
        case rel=>exact⟨k+1,by omega,by go_num,by rw[G2.out],by rw[G1.out];exact Hso.out,hQ2.out _,hbel2.out _⟩
        case measure=>simp[intOf];omega
      ·obtain rfl:ny=k:=by omega
       clear Hmc Hmf
       have hSt:=fR (u:=U) (j:=j) (v:=vs) (d:=t) ny (j+ny) (K6 _)
       have hcz:=hO.cell (i:=j+ny) (by omega)
       rw[qY,hSt] at hcz
       have hfree:=hO.free (j+ny)
       have hut:=hUf.get (j+ny)
       have hSl:=Hms.out ny
       have hwk:IntKind.i64.wrap ((j:Int)+(ny:Int))=((j+ny:Nat):Int):=by rw[IntWalk.i64_in _ (by omega)];omega
       have hlt2:j+ny<L:=by omega
       have hjm:j<m:=by omega
       clear Hms hSt
       rw[show DigNum.B=1000000000 from rfl] at hut hbo ht3
       generalize (ms U j vs t ny).2.1+(ms U j vs t ny).2.2=bo at *
       generalize (ms U j vs t ny).1=S at *
       generalize U.getD (j+ny) 0=ut at *
       have w1:IntKind.i64.wrap ((ut:Int)-(bo:Int))=(ut:Int)-bo:=IntWalk.i64_in _ (by omega)
       have hc2:∀ x:Int,(wr.setCell ⟨gu,j+ny,none⟩ (.int .i64 x)).cell? ⟨gu,j+ny,none⟩=some (.int .i64 x):=fun x=>by
        rw[(hO.set (j+ny) x).cell (by omega)]
        have:j+ny<(zz S).length:=by rw[fD,hSl,hUl];exact hlt2
        simp[List.getD_eq_getElem?_getD,this]
       by_cases hle:bo≤ut
       ·have D:=HR1.out hle
        obtain⟨d,hd⟩:∃ d,ut-bo=d:=⟨_,rfl⟩
        rw[hd] at D
        have e1:(ut:Int)-bo=(d:Int):=by omega
        have hneg:¬((d:Int)<0):=by omega
        rw[e1] at w1
        have hO2:=hO.set (j+ny) (d:Int)
        rw[ll] at hO2
        have hQ2:=hQ.other (b:=gu) (i:=j+ny) (by omega) (.int .i64 (d:Int))
        have hbel2:=hbel.setCell (p:=⟨gu,j+ny,none⟩) hgG (.int .i64 (d:Int))
        have hc3:=hc2 (d:Int)
        have hcq:=hQ2.cell (i:=j) hjm
        have hfq:=hQ2.free j
        have hO3:=K7 (hO2.other (b:=gq) (i:=j) (by omega) (.int .i64 (t:Int)))
        have hQ3:=K7 (hQ2.set j (t:Int))
        rw[ll] at hQ3
        have hbel3:=K7 (hbel2.setCell (p:=⟨gq,j,none⟩) hqG (.int .i64 (t:Int)))
        have D':=K7 D
        have hl1:(S.set (j+ny) d).length=L:=by rw[List.length_set,hSl,hUl]
        have hl2:(qs.set j t).length=m:=by rw[List.length_set,hql]
        generalize S.set (j+ny) d=U' at *
        generalize (zz qs).getD j 0=zq at *
        generalize qs.set j t=qs' at *
        clear D hO hQ hbel hO2 hQ2 hbel2 HR1 HR2 hc2 hd HD
        go_wp2
        go_roundw
        case rel=>exact⟨j,U',qs',by omega,by go_num,D'.out,hl1,hl2,hO3.out,hQ3.out,hbel3.out⟩
        case measure=>simp[intOf]
       ·obtain⟨W,hW,hWf,ht0,hZ0,hab1,D⟩:=HR2.out (by omega)
        obtain⟨Z,hZ⟩:∃ Z:Int,(ut:Int)-bo=Z:=⟨_,rfl⟩
        replace w1:IntKind.i64.wrap ((ut:Int)-(bo:Int))=Z:=w1.trans hZ
        rw[hZ] at hZ0
        have hneg:Z<0:=by omega
        have hZb : -1000000000≤Z:=by omega
        have hO2:=hO.set (j+ny) Z
        have hWl:W.length=L:=by rw[hW,List.length_set,hSl,hUl]
        rw[←Bq (n:=ut+DigNum.B-bo),←hW] at hO2
        have hQ2:=hQ.other (b:=gu) (i:=j+ny) (by omega) (.int .i64 Z)
        have hbel2:=hbel.setCell (p:=⟨gu,j+ny,none⟩) hgG (.int .i64 Z)
        have hc3:=hc2 Z
        have x7:IntKind.i64.wrap ((t:Int)-1)=((t-1:Nat):Int):=by rw[IntWalk.i64_in _ (by omega)];omega
        have HZ0:=K7 hZ0
        have HZ:=K7 hZ
        have D':=K7 D
        have hab0:ab W j vs 0=(W,0):=rfl
        have Hstep:=K7 fun k=>show ab W j vs (k+1)=((ab W j vs k).1.set (j+k) (((ab W j vs k).1.getD (j+k) 0+vs.getD k 0+(ab W j vs k).2)%DigNum.B),((ab W j vs k).1.getD (j+k) 0+vs.getD k 0+(ab W j vs k).2)/DigNum.B) from rfl
        have Habf:=K7 fun k=>kz (j:=j) hWf hvf k
        have Habl:=K7 fun k=>ep W j vs k
        have hl2:(qs.set j (t-1)).length=m:=by rw[List.length_set,hql]
        clear D hO hQ hbel HR1 HR2 hc2 HD hZ0 hZ hW
        generalize t-1=t1 at *
        go_wp2
        go_loopw [19,20,21] (fun c i _ wr=>∃ k:Nat,k≤ny∧i=.int .i64 k∧c=.int .i64 (((ab W j vs k).2:Nat):Int)∧cZ wr G gu L c5 ((zz (ab W j vs k).1).set (j+ny) Z)∧cZ wr G gq m m (zz qs)∧Below G w2 wr)
         (fun _ i _ _=>ny-(intOf i).toNat)
        case atStart=>exact⟨0,Nat.zero_le _,rfl,rfl,hO2,hQ2,hbel2⟩
        case round=>
         clear hO2 hQ2 hbel2 hc3 hab0
         obtain⟨k,hkn,rfl,rfl,hO,hQ,hbel⟩:=hrel
         by_cases hlk:k<ny
         ·have hA1:=(Habf.out k).1.get (j+k)
          have hA2:=(Habf.out k).2
          have hvk:=hvf.get k
          have hst:=Hstep.out k
          have hcz:=hO.cell (i:=j+k) (by omega)
          rw[EC Z (by omega)] at hcz
          have hcv:=(hbel.cell (p:=⟨b3,o3+k,none⟩) hb3).trans (Hcv.out k hlk)
          have hfree:=hO.free (j+k)
          have hset:=fun (d nq:Nat)=>(hO.drewN nq).set (j+k) (d:Int)
          simp only[Bp Z (show j+k≠j+ny by omega)] at hset
          have Hset:=K7 hset
          have hbel3:=K7 fun nq u=>(al hbel nq).setCell (p:=⟨gu,j+k,none⟩) hgG u
          have hQ3:=K7 fun nq u=>(hQ.drewN nq).other (b:=gu) (i:=j+k) (by omega) u
          have hlt1:j+k<L:=by omega
          rw[show DigNum.B=1000000000 from rfl] at hvk hA1 hst
          have hwk:IntKind.i64.wrap ((k:Int)+(j:Int))=((j+k:Nat):Int):=by rw[IntWalk.i64_in _ (by omega)];omega
          have Hst:=K7 hst
          clear hset hst Hstep Habf
          generalize hn0:ab W j vs (k+1)=nx1 at *
          have Hn0:=K7 hn0
          clear hn0
          generalize (ab W j vs k).1=A at *
          generalize (ab W j vs k).2=c at *
          generalize vs.getD k 0=v at *
          generalize A.getD (j+k) 0=z at *
          have w5:IntKind.i64.wrap ((z:Int)+(v:Int))=(z:Int)+v:=IntWalk.i64_in _ (by omega)
          obtain⟨P,hP⟩:∃ P,z+v+c=P:=⟨_,rfl⟩
          rw[hP] at Hst
          have w6:IntKind.i64.wrap ((z:Int)+v+c)=(P:Int):=by rw[IntWalk.i64_in _ (by omega)];omega
          have hPb:P≤1999999999:=by omega
          have w3:=jE P
          have w4:=jD P
          have hq:=Nat.div_le_self P 1000000000
          generalize P%1000000000=r at *
          generalize P/1000000000=q at *
          have Hso:=K7 (Hset.out r)
          clear hP hO hQ hbel Hset
          go_wp2
          go_quiet (fail)
          go_wp2
          go_roundw
          case rel=>exact⟨k+1,by omega,by go_num,by rw[Hn0.out,Hst.out],by rw[Hn0.out,Hst.out];exact Hso.out _,hQ3.out _ _,hbel3.out _ _⟩
          case measure=>simp[intOf];omega
         ·obtain rfl:ny=k:=by omega
          have hAl:=Habl.out ny
          have D:=D'.out
          have hz0:=HZ0.out
          clear Hstep Habf D' Habl HZ0 HZ
          have hcz:=hO.cell (i:=j+ny) (by omega)
          generalize (ab W j vs ny).1=A at *
          generalize (ab W j vs ny).2=c at *
          have hAj:j+ny<A.length:=by rw[hAl,hWl];exact hlt2
          rw[ED Z hAj] at hcz
          have hfree:=hO.free (j+ny)
          have x8:IntKind.i64.wrap (Z+(c:Int))=0:=by rw[hz0];rfl
          have hO2:=hO.set (j+ny) 0
          rw[show ((zz A).set (j+ny) Z).set (j+ny) 0=zz (A.set (j+ny) 0) by rw[List.set_set];exact ll A (j+ny) 0] at hO2
          have hQ2:=hQ.other (b:=gu) (i:=j+ny) (by omega) (.int .i64 0)
          have hbel2:=hbel.setCell (p:=⟨gu,j+ny,none⟩) hgG (.int .i64 0)
          have hcq:=hQ2.cell (i:=j) hjm
          have hfq:=hQ2.free j
          have hO3:=K7 (hO2.other (b:=gq) (i:=j) (by omega) (.int .i64 (t1:Int)))
          have hQ3:=K7 (hQ2.set j (t1:Int))
          rw[ll] at hQ3
          have hbel3:=K7 (hbel2.setCell (p:=⟨gq,j,none⟩) hqG (.int .i64 (t1:Int)))
          have hl1:(A.set (j+ny) 0).length=L:=by rw[List.length_set,hAl,hWl]
          have D':=K7 D
          generalize A.set (j+ny) 0=U' at *
          generalize (zz qs).getD j 0=zq at *
          generalize qs.set j t1=qs' at *
          clear D hO hQ hbel hO2 hQ2 hbel2 hAj hAl hz0
          go_wp2
          go_roundw
          case rel=>exact⟨j,U',qs',by omega,by go_num,D'.out,hl1,hl2,hO3.out,hQ3.out,hbel3.out⟩
          case measure=>simp[intOf]
end Go.Proofs.YtjbcmmaniphkkaaGreatDoor.D
