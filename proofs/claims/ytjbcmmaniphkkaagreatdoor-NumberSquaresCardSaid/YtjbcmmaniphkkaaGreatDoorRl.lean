import Derived.Test.YtjbcmmaniphkkaaGreatDoorRk
set_option linter.unusedSectionVars false
set_option linter.unusedVariables false
set_option linter.unusedSimpArgs false
set_option maxRecDepth 100000
set_option maxHeartbeats 4000000
namespace Go.Proofs.YtjbcmmaniphkkaaGreatDoor.D
open Go.RowKit DigNum
theorem BJ (s t:ByteArray) (x y:Rat) (k l:Nat) (w:World) (hx:aG s x) (hy:aG t y) (bx:Bd x k) (bl:Bd y l) (hk:k≤1000000) (hl:l≤1000000) :
  Calls Tryz.prog 94 #[.string s,.string t] w fun e w'=>∃ u:ByteArray,e=.returned (.string u)∧aG u (x+y)∧Kept w w':=by
 have HQ1:=K7 fun w'=>iK s x w' hx
 have HQ2:=K7 fun w'=>iK t y w' hy
 have HP1:=K7 fun w'=>ib s x w' hx (by rw[hx.size];have:=gC bx;omega)
 have HP2:=K7 fun w'=>ib t y w' hy (by rw[hy.size];have:=gC bl;omega)
 have hdd:=den_mul x y
 have hrat:=Ih x y
 have e1:=bx.1
 have e2:=pU bx.2
 have e3:=bl.1
 have e4:=pU bl.2
 clear hx hy bx bl
 obtain⟨z,hz⟩:∃ z,x+y=z:=⟨_,rfl⟩
 rw[hz] at hrat
 generalize x.num=a at *
 generalize (x.den:Int)=b at *
 generalize y.num=c at *
 generalize (y.den:Int)=d at *
 rw[hz]
 clear hz
 have HO:Hid (Small a b→Small c d→∀ w',Calls Tryz.prog 115 #[.int .i64 (a*d+c*b),.int .i64 (b*d)] w' fun e w2=>∃ u:ByteArray,e=.returned (.string u)∧aG u z∧Kept w' w2):=K7 fun h1 h2 w'=>by
  have m1:=fg (a:=a) (b:=d) h1.1 h2.2
  have m2:=fg (a:=c) (b:=b) h2.1 h1.2
  have m3:=fg (a:=b) (b:=d) h1.2 h2.2
  have:=jg (a*d+c*b) (b*d) w' hdd (by omega) (by omega)
  rwa [hrat] at this
 have HW:Hid (Small a b→Small c d→wrap64 (a*d)=a*d∧wrap64 (c*b)=c*b∧wrap64 (a*d+c*b)=a*d+c*b∧wrap64 (b*d)=b*d):=K7 fun h1 h2=>by
  have m1:=fg (a:=a) (b:=d) h1.1 h2.2
  have m2:=fg (a:=c) (b:=b) h2.1 h1.2
  have m3:=fg (a:=b) (b:=d) h1.2 h2.2
  exact⟨jV (by omega),jV (by omega),jV (by omega),jV (by omega)⟩
 have M1:=K7 fun va vb w' h1 h2=>dJ va vb a d w' h1 h2 (Nat.le_trans (bt e1) (by omega)) (Nat.le_trans (bt e4) (by omega)) (Nat.le_trans (bt (bN e1 e4)) (by omega))
 have M2:=K7 fun va vb w' h1 h2=>dJ va vb c b w' h1 h2 (Nat.le_trans (bt e3) (by omega)) (Nat.le_trans (bt e2) (by omega)) (Nat.le_trans (bt (bN e3 e2)) (by omega))
 have M4:=K7 fun va vb w' h1 h2=>jG va vb (a*d) (c*b) w' h1 h2 (Nat.le_trans (bt (bN e1 e4)) (by omega)) (Nat.le_trans (bt (bN e3 e2)) (by omega))
 have M3:=K7 fun va vb w' h1 h2=>dJ va vb b d w' h1 h2 (Nat.le_trans (bt e2) (by omega)) (Nat.le_trans (bt e4) (by omega)) (Nat.le_trans (bt (bN e2 e4)) (by omega))
 have M5:Hid (∀ va vb w',Big w' va (a*d+c*b)→Big w' vb (b*d)→Calls Tryz.prog 116 #[va,vb] w' fun e w2=>∃ u:ByteArray,e=.returned (.string u)∧aG u z∧Kept w' w2):=K7 fun va vb w' h1 h2=>by
  have:=fm va vb (a*d+c*b) (b*d) w' h1 h2 hdd (Nat.le_trans (bt (IX (bN e1 e4) (by rw[Nat.add_comm];exact bN e3 e2))) (by omega)) (Nat.le_trans (bt (bN e2 e4)) (by omega))
  rwa [hrat] at this
 clear hk hl e1 e2 e3 e4 hdd hrat
 go_enter Tryz.func94,Tryz.ntmps94
 go_wp2_with fail
 refine (HQ1.out _).mono ?_
 rintro e w2 ⟨⟨rfl,h1⟩|rfl,q,rfl⟩
 ·go_wp2_with fail
  refine (HQ2.out _).mono ?_
  rintro e w2 ⟨⟨rfl,h2⟩|rfl,q2,rfl⟩
  ·obtain⟨y1,y2,y3,y4⟩:=HW.out h1 h2
   have HO:=K7 (HO.out h1 h2)
   clear HP1 HP2 M1 M2 M4 M3 M5 HQ1 HQ2 HW
   go_wp2_with fail
   refine (HO.out _).mono ?_
   rintro e w3 ⟨u,rfl,hu,hk1⟩
   have hk:=Kept.comp _ _ _ (ar (Below.refl _ w) (q+q2)) hk1
   have HU:=K7 hu
   clear HO hu hk1
   go_wp2
   go_ret
   exact⟨_,rfl,HU.out,hk⟩
  ·clear h1
   clear HQ1 HQ2 HO HW
   go_wp2_with fail
   have hk:=ar (Below.refl _ w) (q+q2)
   generalize w.drewN (q+q2)=u0 at *
   refine (HP1.out _).mono ?_
   rintro e u1 ⟨v1,v2,rfl,hv1,hv2,hk1⟩
   have hk:=Kept.comp _ _ _ hk hk1
   obtain⟨s1,a1,n1,c1,rfl⟩:=aM hv1
   obtain⟨s2,a2,n2,c2,rfl⟩:=aM hv2
   obtain⟨hk2,B1,B2⟩:=bp u1 [.bool s1,.slice a1 n1 c1] [.bool s2,.slice a2 n2 c2] 117 117
   clear HP1 hk1
   go_wp2_with fail
   generalize (u1.alloc (.cells [.bool s1,.slice a1 n1 c1].toArray _)).alloc (.cells [.bool s2,.slice a2 n2 c2].toArray _)=u2 at *
   have V1:=hv1.kept hk2
   have V2:=hv2.kept hk2
   have hk:=Kept.comp _ _ _ hk hk2
   clear hv1 hv2 hk2
   refine (HP2.out _).mono ?_
   rintro e u3 ⟨v1,v2,rfl,hv1,hv2,hk1⟩
   have hk:=Kept.comp _ _ _ hk hk1
   obtain⟨s3,a3,n3,c3,rfl⟩:=aM hv1
   obtain⟨s4,a4,n4,c4,rfl⟩:=aM hv2
   obtain⟨hk2,B3,B4⟩:=bp u3 [.bool s3,.slice a3 n3 c3] [.bool s4,.slice a4 n4 c4] 117 117
   go_wp2_with fail
   generalize (u3.alloc (.cells [.bool s3,.slice a3 n3 c3].toArray _)).alloc (.cells [.bool s4,.slice a4 n4 c4].toArray _)=u4 at *
   have V1:=(V1.kept hk1).kept hk2
   have V2:=(V2.kept hk1).kept hk2
   have V3:=hv1.kept hk2
   have V4:=hv2.kept hk2
   have B1:=(B1.kept hk1).kept hk2
   have B2:=(B2.kept hk1).kept hk2
   have hk:=Kept.comp _ _ _ hk hk2
   generalize u1.heap.size=z1 at *
   generalize u3.heap.size=z3 at *
   clear hv1 hv2 hk2 hk1 HP2
   refine aj 11 [.is (.agg #[.bool s1,.slice a1 n1 c1]),.is (.agg #[.bool s4,.slice a4 n4 c4]),.int (a*d),.is (.agg #[.bool s3,.slice a3 n3 c3]),.is (.agg #[.bool s2,.slice a2 n2 c2]),.int (c*b),.int (a*d+c*b),.is (.agg #[.bool s2,.slice a2 n2 c2]),.is (.agg #[.bool s4,.slice a4 n4 c4]),.int (b*d),.says (fun _ v=>∃ u:ByteArray,v=.string u∧aG u z)] [0,1,2,3,4,5,6,7,8,9,10] (by kernel_rfl) (by kernel_rfl) (by kernel_rfl) (by kernel_rfl) (by kernel_rfl) (by kernel_rfl) (by intro f;simp only[laid,List.foldl_cons,List.foldl_nil,List.getElem?_toArray,K9,K8,Option.bind_some,Act.put,List.setIfInBounds_toArray,List.set_cons_zero,List.set_cons_succ];rfl) ?_ ?_
   ·intro i o him ho f wi hki hdep
    have k10:=(B1.kept hki).cell 0 rfl
    have k11:=(B1.kept hki).cell 1 rfl
    have k20:=(B2.kept hki).cell 0 rfl
    have k21:=(B2.kept hki).cell 1 rfl
    have k30:=(B3.kept hki).cell 0 rfl
    have k31:=(B3.kept hki).cell 1 rfl
    have k40:=(B4.kept hki).cell 0 rfl
    have k41:=(B4.kept hki).cell 1 rfl
    rcases i with _|_|_|_|_|_|_|_|_|_|_|i
    ·cases so ho
     refine ae.value (.agg #[.bool s1,.slice a1 n1 c1]) ?_ (aa rfl)
     go_simp
    ·cases so ho
     refine ae.value (.agg #[.bool s4,.slice a4 n4 c4]) ?_ (aa rfl)
     go_simp
    ·cases so ho
     have d0:=hdep ⟨0,.data⟩ (by simp) rfl
     have d1:=hdep ⟨1,.data⟩ (by simp) rfl
     simp only[af,K9,K8] at d0 d1
     refine ae.call 117 #[.agg #[.bool s1,.slice a1 n1 c1],.agg #[.bool s4,.slice a4 n4 c4]] (by go_simp) ((M1.out _ _ wi (V1.kept hki) (V4.kept hki)).mono ?_)
     rintro e w7 ⟨v,rfl,hv,hk7⟩
     exact⟨v,rfl,hv,hk7⟩
    ·cases so ho
     refine ae.value (.agg #[.bool s3,.slice a3 n3 c3]) ?_ (aa rfl)
     go_simp
    ·cases so ho
     refine ae.value (.agg #[.bool s2,.slice a2 n2 c2]) ?_ (aa rfl)
     go_simp
    ·cases so ho
     have d3:=hdep ⟨3,.data⟩ (by simp) rfl
     have d4:=hdep ⟨4,.data⟩ (by simp) rfl
     simp only[af,K9,K8] at d3 d4
     refine ae.call 117 #[.agg #[.bool s3,.slice a3 n3 c3],.agg #[.bool s2,.slice a2 n2 c2]] (by go_simp) ((M2.out _ _ wi (V3.kept hki) (V2.kept hki)).mono ?_)
     rintro e w7 ⟨v,rfl,hv,hk7⟩
     exact⟨v,rfl,hv,hk7⟩
    ·cases so ho
     have d2:=hdep ⟨2,.data⟩ (by simp) rfl
     have d5:=hdep ⟨5,.data⟩ (by simp) rfl
     simp only[af,K9,K8] at d2 d5
     refine ae.call 171 #[f 2,f 5] (by go_simp) ((M4.out _ _ wi d2 d5).mono ?_)
     rintro e w7 ⟨v,rfl,hv,hk7⟩
     exact⟨v,rfl,hv,hk7⟩
    ·cases so ho
     refine ae.value (.agg #[.bool s2,.slice a2 n2 c2]) ?_ (aa rfl)
     go_simp
    ·cases so ho
     refine ae.value (.agg #[.bool s4,.slice a4 n4 c4]) ?_ (aa rfl)
     go_simp
    ·cases so ho
     have d7:=hdep ⟨7,.data⟩ (by simp) rfl
     have d8:=hdep ⟨8,.data⟩ (by simp) rfl
     simp only[af,K9,K8] at d7 d8
     refine ae.call 117 #[.agg #[.bool s2,.slice a2 n2 c2],.agg #[.bool s4,.slice a4 n4 c4]] (by go_simp) ((M3.out _ _ wi (V2.kept hki) (V4.kept hki)).mono ?_)
     rintro e w7 ⟨v,rfl,hv,hk7⟩
     exact⟨v,rfl,hv,hk7⟩
    ·cases so ho
     have d6:=hdep ⟨6,.data⟩ (by simp) rfl
     have d9:=hdep ⟨9,.data⟩ (by simp) rfl
     simp only[af,K9,K8] at d6 d9
     refine ae.call 116 #[f 6,f 9] (by go_simp) ((M5.out _ _ wi d6 d9).mono ?_)
     rintro e w7 ⟨u,rfl,hu,hk7⟩
     exact⟨_,rfl,fun w8 _=>⟨u,rfl,hu⟩,hk7⟩
    ·omega
   ·intro f wi hki hall
    obtain⟨u,he,hu⟩:=hall 10 (by decide) wi (Kept.rfl' _)
    simp only[List.drop_succ_cons,List.drop_zero]
    rw[he]
    have hk:=Kept.comp _ _ _ hk hki
    have HU:=K7 hu
    clear hall hu V1 V2 V3 V4 B1 B2 B3 B4
    go_wp2
    go_ret
    exact⟨_,rfl,HU.out,hk⟩
 ·go_wp2_with fail
  refine (HQ2.out _).mono ?_
  rintro e w2 ⟨⟨rfl,h2⟩|rfl,q2,rfl⟩
  ·clear h2
   clear HQ1 HQ2 HO HW
   go_wp2_with fail
   have hk:=ar (Below.refl _ w) (q+q2)
   generalize w.drewN (q+q2)=u0 at *
   refine (HP1.out _).mono ?_
   rintro e u1 ⟨v1,v2,rfl,hv1,hv2,hk1⟩
   have hk:=Kept.comp _ _ _ hk hk1
   obtain⟨s1,a1,n1,c1,rfl⟩:=aM hv1
   obtain⟨s2,a2,n2,c2,rfl⟩:=aM hv2
   obtain⟨hk2,B1,B2⟩:=bp u1 [.bool s1,.slice a1 n1 c1] [.bool s2,.slice a2 n2 c2] 117 117
   clear HP1 hk1
   go_wp2_with fail
   generalize (u1.alloc (.cells [.bool s1,.slice a1 n1 c1].toArray _)).alloc (.cells [.bool s2,.slice a2 n2 c2].toArray _)=u2 at *
   have V1:=hv1.kept hk2
   have V2:=hv2.kept hk2
   have hk:=Kept.comp _ _ _ hk hk2
   clear hv1 hv2 hk2
   refine (HP2.out _).mono ?_
   rintro e u3 ⟨v1,v2,rfl,hv1,hv2,hk1⟩
   have hk:=Kept.comp _ _ _ hk hk1
   obtain⟨s3,a3,n3,c3,rfl⟩:=aM hv1
   obtain⟨s4,a4,n4,c4,rfl⟩:=aM hv2
   obtain⟨hk2,B3,B4⟩:=bp u3 [.bool s3,.slice a3 n3 c3] [.bool s4,.slice a4 n4 c4] 117 117
   go_wp2_with fail
   generalize (u3.alloc (.cells [.bool s3,.slice a3 n3 c3].toArray _)).alloc (.cells [.bool s4,.slice a4 n4 c4].toArray _)=u4 at *
   have V1:=(V1.kept hk1).kept hk2
   have V2:=(V2.kept hk1).kept hk2
   have V3:=hv1.kept hk2
   have V4:=hv2.kept hk2
   have B1:=(B1.kept hk1).kept hk2
   have B2:=(B2.kept hk1).kept hk2
   have hk:=Kept.comp _ _ _ hk hk2
   generalize u1.heap.size=z1 at *
   generalize u3.heap.size=z3 at *
   clear hv1 hv2 hk2 hk1 HP2
   refine aj 11 [.is (.agg #[.bool s1,.slice a1 n1 c1]),.is (.agg #[.bool s4,.slice a4 n4 c4]),.int (a*d),.is (.agg #[.bool s3,.slice a3 n3 c3]),.is (.agg #[.bool s2,.slice a2 n2 c2]),.int (c*b),.int (a*d+c*b),.is (.agg #[.bool s2,.slice a2 n2 c2]),.is (.agg #[.bool s4,.slice a4 n4 c4]),.int (b*d),.says (fun _ v=>∃ u:ByteArray,v=.string u∧aG u z)] [0,1,2,3,4,5,6,7,8,9,10] (by kernel_rfl) (by kernel_rfl) (by kernel_rfl) (by kernel_rfl) (by kernel_rfl) (by kernel_rfl) (by intro f;simp only[laid,List.foldl_cons,List.foldl_nil,List.getElem?_toArray,K9,K8,Option.bind_some,Act.put,List.setIfInBounds_toArray,List.set_cons_zero,List.set_cons_succ];rfl) ?_ ?_
   ·intro i o him ho f wi hki hdep
    have k10:=(B1.kept hki).cell 0 rfl
    have k11:=(B1.kept hki).cell 1 rfl
    have k20:=(B2.kept hki).cell 0 rfl
    have k21:=(B2.kept hki).cell 1 rfl
    have k30:=(B3.kept hki).cell 0 rfl
    have k31:=(B3.kept hki).cell 1 rfl
    have k40:=(B4.kept hki).cell 0 rfl
    have k41:=(B4.kept hki).cell 1 rfl
    rcases i with _|_|_|_|_|_|_|_|_|_|_|i
    ·cases so ho
     refine ae.value (.agg #[.bool s1,.slice a1 n1 c1]) ?_ (aa rfl)
     go_simp
    ·cases so ho
     refine ae.value (.agg #[.bool s4,.slice a4 n4 c4]) ?_ (aa rfl)
     go_simp
    ·cases so ho
     have d0:=hdep ⟨0,.data⟩ (by simp) rfl
     have d1:=hdep ⟨1,.data⟩ (by simp) rfl
     simp only[af,K9,K8] at d0 d1
     refine ae.call 117 #[.agg #[.bool s1,.slice a1 n1 c1],.agg #[.bool s4,.slice a4 n4 c4]] (by go_simp) ((M1.out _ _ wi (V1.kept hki) (V4.kept hki)).mono ?_)
     rintro e w7 ⟨v,rfl,hv,hk7⟩
     exact⟨v,rfl,hv,hk7⟩
    ·cases so ho
     refine ae.value (.agg #[.bool s3,.slice a3 n3 c3]) ?_ (aa rfl)
     go_simp
    ·cases so ho
     refine ae.value (.agg #[.bool s2,.slice a2 n2 c2]) ?_ (aa rfl)
     go_simp
    ·cases so ho
     have d3:=hdep ⟨3,.data⟩ (by simp) rfl
     have d4:=hdep ⟨4,.data⟩ (by simp) rfl
     simp only[af,K9,K8] at d3 d4
     refine ae.call 117 #[.agg #[.bool s3,.slice a3 n3 c3],.agg #[.bool s2,.slice a2 n2 c2]] (by go_simp) ((M2.out _ _ wi (V3.kept hki) (V2.kept hki)).mono ?_)
     rintro e w7 ⟨v,rfl,hv,hk7⟩
     exact⟨v,rfl,hv,hk7⟩
    ·cases so ho
     have d2:=hdep ⟨2,.data⟩ (by simp) rfl
     have d5:=hdep ⟨5,.data⟩ (by simp) rfl
     simp only[af,K9,K8] at d2 d5
     refine ae.call 171 #[f 2,f 5] (by go_simp) ((M4.out _ _ wi d2 d5).mono ?_)
     rintro e w7 ⟨v,rfl,hv,hk7⟩
     exact⟨v,rfl,hv,hk7⟩
    ·cases so ho
     refine ae.value (.agg #[.bool s2,.slice a2 n2 c2]) ?_ (aa rfl)
     go_simp
    ·cases so ho
     refine ae.value (.agg #[.bool s4,.slice a4 n4 c4]) ?_ (aa rfl)
     go_simp
    ·cases so ho
     have d7:=hdep ⟨7,.data⟩ (by simp) rfl
     have d8:=hdep ⟨8,.data⟩ (by simp) rfl
     simp only[af,K9,K8] at d7 d8
     refine ae.call 117 #[.agg #[.bool s2,.slice a2 n2 c2],.agg #[.bool s4,.slice a4 n4 c4]] (by go_simp) ((M3.out _ _ wi (V2.kept hki) (V4.kept hki)).mono ?_)
     rintro e w7 ⟨v,rfl,hv,hk7⟩
     exact⟨v,rfl,hv,hk7⟩
    ·cases so ho
     have d6:=hdep ⟨6,.data⟩ (by simp) rfl
     have d9:=hdep ⟨9,.data⟩ (by simp) rfl
     simp only[af,K9,K8] at d6 d9
     refine ae.call 116 #[f 6,f 9] (by go_simp) ((M5.out _ _ wi d6 d9).mono ?_)
     rintro e w7 ⟨u,rfl,hu,hk7⟩
     exact⟨_,rfl,fun w8 _=>⟨u,rfl,hu⟩,hk7⟩
    ·omega
   ·intro f wi hki hall
    obtain⟨u,he,hu⟩:=hall 10 (by decide) wi (Kept.rfl' _)
    simp only[List.drop_succ_cons,List.drop_zero]
    rw[he]
    have hk:=Kept.comp _ _ _ hk hki
    have HU:=K7 hu
    clear hall hu V1 V2 V3 V4 B1 B2 B3 B4
    go_wp2
    go_ret
    exact⟨_,rfl,HU.out,hk⟩
  ·have hz:=trivial
   clear HQ1 HQ2 HO HW
   go_wp2_with fail
   have hk:=ar (Below.refl _ w) (q+q2)
   generalize w.drewN (q+q2)=u0 at *
   refine (HP1.out _).mono ?_
   rintro e u1 ⟨v1,v2,rfl,hv1,hv2,hk1⟩
   have hk:=Kept.comp _ _ _ hk hk1
   obtain⟨s1,a1,n1,c1,rfl⟩:=aM hv1
   obtain⟨s2,a2,n2,c2,rfl⟩:=aM hv2
   obtain⟨hk2,B1,B2⟩:=bp u1 [.bool s1,.slice a1 n1 c1] [.bool s2,.slice a2 n2 c2] 117 117
   clear HP1 hk1
   go_wp2_with fail
   generalize (u1.alloc (.cells [.bool s1,.slice a1 n1 c1].toArray _)).alloc (.cells [.bool s2,.slice a2 n2 c2].toArray _)=u2 at *
   have V1:=hv1.kept hk2
   have V2:=hv2.kept hk2
   have hk:=Kept.comp _ _ _ hk hk2
   clear hv1 hv2 hk2
   refine (HP2.out _).mono ?_
   rintro e u3 ⟨v1,v2,rfl,hv1,hv2,hk1⟩
   have hk:=Kept.comp _ _ _ hk hk1
   obtain⟨s3,a3,n3,c3,rfl⟩:=aM hv1
   obtain⟨s4,a4,n4,c4,rfl⟩:=aM hv2
   obtain⟨hk2,B3,B4⟩:=bp u3 [.bool s3,.slice a3 n3 c3] [.bool s4,.slice a4 n4 c4] 117 117
   go_wp2_with fail
   generalize (u3.alloc (.cells [.bool s3,.slice a3 n3 c3].toArray _)).alloc (.cells [.bool s4,.slice a4 n4 c4].toArray _)=u4 at *
   have V1:=(V1.kept hk1).kept hk2
   have V2:=(V2.kept hk1).kept hk2
   have V3:=hv1.kept hk2
   have V4:=hv2.kept hk2
   have B1:=(B1.kept hk1).kept hk2
   have B2:=(B2.kept hk1).kept hk2
   have hk:=Kept.comp _ _ _ hk hk2
   generalize u1.heap.size=z1 at *
   generalize u3.heap.size=z3 at *
   clear hv1 hv2 hk2 hk1 HP2
   refine aj 11 [.is (.agg #[.bool s1,.slice a1 n1 c1]),.is (.agg #[.bool s4,.slice a4 n4 c4]),.int (a*d),.is (.agg #[.bool s3,.slice a3 n3 c3]),.is (.agg #[.bool s2,.slice a2 n2 c2]),.int (c*b),.int (a*d+c*b),.is (.agg #[.bool s2,.slice a2 n2 c2]),.is (.agg #[.bool s4,.slice a4 n4 c4]),.int (b*d),.says (fun _ v=>∃ u:ByteArray,v=.string u∧aG u z)] [0,1,2,3,4,5,6,7,8,9,10] (by kernel_rfl) (by kernel_rfl) (by kernel_rfl) (by kernel_rfl) (by kernel_rfl) (by kernel_rfl) (by intro f;simp only[laid,List.foldl_cons,List.foldl_nil,List.getElem?_toArray,K9,K8,Option.bind_some,Act.put,List.setIfInBounds_toArray,List.set_cons_zero,List.set_cons_succ];rfl) ?_ ?_
   ·intro i o him ho f wi hki hdep
    have k10:=(B1.kept hki).cell 0 rfl
    have k11:=(B1.kept hki).cell 1 rfl
    have k20:=(B2.kept hki).cell 0 rfl
    have k21:=(B2.kept hki).cell 1 rfl
    have k30:=(B3.kept hki).cell 0 rfl
    have k31:=(B3.kept hki).cell 1 rfl
    have k40:=(B4.kept hki).cell 0 rfl
    have k41:=(B4.kept hki).cell 1 rfl
    rcases i with _|_|_|_|_|_|_|_|_|_|_|i
    ·cases so ho
     refine ae.value (.agg #[.bool s1,.slice a1 n1 c1]) ?_ (aa rfl)
     go_simp
    ·cases so ho
     refine ae.value (.agg #[.bool s4,.slice a4 n4 c4]) ?_ (aa rfl)
     go_simp
    ·cases so ho
     have d0:=hdep ⟨0,.data⟩ (by simp) rfl
     have d1:=hdep ⟨1,.data⟩ (by simp) rfl
     simp only[af,K9,K8] at d0 d1
     refine ae.call 117 #[.agg #[.bool s1,.slice a1 n1 c1],.agg #[.bool s4,.slice a4 n4 c4]] (by go_simp) ((M1.out _ _ wi (V1.kept hki) (V4.kept hki)).mono ?_)
     rintro e w7 ⟨v,rfl,hv,hk7⟩
     exact⟨v,rfl,hv,hk7⟩
    ·cases so ho
     refine ae.value (.agg #[.bool s3,.slice a3 n3 c3]) ?_ (aa rfl)
     go_simp
    ·cases so ho
     refine ae.value (.agg #[.bool s2,.slice a2 n2 c2]) ?_ (aa rfl)
     go_simp
    ·cases so ho
     have d3:=hdep ⟨3,.data⟩ (by simp) rfl
     have d4:=hdep ⟨4,.data⟩ (by simp) rfl
     simp only[af,K9,K8] at d3 d4
     refine ae.call 117 #[.agg #[.bool s3,.slice a3 n3 c3],.agg #[.bool s2,.slice a2 n2 c2]] (by go_simp) ((M2.out _ _ wi (V3.kept hki) (V2.kept hki)).mono ?_)
     rintro e w7 ⟨v,rfl,hv,hk7⟩
     exact⟨v,rfl,hv,hk7⟩
    ·cases so ho
     have d2:=hdep ⟨2,.data⟩ (by simp) rfl
     have d5:=hdep ⟨5,.data⟩ (by simp) rfl
     simp only[af,K9,K8] at d2 d5
     refine ae.call 171 #[f 2,f 5] (by go_simp) ((M4.out _ _ wi d2 d5).mono ?_)
     rintro e w7 ⟨v,rfl,hv,hk7⟩
     exact⟨v,rfl,hv,hk7⟩
    ·cases so ho
     refine ae.value (.agg #[.bool s2,.slice a2 n2 c2]) ?_ (aa rfl)
     go_simp
    ·cases so ho
     refine ae.value (.agg #[.bool s4,.slice a4 n4 c4]) ?_ (aa rfl)
     go_simp
    ·cases so ho
     have d7:=hdep ⟨7,.data⟩ (by simp) rfl
     have d8:=hdep ⟨8,.data⟩ (by simp) rfl
     simp only[af,K9,K8] at d7 d8
     refine ae.call 117 #[.agg #[.bool s2,.slice a2 n2 c2],.agg #[.bool s4,.slice a4 n4 c4]] (by go_simp) ((M3.out _ _ wi (V2.kept hki) (V4.kept hki)).mono ?_)
     rintro e w7 ⟨v,rfl,hv,hk7⟩
     exact⟨v,rfl,hv,hk7⟩
    ·cases so ho
     have d6:=hdep ⟨6,.data⟩ (by simp) rfl
     have d9:=hdep ⟨9,.data⟩ (by simp) rfl
     simp only[af,K9,K8] at d6 d9
     refine ae.call 116 #[f 6,f 9] (by go_simp) ((M5.out _ _ wi d6 d9).mono ?_)
     rintro e w7 ⟨u,rfl,hu,hk7⟩
     exact⟨_,rfl,fun w8 _=>⟨u,rfl,hu⟩,hk7⟩
    ·omega
   ·intro f wi hki hall
    obtain⟨u,he,hu⟩:=hall 10 (by decide) wi (Kept.rfl' _)
    simp only[List.drop_succ_cons,List.drop_zero]
    rw[he]
    have hk:=Kept.comp _ _ _ hk hki
    have HU:=K7 hu
    clear hall hu V1 V2 V3 V4 B1 B2 B3 B4
    go_wp2
    go_ret
    exact⟨_,rfl,HU.out,hk⟩
theorem BQ (s t:ByteArray) (x y:Rat) (k l:Nat) (w:World) (hx:aG s x) (hy:aG t y) (bx:Bd x k) (bl:Bd y l) (hk:k≤1000000) (hl:l≤1000000) :
  Calls Tryz.prog 44 #[.string s,.string t] w fun e w'=>∃ u:ByteArray,e=.returned (.string u)∧aG u (x*y)∧Kept w w':=by
 have HQ1:=K7 fun w'=>iK s x w' hx
 have HQ2:=K7 fun w'=>iK t y w' hy
 have HP1:=K7 fun w'=>ib s x w' hx (by rw[hx.size];have:=gC bx;omega)
 have HP2:=K7 fun w'=>ib t y w' hy (by rw[hy.size];have:=gC bl;omega)
 have hdd:=den_mul x y
 have hrat:=vI x y
 have e1:=bx.1
 have e2:=pU bx.2
 have e3:=bl.1
 have e4:=pU bl.2
 clear hx hy bx bl
 obtain⟨z,hz⟩:∃ z,x*y=z:=⟨_,rfl⟩
 rw[hz] at hrat
 generalize x.num=a at *
 generalize (x.den:Int)=b at *
 generalize y.num=c at *
 generalize (y.den:Int)=d at *
 rw[hz]
 clear hz
 have HO:Hid (Small a b→Small c d→∀ w',Calls Tryz.prog 115 #[.int .i64 (a*c),.int .i64 (b*d)] w' fun e w2=>∃ u:ByteArray,e=.returned (.string u)∧aG u z∧Kept w' w2):=K7 fun h1 h2 w'=>by
  have m1:=fg (a:=a) (b:=c) h1.1 h2.1
  have m2:=fg (a:=c) (b:=b) h2.1 h1.2
  have m3:=fg (a:=b) (b:=d) h1.2 h2.2
  have:=jg (a*c) (b*d) w' hdd (by omega) (by omega)
  rwa [hrat] at this
 have HW:Hid (Small a b→Small c d→wrap64 (a*c)=a*c∧wrap64 (b*d)=b*d):=K7 fun h1 h2=>by
  have m1:=fg (a:=a) (b:=c) h1.1 h2.1
  have m2:=fg (a:=c) (b:=b) h2.1 h1.2
  have m3:=fg (a:=b) (b:=d) h1.2 h2.2
  exact⟨jV (by omega),jV (by omega)⟩
 have M1:=K7 fun va vb w' h1 h2=>dJ va vb a c w' h1 h2 (Nat.le_trans (bt e1) (by omega)) (Nat.le_trans (bt e3) (by omega)) (Nat.le_trans (bt (bN e1 e3)) (by omega))
 have M3:=K7 fun va vb w' h1 h2=>dJ va vb b d w' h1 h2 (Nat.le_trans (bt e2) (by omega)) (Nat.le_trans (bt e4) (by omega)) (Nat.le_trans (bt (bN e2 e4)) (by omega))
 have M5:Hid (∀ va vb w',Big w' va (a*c)→Big w' vb (b*d)→Calls Tryz.prog 116 #[va,vb] w' fun e w2=>∃ u:ByteArray,e=.returned (.string u)∧aG u z∧Kept w' w2):=K7 fun va vb w' h1 h2=>by
  have:=fm va vb (a*c) (b*d) w' h1 h2 hdd (Nat.le_trans (bt (bN e1 e3)) (by omega)) (Nat.le_trans (bt (bN e2 e4)) (by omega))
  rwa [hrat] at this
 clear hk hl e1 e2 e3 e4 hdd hrat
 go_enter Tryz.func44,Tryz.ntmps44
 go_wp2_with fail
 refine (HQ1.out _).mono ?_
 rintro e w2 ⟨⟨rfl,h1⟩|rfl,q,rfl⟩
 ·go_wp2_with fail
  refine (HQ2.out _).mono ?_
  rintro e w2 ⟨⟨rfl,h2⟩|rfl,q2,rfl⟩
  ·obtain⟨y1,y4⟩:=HW.out h1 h2
   have HO:=K7 (HO.out h1 h2)
   clear HP1 HP2 M1 M3 M5 HQ1 HQ2 HW
   go_wp2_with fail
   refine (HO.out _).mono ?_
   rintro e w3 ⟨u,rfl,hu,hk1⟩
   have hk:=Kept.comp _ _ _ (ar (Below.refl _ w) (q+q2)) hk1
   have HU:=K7 hu
   clear HO hu hk1
   go_wp2
   go_ret
   exact⟨_,rfl,HU.out,hk⟩
  ·clear h1
   clear HQ1 HQ2 HO HW
   go_wp2_with fail
   have hk:=ar (Below.refl _ w) (q+q2)
   generalize w.drewN (q+q2)=u0 at *
   refine (HP1.out _).mono ?_
   rintro e u1 ⟨v1,v2,rfl,hv1,hv2,hk1⟩
   have hk:=Kept.comp _ _ _ hk hk1
   obtain⟨s1,a1,n1,c1,rfl⟩:=aM hv1
   obtain⟨s2,a2,n2,c2,rfl⟩:=aM hv2
   obtain⟨hk2,B1,B2⟩:=bp u1 [.bool s1,.slice a1 n1 c1] [.bool s2,.slice a2 n2 c2] 117 117
   clear HP1 hk1
   go_wp2_with fail
   generalize (u1.alloc (.cells [.bool s1,.slice a1 n1 c1].toArray _)).alloc (.cells [.bool s2,.slice a2 n2 c2].toArray _)=u2 at *
   have V1:=hv1.kept hk2
   have V2:=hv2.kept hk2
   have hk:=Kept.comp _ _ _ hk hk2
   clear hv1 hv2 hk2
   refine (HP2.out _).mono ?_
   rintro e u3 ⟨v1,v2,rfl,hv1,hv2,hk1⟩
   have hk:=Kept.comp _ _ _ hk hk1
   obtain⟨s3,a3,n3,c3,rfl⟩:=aM hv1
   obtain⟨s4,a4,n4,c4,rfl⟩:=aM hv2
   obtain⟨hk2,B3,B4⟩:=bp u3 [.bool s3,.slice a3 n3 c3] [.bool s4,.slice a4 n4 c4] 117 117
   go_wp2_with fail
   generalize (u3.alloc (.cells [.bool s3,.slice a3 n3 c3].toArray _)).alloc (.cells [.bool s4,.slice a4 n4 c4].toArray _)=u4 at *
   have V1:=(V1.kept hk1).kept hk2
   have V2:=(V2.kept hk1).kept hk2
   have V3:=hv1.kept hk2
   have V4:=hv2.kept hk2
   have B1:=(B1.kept hk1).kept hk2
   have B2:=(B2.kept hk1).kept hk2
   have hk:=Kept.comp _ _ _ hk hk2
   generalize u1.heap.size=z1 at *
   generalize u3.heap.size=z3 at *
   clear hv1 hv2 hk2 hk1 HP2
   refine aj 7 [.is (.agg #[.bool s1,.slice a1 n1 c1]),.is (.agg #[.bool s3,.slice a3 n3 c3]),.int (a*c),.is (.agg #[.bool s2,.slice a2 n2 c2]),.is (.agg #[.bool s4,.slice a4 n4 c4]),.int (b*d),.says (fun _ v=>∃ u:ByteArray,v=.string u∧aG u z)] [0,1,2,3,4,5,6] (by kernel_rfl) (by kernel_rfl) (by kernel_rfl) (by kernel_rfl) (by kernel_rfl) (by kernel_rfl) (by intro f;simp only[laid,List.foldl_cons,List.foldl_nil,List.getElem?_toArray,K9,K8,Option.bind_some,Act.put,List.setIfInBounds_toArray,List.set_cons_zero,List.set_cons_succ];rfl) ?_ ?_
   ·intro i o him ho f wi hki hdep
    have k10:=(B1.kept hki).cell 0 rfl
    have k11:=(B1.kept hki).cell 1 rfl
    have k20:=(B2.kept hki).cell 0 rfl
    have k21:=(B2.kept hki).cell 1 rfl
    have k30:=(B3.kept hki).cell 0 rfl
    have k31:=(B3.kept hki).cell 1 rfl
    have k40:=(B4.kept hki).cell 0 rfl
    have k41:=(B4.kept hki).cell 1 rfl
    rcases i with _|_|_|_|_|_|_|i
    ·cases so ho
     refine ae.value (.agg #[.bool s1,.slice a1 n1 c1]) ?_ (aa rfl)
     go_simp
    ·cases so ho
     refine ae.value (.agg #[.bool s3,.slice a3 n3 c3]) ?_ (aa rfl)
     go_simp
    ·cases so ho
     have d0:=hdep ⟨0,.data⟩ (by simp) rfl
     have d1:=hdep ⟨1,.data⟩ (by simp) rfl
     simp only[af,K9,K8] at d0 d1
     refine ae.call 117 #[.agg #[.bool s1,.slice a1 n1 c1],.agg #[.bool s3,.slice a3 n3 c3]] (by go_simp) ((M1.out _ _ wi (V1.kept hki) (V3.kept hki)).mono ?_)
     rintro e w7 ⟨v,rfl,hv,hk7⟩
     exact⟨v,rfl,hv,hk7⟩
    ·cases so ho
     refine ae.value (.agg #[.bool s2,.slice a2 n2 c2]) ?_ (aa rfl)
     go_simp
    ·cases so ho
     refine ae.value (.agg #[.bool s4,.slice a4 n4 c4]) ?_ (aa rfl)
     go_simp
    ·cases so ho
     have d3:=hdep ⟨3,.data⟩ (by simp) rfl
     have d4:=hdep ⟨4,.data⟩ (by simp) rfl
     simp only[af,K9,K8] at d3 d4
     refine ae.call 117 #[.agg #[.bool s2,.slice a2 n2 c2],.agg #[.bool s4,.slice a4 n4 c4]] (by go_simp) ((M3.out _ _ wi (V2.kept hki) (V4.kept hki)).mono ?_)
     rintro e w7 ⟨v,rfl,hv,hk7⟩
     exact⟨v,rfl,hv,hk7⟩
    ·cases so ho
     have d2:=hdep ⟨2,.data⟩ (by simp) rfl
     have d5:=hdep ⟨5,.data⟩ (by simp) rfl
     simp only[af,K9,K8] at d2 d5
     refine ae.call 116 #[f 2,f 5] (by go_simp) ((M5.out _ _ wi d2 d5).mono ?_)
     rintro e w7 ⟨u,rfl,hu,hk7⟩
     exact⟨_,rfl,fun w8 _=>⟨u,rfl,hu⟩,hk7⟩
    ·omega
   ·intro f wi hki hall
    obtain⟨u,he,hu⟩:=hall 6 (by decide) wi (Kept.rfl' _)
    simp only[List.drop_succ_cons,List.drop_zero]
    rw[he]
    have hk:=Kept.comp _ _ _ hk hki
    have HU:=K7 hu
    clear hall hu V1 V2 V3 V4 B1 B2 B3 B4
    go_wp2
    go_ret
    exact⟨_,rfl,HU.out,hk⟩
 ·go_wp2_with fail
  refine (HQ2.out _).mono ?_
  rintro e w2 ⟨⟨rfl,h2⟩|rfl,q2,rfl⟩
  ·clear h2
   clear HQ1 HQ2 HO HW
   go_wp2_with fail
   have hk:=ar (Below.refl _ w) (q+q2)
   generalize w.drewN (q+q2)=u0 at *
   refine (HP1.out _).mono ?_
   rintro e u1 ⟨v1,v2,rfl,hv1,hv2,hk1⟩
   have hk:=Kept.comp _ _ _ hk hk1
   obtain⟨s1,a1,n1,c1,rfl⟩:=aM hv1
   obtain⟨s2,a2,n2,c2,rfl⟩:=aM hv2
   obtain⟨hk2,B1,B2⟩:=bp u1 [.bool s1,.slice a1 n1 c1] [.bool s2,.slice a2 n2 c2] 117 117
   clear HP1 hk1
   go_wp2_with fail
   generalize (u1.alloc (.cells [.bool s1,.slice a1 n1 c1].toArray _)).alloc (.cells [.bool s2,.slice a2 n2 c2].toArray _)=u2 at *
   have V1:=hv1.kept hk2
   have V2:=hv2.kept hk2
   have hk:=Kept.comp _ _ _ hk hk2
   clear hv1 hv2 hk2
   refine (HP2.out _).mono ?_
   rintro e u3 ⟨v1,v2,rfl,hv1,hv2,hk1⟩
   have hk:=Kept.comp _ _ _ hk hk1
   obtain⟨s3,a3,n3,c3,rfl⟩:=aM hv1
   obtain⟨s4,a4,n4,c4,rfl⟩:=aM hv2
   obtain⟨hk2,B3,B4⟩:=bp u3 [.bool s3,.slice a3 n3 c3] [.bool s4,.slice a4 n4 c4] 117 117
   go_wp2_with fail
   generalize (u3.alloc (.cells [.bool s3,.slice a3 n3 c3].toArray _)).alloc (.cells [.bool s4,.slice a4 n4 c4].toArray _)=u4 at *
   have V1:=(V1.kept hk1).kept hk2
   have V2:=(V2.kept hk1).kept hk2
   have V3:=hv1.kept hk2
   have V4:=hv2.kept hk2
   have B1:=(B1.kept hk1).kept hk2
   have B2:=(B2.kept hk1).kept hk2
   have hk:=Kept.comp _ _ _ hk hk2
   generalize u1.heap.size=z1 at *
   generalize u3.heap.size=z3 at *
   clear hv1 hv2 hk2 hk1 HP2
   refine aj 7 [.is (.agg #[.bool s1,.slice a1 n1 c1]),.is (.agg #[.bool s3,.slice a3 n3 c3]),.int (a*c),.is (.agg #[.bool s2,.slice a2 n2 c2]),.is (.agg #[.bool s4,.slice a4 n4 c4]),.int (b*d),.says (fun _ v=>∃ u:ByteArray,v=.string u∧aG u z)] [0,1,2,3,4,5,6] (by kernel_rfl) (by kernel_rfl) (by kernel_rfl) (by kernel_rfl) (by kernel_rfl) (by kernel_rfl) (by intro f;simp only[laid,List.foldl_cons,List.foldl_nil,List.getElem?_toArray,K9,K8,Option.bind_some,Act.put,List.setIfInBounds_toArray,List.set_cons_zero,List.set_cons_succ];rfl) ?_ ?_
   ·intro i o him ho f wi hki hdep
    have k10:=(B1.kept hki).cell 0 rfl
    have k11:=(B1.kept hki).cell 1 rfl
    have k20:=(B2.kept hki).cell 0 rfl
    have k21:=(B2.kept hki).cell 1 rfl
    have k30:=(B3.kept hki).cell 0 rfl
    have k31:=(B3.kept hki).cell 1 rfl
    have k40:=(B4.kept hki).cell 0 rfl
    have k41:=(B4.kept hki).cell 1 rfl
    rcases i with _|_|_|_|_|_|_|i
    ·cases so ho
     refine ae.value (.agg #[.bool s1,.slice a1 n1 c1]) ?_ (aa rfl)
     go_simp
    ·cases so ho
     refine ae.value (.agg #[.bool s3,.slice a3 n3 c3]) ?_ (aa rfl)
     go_simp
    ·cases so ho
     have d0:=hdep ⟨0,.data⟩ (by simp) rfl
     have d1:=hdep ⟨1,.data⟩ (by simp) rfl
     simp only[af,K9,K8] at d0 d1
     refine ae.call 117 #[.agg #[.bool s1,.slice a1 n1 c1],.agg #[.bool s3,.slice a3 n3 c3]] (by go_simp) ((M1.out _ _ wi (V1.kept hki) (V3.kept hki)).mono ?_)
     rintro e w7 ⟨v,rfl,hv,hk7⟩
     exact⟨v,rfl,hv,hk7⟩
    ·cases so ho
     refine ae.value (.agg #[.bool s2,.slice a2 n2 c2]) ?_ (aa rfl)
     go_simp
    ·cases so ho
     refine ae.value (.agg #[.bool s4,.slice a4 n4 c4]) ?_ (aa rfl)
     go_simp
    ·cases so ho
     have d3:=hdep ⟨3,.data⟩ (by simp) rfl
     have d4:=hdep ⟨4,.data⟩ (by simp) rfl
     simp only[af,K9,K8] at d3 d4
     refine ae.call 117 #[.agg #[.bool s2,.slice a2 n2 c2],.agg #[.bool s4,.slice a4 n4 c4]] (by go_simp) ((M3.out _ _ wi (V2.kept hki) (V4.kept hki)).mono ?_)
     rintro e w7 ⟨v,rfl,hv,hk7⟩
     exact⟨v,rfl,hv,hk7⟩
    ·cases so ho
     have d2:=hdep ⟨2,.data⟩ (by simp) rfl
     have d5:=hdep ⟨5,.data⟩ (by simp) rfl
     simp only[af,K9,K8] at d2 d5
     refine ae.call 116 #[f 2,f 5] (by go_simp) ((M5.out _ _ wi d2 d5).mono ?_)
     rintro e w7 ⟨u,rfl,hu,hk7⟩
     exact⟨_,rfl,fun w8 _=>⟨u,rfl,hu⟩,hk7⟩
    ·omega
   ·intro f wi hki hall
    obtain⟨u,he,hu⟩:=hall 6 (by decide) wi (Kept.rfl' _)
    simp only[List.drop_succ_cons,List.drop_zero]
    rw[he]
    have hk:=Kept.comp _ _ _ hk hki
    have HU:=K7 hu
    clear hall hu V1 V2 V3 V4 B1 B2 B3 B4
    go_wp2
    go_ret
    exact⟨_,rfl,HU.out,hk⟩
  ·have hz:=trivial
   clear HQ1 HQ2 HO HW
   go_wp2_with fail
   have hk:=ar (Below.refl _ w) (q+q2)
   generalize w.drewN (q+q2)=u0 at *
   refine (HP1.out _).mono ?_
   rintro e u1 ⟨v1,v2,rfl,hv1,hv2,hk1⟩
   have hk:=Kept.comp _ _ _ hk hk1
   obtain⟨s1,a1,n1,c1,rfl⟩:=aM hv1
   obtain⟨s2,a2,n2,c2,rfl⟩:=aM hv2
   obtain⟨hk2,B1,B2⟩:=bp u1 [.bool s1,.slice a1 n1 c1] [.bool s2,.slice a2 n2 c2] 117 117
   clear HP1 hk1
   go_wp2_with fail
   generalize (u1.alloc (.cells [.bool s1,.slice a1 n1 c1].toArray _)).alloc (.cells [.bool s2,.slice a2 n2 c2].toArray _)=u2 at *
   have V1:=hv1.kept hk2
   have V2:=hv2.kept hk2
   have hk:=Kept.comp _ _ _ hk hk2
   clear hv1 hv2 hk2
   refine (HP2.out _).mono ?_
   rintro e u3 ⟨v1,v2,rfl,hv1,hv2,hk1⟩
   have hk:=Kept.comp _ _ _ hk hk1
   obtain⟨s3,a3,n3,c3,rfl⟩:=aM hv1
   obtain⟨s4,a4,n4,c4,rfl⟩:=aM hv2
   obtain⟨hk2,B3,B4⟩:=bp u3 [.bool s3,.slice a3 n3 c3] [.bool s4,.slice a4 n4 c4] 117 117
   go_wp2_with fail
   generalize (u3.alloc (.cells [.bool s3,.slice a3 n3 c3].toArray _)).alloc (.cells [.bool s4,.slice a4 n4 c4].toArray _)=u4 at *
   have V1:=(V1.kept hk1).kept hk2
   have V2:=(V2.kept hk1).kept hk2
   have V3:=hv1.kept hk2
   have V4:=hv2.kept hk2
   have B1:=(B1.kept hk1).kept hk2
   have B2:=(B2.kept hk1).kept hk2
   have hk:=Kept.comp _ _ _ hk hk2
   generalize u1.heap.size=z1 at *
   generalize u3.heap.size=z3 at *
   clear hv1 hv2 hk2 hk1 HP2
   refine aj 7 [.is (.agg #[.bool s1,.slice a1 n1 c1]),.is (.agg #[.bool s3,.slice a3 n3 c3]),.int (a*c),.is (.agg #[.bool s2,.slice a2 n2 c2]),.is (.agg #[.bool s4,.slice a4 n4 c4]),.int (b*d),.says (fun _ v=>∃ u:ByteArray,v=.string u∧aG u z)] [0,1,2,3,4,5,6] (by kernel_rfl) (by kernel_rfl) (by kernel_rfl) (by kernel_rfl) (by kernel_rfl) (by kernel_rfl) (by intro f;simp only[laid,List.foldl_cons,List.foldl_nil,List.getElem?_toArray,K9,K8,Option.bind_some,Act.put,List.setIfInBounds_toArray,List.set_cons_zero,List.set_cons_succ];rfl) ?_ ?_
   ·intro i o him ho f wi hki hdep
    have k10:=(B1.kept hki).cell 0 rfl
    have k11:=(B1.kept hki).cell 1 rfl
    have k20:=(B2.kept hki).cell 0 rfl
    have k21:=(B2.kept hki).cell 1 rfl
    have k30:=(B3.kept hki).cell 0 rfl
    have k31:=(B3.kept hki).cell 1 rfl
    have k40:=(B4.kept hki).cell 0 rfl
    have k41:=(B4.kept hki).cell 1 rfl
    rcases i with _|_|_|_|_|_|_|i
    ·cases so ho
     refine ae.value (.agg #[.bool s1,.slice a1 n1 c1]) ?_ (aa rfl)
     go_simp
    ·cases so ho
     refine ae.value (.agg #[.bool s3,.slice a3 n3 c3]) ?_ (aa rfl)
     go_simp
    ·cases so ho
     have d0:=hdep ⟨0,.data⟩ (by simp) rfl
     have d1:=hdep ⟨1,.data⟩ (by simp) rfl
     simp only[af,K9,K8] at d0 d1
     refine ae.call 117 #[.agg #[.bool s1,.slice a1 n1 c1],.agg #[.bool s3,.slice a3 n3 c3]] (by go_simp) ((M1.out _ _ wi (V1.kept hki) (V3.kept hki)).mono ?_)
     rintro e w7 ⟨v,rfl,hv,hk7⟩
     exact⟨v,rfl,hv,hk7⟩
    ·cases so ho
     refine ae.value (.agg #[.bool s2,.slice a2 n2 c2]) ?_ (aa rfl)
     go_simp
    ·cases so ho
     refine ae.value (.agg #[.bool s4,.slice a4 n4 c4]) ?_ (aa rfl)
     go_simp
    ·cases so ho
     have d3:=hdep ⟨3,.data⟩ (by simp) rfl
     have d4:=hdep ⟨4,.data⟩ (by simp) rfl
     simp only[af,K9,K8] at d3 d4
     refine ae.call 117 #[.agg #[.bool s2,.slice a2 n2 c2],.agg #[.bool s4,.slice a4 n4 c4]] (by go_simp) ((M3.out _ _ wi (V2.kept hki) (V4.kept hki)).mono ?_)
     rintro e w7 ⟨v,rfl,hv,hk7⟩
     exact⟨v,rfl,hv,hk7⟩
    ·cases so ho
     have d2:=hdep ⟨2,.data⟩ (by simp) rfl
     have d5:=hdep ⟨5,.data⟩ (by simp) rfl
     simp only[af,K9,K8] at d2 d5
     refine ae.call 116 #[f 2,f 5] (by go_simp) ((M5.out _ _ wi d2 d5).mono ?_)
     rintro e w7 ⟨u,rfl,hu,hk7⟩
     exact⟨_,rfl,fun w8 _=>⟨u,rfl,hu⟩,hk7⟩
    ·omega
   ·intro f wi hki hall
    obtain⟨u,he,hu⟩:=hall 6 (by decide) wi (Kept.rfl' _)
    simp only[List.drop_succ_cons,List.drop_zero]
    rw[he]
    have hk:=Kept.comp _ _ _ hk hki
    have HU:=K7 hu
    clear hall hu V1 V2 V3 V4 B1 B2 B3 B4
    go_wp2
    go_ret
    exact⟨_,rfl,HU.out,hk⟩
end Go.Proofs.YtjbcmmaniphkkaaGreatDoor.D
