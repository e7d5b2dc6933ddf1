import Derived.Test.YtnjcdpfibmckmaaGreatDoorEc
set_option linter.unusedSectionVars false
set_option linter.unusedVariables false
set_option linter.unusedSimpArgs false
set_option maxRecDepth 100000
set_option maxHeartbeats 2000000
namespace Go.Proofs.YtnjcdpfibmckmaaGreatDoor.E
open Go.RowKit LimbNum
theorem tF (v1:Value) (x:Rat) (k:Nat) (w:World) (hx:Ex w v1 x) (bx:DigNum.Bd x k) (hkk:k≤1000000) :
  Calls Tryz.prog 59 #[v1] w fun e w'=>∃ v,e=.returned v∧Whole w' v x.floor∧Kept w w':=by
 have MB1:=Lib.hid fun v w' (h:Ex w' v x)=>px v x k w' h bx hkk
 have e1:=bx.1
 have e2:=DigNum.mI bx.2
 have M1:=Lib.hid fun va vb w' h1 h2=>py va vb x.num x.den w' h1 h2 (Nat.le_trans (cm e1) (by omega)) (Nat.le_trans (cm e2) (by omega))
 rw[show x.num.fdiv x.den=x.floor by rw[Rat.floor_def,Int.fdiv_eq_ediv_of_nonneg _ (by omega)]] at M1
 clear bx e1 e2 hkk
 obtain⟨s1,a1,n1,c1,s2,a2,n2,c2,rfl⟩:=fH hx
 have hx1:=hx.both.1
 generalize x.floor=z at *
 generalize x.num=a at *
 generalize (x.den:Int)=b at *
 obtain⟨hk,hB1,hB⟩:=bY w [.bool s1,.slice a1 n1 c1,.bool s2,.slice a2 n2 c2] fw 89 87
 go_enter Tryz.func59,Tryz.ntmps59
 have q1_0:=hB1.cell 0 rfl
 have q1_1:=hB1.cell 1 rfl
 have q1_2:=hB1.cell 2 rfl
 have q1_3:=hB1.cell 3 rfl
 go_wp2_with fail
 have hx:=hx.kept hk
 have hx1:=hx1.kept hk
 generalize (w.alloc (.cells [.bool s1,.slice a1 n1 c1,.bool s2,.slice a2 n2 c2].toArray _)).alloc (.cells fw.toArray _)=w2 at *
 have hz0:=Nat.le_refl w2.heap.size
 have lt1:=hB1.lt
 refine an 5 [.is (.pointer (some ⟨w.heap.size,0,none⟩)),.is (.agg #[.bool s1,.slice a1 n1 c1]),.is (.agg #[.bool s1,.slice a1 n1 c1,.bool s2,.slice a2 n2 c2]),.int b,.int z] [0,1,2,3,4] (by kernel_rfl) (by kernel_rfl) (by kernel_rfl) (by kernel_rfl) (by kernel_rfl) (by kernel_rfl) (by intro f;simp only[laid,List.foldl_cons,List.foldl_nil,List.getElem?_toArray,List.getElem?_cons_zero,List.getElem?_cons_succ,Option.bind_some,Act.put,List.setIfInBounds_toArray,List.set_cons_zero,List.set_cons_succ];rfl) ?_ ?_
 ·intro i o him ho f wi hki hdep
  have q1_0:=(hB1.kept hki).cell 0 rfl
  have q1_1:=(hB1.kept hki).cell 1 rfl
  have q1_2:=(hB1.kept hki).cell 2 rfl
  have q1_3:=(hB1.kept hki).cell 3 rfl
  rcases i with _|_|_|_|_|i
  ·cases so ho
   refine aa.value (.pointer (some ⟨w.heap.size,0,none⟩)) ?_ (a7 rfl)
   go_simp
  ·cases so ho
   have d0:=hdep ⟨0,.data⟩ (by simp) rfl
   simp only[ae,List.getElem?_cons_zero] at d0
   refine aa.value (.agg #[.bool s1,.slice a1 n1 c1]) ?_ (a7 rfl)
   go_simp
  ·cases so ho
   refine aa.value (.agg #[.bool s1,.slice a1 n1 c1,.bool s2,.slice a2 n2 c2]) ?_ (a7 rfl)
   go_simp
  ·cases so ho
   have d2:=hdep ⟨2,.data⟩ (by simp) rfl
   simp only[ae,List.getElem?_cons_zero,List.getElem?_cons_succ] at d2
   refine aa.call 100 #[.agg #[.bool s1,.slice a1 n1 c1,.bool s2,.slice a2 n2 c2]] (by go_simp) ((MB1.out _ wi (hx.kept hki)).mono ?_)
   rintro e w7 ⟨v,rfl,hv,hk7⟩
   exact⟨v,rfl,hv,hk7,trivial⟩
  ·cases so ho
   have d1:=hdep ⟨1,.data⟩ (by simp) rfl
   have d3:=hdep ⟨3,.data⟩ (by simp) rfl
   simp only[ae,List.getElem?_cons_zero,List.getElem?_cons_succ] at d1 d3
   refine aa.call 106 #[.agg #[.bool s1,.slice a1 n1 c1],f 3] (by go_simp) ((M1.out _ _ wi (hx1.kept hki) d3).mono ?_)
   rintro e w7 ⟨v,rfl,hv,hk7⟩
   exact⟨v,rfl,hv,hk7,trivial⟩
  ·omega
 ·intro f wi hki hall hap
  have hk:=Kept.comp _ _ _ hk hki
  have hB1:=hB1.kept hki
  have hx:=hx.kept hki
  have hx1:=hx1.kept hki
  have hB:=hB.kept hki
  have hv:=hall 4 (by decide)
  simp only[ae,List.getElem?_cons_zero,List.getElem?_cons_succ] at hv
  obtain⟨s3,a3,n3,c3,e3⟩:=aM hv
  rw[e3] at hv
  clear hall hap
  simp only[List.drop_succ_cons,List.drop_zero]
  rw[e3]
  have r0:=hB.cell 0 rfl
  have r1:=hB.cell 1 rfl
  have f0:=hB.free 0
  have f1:=hB.free 1
  clear MB1 M1 hx hx1 hB1
  go_wp2
  obtain⟨rB,rv,rk⟩:=xD (w:=w) hB (by omega) hk hv
  have p0:=rB.cell 0 rfl
  have p1:=rB.cell 1 rfl
  exact bodyPost_ret (v:=.agg #[.bool s3,.slice a3 n3 c3]) (by simp[results,Tryz.results59,go_sem,p0,p1]) rfl ⟨_,rfl,rv,rk⟩
end Go.Proofs.YtnjcdpfibmckmaaGreatDoor.E
