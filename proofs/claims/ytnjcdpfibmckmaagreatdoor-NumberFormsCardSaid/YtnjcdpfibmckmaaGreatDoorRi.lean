import Derived.Test.YtnjcdpfibmckmaaGreatDoorLb
import Derived.Test.YtnjcdpfibmckmaaGreatDoorRh
set_option linter.unusedSectionVars false
set_option linter.unusedVariables false
set_option linter.unusedSimpArgs false
set_option maxRecDepth 100000
set_option maxHeartbeats 1000000
namespace Go.Proofs.YtnjcdpfibmckmaaGreatDoor.D
open Go.RowKit DigNum
theorem Big.store {w:World} {b:Nat} {v u1 u2:Value} {n:Int} (hv:Big w v n) (hB:Blk w b 98 [.bool false,.slice none 0 0]) :
  Big ((w.setCell ⟨b,0,none⟩ u1).setCell ⟨b,1,none⟩ u2) v n:=by
 obtain⟨l,rfl,hl⟩:=hv
 refine ⟨l,rfl,hl.beside hB (by simp[World.setCell]) fun k hk=>?_⟩
 rw[heap_setCell_other _ ⟨b,1,none⟩ k u2 (by simpa using hk),heap_setCell_other _ ⟨b,0,none⟩ k u1 (by simpa using hk)]
theorem ft {w w3:World} {b1 b2:Nat} {s1 s2:Bool} {l1 l2:Value} {n1 n2:Int} (hB1:Blk w3 b1 98 [.bool false,.slice none 0 0]) (hB2:Blk w3 b2 98 [.bool false,.slice none 0 0]) (hne:b2≠b1)
  (h1:w.heap.size≤b1) (h2:w.heap.size≤b2) (hk:Kept w w3) (hv1:Big w3 (.agg #[.bool s1,l1]) n1) (hv2:Big w3 (.agg #[.bool s2,l2]) n2) :
  let w5:=(((w3.setCell ⟨b1,0,none⟩ (.bool s1)).setCell ⟨b1,1,none⟩ l1).setCell ⟨b2,0,none⟩ (.bool s2)).setCell ⟨b2,1,none⟩ l2
  w5.cell? ⟨b1,0,none⟩=some (.bool s1)∧w5.cell? ⟨b1,1,none⟩=some l1∧w5.cell? ⟨b2,0,none⟩=some (.bool s2)∧w5.cell? ⟨b2,1,none⟩=some l2 ∧
  Big w5 (.agg #[.bool s1,l1]) n1∧Big w5 (.agg #[.bool s2,l2]) n2∧Kept w w5:=by
 intro w5
 have a1:=hv1.store (u1:=.bool s1) (u2:=l1) hB1
 have a2:=hv2.store (u1:=.bool s1) (u2:=l1) hB1
 have c1:=hB1.pn (.bool s1) l1
 have c2:=hB2.jz hne (.bool s1) l1
 have k1:Kept w ((w3.setCell ⟨b1,0,none⟩ (.bool s1)).setCell ⟨b1,1,none⟩ l1):=(Below.setCell hk h1 _).setCell h1 _
 have d1:=c1.jz (b:=b2) (Ne.symm hne) (.bool s2) l2
 have d2:=c2.pn (.bool s2) l2
 exact⟨d1.cell 0 rfl,d1.cell 1 rfl,d2.cell 0 rfl,d2.cell 1 rfl,a1.store c2,a2.store c2,(Below.setCell k1 h2 _).setCell h2 _⟩
theorem cB {w:World} {v:Value} {n:Int} (h:Big w v n):∃ s a k c,v=.agg #[.bool s,.slice a k c]:=by
 obtain⟨_,h,a,c,h2,_⟩:=h
 exact⟨_,a,_,c,by rw[h,h2]⟩
theorem jd (n:Int):ao (decide (n<0)) n.natAbs=n:=by
 unfold ao
 by_cases h:n<0<;>simp[h]<;>omega
theorem jA (s:ByteArray) (n:Int) (w:World) (h:aE s n) (hs:s.size≤1000000000) :
  Calls Tryz.prog 142 #[.string s] w fun e w'=>∃ v,e=.returned v∧Big w' v n∧Kept w w':=by
 have h2:=h.size
 rw[bm] at h2
 have:=xx s (decide (n<0)) (aV n.natAbs) w h (da _) (by rw[aB];omega)
 rwa [dt,jd] at this
theorem lD (v:Value) (n:Int) (w:World) (h:Big w v n) (hs:size n.natAbs≤100000000) :
  Calls Tryz.prog 70 #[v] w fun e w'=>∃ t:ByteArray,e=.returned (.string t)∧aE t n∧Kept w w':=by
 by_cases h0:n=0
 ·subst h0
  refine (xP v w h).mono ?_
  rintro e w' ⟨t,rfl,h1,h2⟩
  refine ⟨t,rfl,?_,h2⟩
  show chs t=b7 0
  rw[h1,←lx];exact sV 0
 ·refine (A0 v n w h h0 hs).mono ?_
  rintro e w' ⟨t,cs,rfl,h1,h2,h3⟩
  refine ⟨t,rfl,?_,h3⟩
  show chs t=b7 n
  rw[h1,mD h2];rfl
theorem xQ (w:World):Calls Tryz.prog 62 #[.int .i64 1] w fun e w'=>∃ v,e=.returned v∧Big w' v 1∧Kept w w':=
 qh false 1 w (by decide) (fun h=>absurd h (by decide))
theorem oW (n:Int) (w:World) (h:(n.natAbs:Int)≤9223372036854775807):Calls Tryz.prog 62 #[.int .i64 n] w fun e w'=>∃ v,e=.returned v∧Big w' v n∧Kept w w':=by
 have:=qh (decide (n<0)) n.natAbs w h (fun h=>by simp at h;omega)
 rwa [jd] at this
theorem jB (s:ByteArray) (k:Nat) (n d:Int) (w:World) (hks:aj (chs s)=k) (hle:k+1≤s.size) (h1:aE (s.extract 0 k) n) (h2:aE (s.extract (k+1) s.size) d) (hm:s.size≤1000000000) :
  Calls Tryz.prog 67 #[.string s] w fun e w'=>∃ v1 v2,e=.returned (.tuple #[v1,v2])∧Big w' v1 n∧Big w' v2 d∧Kept w w':=by
 have hS:=Lib.hid fun w'=>dA s w' (by omega)
 rw[hks] at hS
 have hP1:=Lib.hid fun w'=>jA _ n w' h1
 have hP2:=Lib.hid fun w'=>jA _ d w' h2
 have z1:=Lib.hid (show (s.extract 0 k).size≤1000000000 by rw[←af,ay,List.length_take];omega)
 have z2:=Lib.hid (show (s.extract (k+1) s.size).size≤1000000000 by rw[←af,ay,List.length_take];omega)
 have hk0:=b9 w (Obj.cells #[Value.bool false,Value.slice none 0 0] 98)
 have hk1:=b9 (w.alloc (Obj.cells #[Value.bool false,Value.slice none 0 0] 98)) (Obj.cells #[Value.bool false,Value.slice none 0 0] 98)
 have hB1:=(ax w 98 [Value.bool false,Value.slice none 0 0]).kept hk1
 have hB2:=ax (w.alloc (Obj.cells #[Value.bool false,Value.slice none 0 0] 98)) 98 [Value.bool false,Value.slice none 0 0]
 have hk:=Kept.comp _ _ _ hk0 hk1
 rw[show (w.alloc (Obj.cells #[Value.bool false,Value.slice none 0 0] 98)).heap.size=w.heap.size+1 by simp] at hB2
 have hne2:((k:Int)==(s.size:Int))=false:=by rw[beq_eq_false_iff_ne];omega
 have x1:IntKind.i64.wrap ((k:Int)+1)=((k+1:Nat):Int):=by rw[IntWalk.i64_in _ (by omega)];omega
 clear hk0 hk1 h1 h2 hks
 go_enter Tryz.func67,Tryz.ntmps67
 go_wp2_with fail
 generalize (w.alloc (Obj.cells #[Value.bool false,Value.slice none 0 0] 98)).alloc (Obj.cells #[Value.bool false,Value.slice none 0 0] 98)=w2 at *
 refine (hS.out _).mono ?_
 rintro e w3 ⟨rfl,q,rfl⟩
 clear hS
 have hk3:=aq (Below.refl _ w2) q
 generalize w2.drewN q=w3 at *
 go_wp2_with fail
 refine an 9 [.is (.string s),.is (.int .i64 (k:Int)),.is (.string (s.extract 0 k)),.int n,.is (.string s),.is (.int .i64 (k:Int)),.is (.int .i64 ((k+1:Nat):Int)),.is (.string (s.extract (k+1) s.size)),.int d] [0,1,2,3,4,5,6,7,8] (by kernel_rfl) (by kernel_rfl) (by kernel_rfl) (by kernel_rfl) (by kernel_rfl) (by kernel_rfl) (by intro f;simp only[laid,List.foldl_cons,List.foldl_nil,List.getElem?_toArray,List.getElem?_cons_zero,List.getElem?_cons_succ,Option.bind_some,Act.put,List.setIfInBounds_toArray,List.set_cons_zero,List.set_cons_succ];rfl) ?_ ?_
 ·intro i o him ho f wi hki hdep
  rcases i with _|_|_|_|_|_|_|_|_|i
  ·cases so ho
   refine aa.value (.string s) ?_ (a7 rfl)
   go_simp
  ·cases so ho
   refine aa.value (.int .i64 (k:Int)) ?_ (a7 rfl)
   go_simp
  ·cases so ho
   have d0:=hdep ⟨0,.data⟩ (by simp) rfl
   have d1:=hdep ⟨1,.data⟩ (by simp) rfl
   simp only[ae,List.getElem?_cons_zero,List.getElem?_cons_succ] at d0 d1
   refine aa.value (.string (s.extract 0 k)) ?_ (a7 rfl)
   go_simp
   omega
  ·cases so ho
   have d2:=hdep ⟨2,.data⟩ (by simp) rfl
   simp only[ae,List.getElem?_cons_zero,List.getElem?_cons_succ] at d2
   refine aa.call 142 #[.string (s.extract 0 k)] (by go_simp) ((hP1.out wi z1.out).mono ?_)
   rintro e w7 ⟨v,rfl,hv,hk7⟩
   exact⟨v,rfl,hv,hk7⟩
  ·cases so ho
   refine aa.value (.string s) ?_ (a7 rfl)
   go_simp
  ·cases so ho
   refine aa.value (.int .i64 (k:Int)) ?_ (a7 rfl)
   go_simp
  ·cases so ho
   have d5:=hdep ⟨5,.data⟩ (by simp) rfl
   simp only[ae,List.getElem?_cons_zero,List.getElem?_cons_succ] at d5
   refine aa.value (.int .i64 ((k+1:Nat):Int)) ?_ (a7 rfl)
   go_simp
  ·cases so ho
   have d4:=hdep ⟨4,.data⟩ (by simp) rfl
   have d6:=hdep ⟨6,.data⟩ (by simp) rfl
   simp only[ae,List.getElem?_cons_zero,List.getElem?_cons_succ] at d4 d6
   refine aa.value (.string (s.extract (k+1) s.size)) ?_ (a7 rfl)
   go_simp
   omega
  ·cases so ho
   have d7:=hdep ⟨7,.data⟩ (by simp) rfl
   simp only[ae,List.getElem?_cons_zero,List.getElem?_cons_succ] at d7
   refine aa.call 142 #[.string (s.extract (k+1) s.size)] (by go_simp) ((hP2.out wi z2.out).mono ?_)
   rintro e w7 ⟨v,rfl,hv,hk7⟩
   exact⟨v,rfl,hv,hk7⟩
  ·omega
 ·intro f wi hki hall
  have hv1:=hall 3 (by decide)
  have hv2:=hall 8 (by decide)
  simp only[ae,List.getElem?_cons_zero,List.getElem?_cons_succ] at hv1 hv2
  clear hall
  obtain⟨s1,a1,n1,c1,e1⟩:=cB hv1
  obtain⟨s2,a2,n2,c2,e2⟩:=cB hv2
  rw[e1] at hv1
  rw[e2] at hv2
  simp only[List.drop_succ_cons,List.drop_zero]
  rw[e1,e2]
  have hk5:=Kept.comp _ _ _ hk3 hki
  have hC1:=hB1.kept hk5
  have hC2:=hB2.kept hk5
  have hk:=Kept.comp _ _ _ hk hk5
  have p0:=hC1.cell 0 rfl
  have p1:=hC1.cell 1 rfl
  have p2:=hC2.cell 0 rfl
  have p3:=hC2.cell 1 rfl
  have f0:=hC1.free 0
  have f1:=hC1.free 1
  have f2:=hC2.free 0
  have f3:=hC2.free 1
  clear hk5 hB1 hB2 hP1 hP2
  go_wp2
  obtain⟨p0,p1,p2,p3,p4,p5,p6⟩:=ft hC1 hC2 (by omega) (by omega) (by omega) hk hv1 hv2
  exact bodyPost_ret (v:=.tuple #[.agg #[.bool s1,.slice a1 n1 c1],.agg #[.bool s2,.slice a2 n2 c2]]) (by simp[results,Tryz.results67,go_sem,p0,p1,p2,p3]) rfl ⟨_,_,rfl,p4,p5,p6⟩
theorem xy (s:ByteArray) (x:Rat) (w:World) (h:b8 s x) (hm:s.size≤1000000000) :
  Calls Tryz.prog 67 #[.string s] w fun e w'=>∃ v1 v2,e=.returned (.tuple #[v1,v2])∧Big w' v1 x.num∧Big w' v2 x.den∧Kept w w':=by
 have hS:=Lib.hid fun w'=>dA s w' (by omega)
 rw[h.tp] at hS
 have hw:=h.whole
 have hk0:=b9 w (Obj.cells #[Value.bool false,Value.slice none 0 0] 98)
 have hk1:=b9 (w.alloc (Obj.cells #[Value.bool false,Value.slice none 0 0] 98)) (Obj.cells #[Value.bool false,Value.slice none 0 0] 98)
 have hB1:=(ax w 98 [Value.bool false,Value.slice none 0 0]).kept hk1
 have hB2:=ax (w.alloc (Obj.cells #[Value.bool false,Value.slice none 0 0] 98)) 98 [Value.bool false,Value.slice none 0 0]
 have hk:=Kept.comp _ _ _ hk0 hk1
 rw[show (w.alloc (Obj.cells #[Value.bool false,Value.slice none 0 0] 98)).heap.size=w.heap.size+1 by simp] at hB2
 by_cases hd:x.den=1
 ·have hP:=Lib.hid fun w'=>jA s x.num w' (by
   have:=h.num
   rwa [hw.2 hd,show s.extract 0 s.size=s from gN (by rw[ay,List.drop_zero,List.take_of_length_le (by rw[af];omega)])] at this) hm
  have hW:=Lib.hid fun w'=>xQ w'
  rw[hd]
  rw[hw.2 hd] at hS
  generalize x.num=n at *
  clear h hw hd hk0 hk1
  go_enter Tryz.func67,Tryz.ntmps67
  go_wp2_with fail
  generalize (w.alloc (Obj.cells #[Value.bool false,Value.slice none 0 0] 98)).alloc (Obj.cells #[Value.bool false,Value.slice none 0 0] 98)=w2 at *
  refine (hS.out _).mono ?_
  rintro e w3 ⟨rfl,q,rfl⟩
  clear hS
  go_wp2_with fail
  refine (hP.out _).mono ?_
  rintro e w4 ⟨v1,rfl,hv1,hk4⟩
  have hk4:=Kept.comp _ _ _ (aq (Below.refl _ _) q) hk4
  clear hP
  go_wp2_with fail
  refine (hW.out _).mono ?_
  rintro e w5 ⟨v2,rfl,hv2,hk5⟩
  clear hW
  have hv1:=hv1.kept hk5
  have hk5:=Kept.comp _ _ _ hk4 hk5
  have hC1:=hB1.kept hk5
  have hC2:=hB2.kept hk5
  have hk:=Kept.comp _ _ _ hk hk5
  obtain⟨s1,a1,n1,c1,rfl⟩:=cB hv1
  obtain⟨s2,a2,n2,c2,rfl⟩:=cB hv2
  have p0:=hC1.cell 0 rfl
  have p1:=hC1.cell 1 rfl
  have p2:=hC2.cell 0 rfl
  have p3:=hC2.cell 1 rfl
  have f0:=hC1.free 0
  have f1:=hC1.free 1
  have f2:=hC2.free 0
  have f3:=hC2.free 1
  clear hk4 hk5 hB1 hB2
  go_wp2
  obtain⟨p0,p1,p2,p3,p4,p5,p6⟩:=ft hC1 hC2 (by omega) (by omega) (by omega) hk hv1 hv2
  exact bodyPost_ret (v:=.tuple #[.agg #[.bool s1,.slice a1 n1 c1],.agg #[.bool s2,.slice a2 n2 c2]]) (by simp[results,Tryz.results67,go_sem,p0,p1,p2,p3]) rfl ⟨_,_,rfl,p4,p5,p6⟩
 ·exact jB s _ x.num x.den w h.tp (by rw[h.size,bn,if_neg hd];omega) h.num (h.den hd) hm
end Go.Proofs.YtnjcdpfibmckmaaGreatDoor.D
