import Derived.Test.YtjbcmmaniphkkaaGreatDoorLb
import Derived.Test.YtjbcmmaniphkkaaGreatDoorRh
set_option linter.unusedSectionVars false
set_option linter.unusedVariables false
set_option linter.unusedSimpArgs false
set_option maxRecDepth 100000
set_option maxHeartbeats 4000000
namespace Go.Proofs.YtjbcmmaniphkkaaGreatDoor.D
open Go.RowKit DigNum
theorem Big.store {w:World} {b:Nat} {v u1 u2:Value} {n:Int} (hv:Big w v n) (hB:Blk w b 117 [.bool false,.slice none 0 0]) :
  Big ((w.setCell ⟨b,0,none⟩ u1).setCell ⟨b,1,none⟩ u2) v n:=by
 obtain⟨l,rfl,hl⟩:=hv
 refine ⟨l,rfl,hl.beside hB (by simp[World.setCell]) fun k hk=>?_⟩
 rw[heap_setCell_other _ ⟨b,1,none⟩ k u2 (by simpa using hk),heap_setCell_other _ ⟨b,0,none⟩ k u1 (by simpa using hk)]
theorem fT {w w3:World} {b1 b2:Nat} {s1 s2:Bool} {l1 l2:Value} {n1 n2:Int} (hB1:Blk w3 b1 117 [.bool false,.slice none 0 0]) (hB2:Blk w3 b2 117 [.bool false,.slice none 0 0]) (hne:b2≠b1)
  (h1:w.heap.size≤b1) (h2:w.heap.size≤b2) (hk:Kept w w3) (hv1:Big w3 (.agg #[.bool s1,l1]) n1) (hv2:Big w3 (.agg #[.bool s2,l2]) n2) :
  let w5:=(((w3.setCell ⟨b1,0,none⟩ (.bool s1)).setCell ⟨b1,1,none⟩ l1).setCell ⟨b2,0,none⟩ (.bool s2)).setCell ⟨b2,1,none⟩ l2
  w5.cell? ⟨b1,0,none⟩=some (.bool s1)∧w5.cell? ⟨b1,1,none⟩=some l1∧w5.cell? ⟨b2,0,none⟩=some (.bool s2)∧w5.cell? ⟨b2,1,none⟩=some l2 ∧
  Big w5 (.agg #[.bool s1,l1]) n1∧Big w5 (.agg #[.bool s2,l2]) n2∧Kept w w5:=by
 intro w5
 have a1:=hv1.store (u1:=.bool s1) (u2:=l1) hB1
 have a2:=hv2.store (u1:=.bool s1) (u2:=l1) hB1
 have c1:=hB1.nA (.bool s1) l1
 have c2:=hB2.ef hne (.bool s1) l1
 have k1:Kept w ((w3.setCell ⟨b1,0,none⟩ (.bool s1)).setCell ⟨b1,1,none⟩ l1):=(Below.setCell hk h1 _).setCell h1 _
 have d1:=c1.ef (b:=b2) (Ne.symm hne) (.bool s2) l2
 have d2:=c2.nA (.bool s2) l2
 exact⟨d1.cell 0 rfl,d1.cell 1 rfl,d2.cell 0 rfl,d2.cell 1 rfl,a1.store c2,a2.store c2,(Below.setCell k1 h2 _).setCell h2 _⟩
theorem aM {w:World} {v:Value} {n:Int} (h:Big w v n):∃ s a k c,v=.agg #[.bool s,.slice a k c]:=by
 obtain⟨_,h,a,c,h2,_⟩:=h
 exact⟨_,a,_,c,by rw[h,h2]⟩
theorem kq (n:Int):az (decide (n<0)) n.natAbs=n:=by
 unfold az
 by_cases h:n<0<;>simp[h]<;>omega
theorem kT (s:ByteArray) (n:Int) (w:World) (h:aN s n) (hs:s.size≤1000000000) :
  Calls Tryz.prog 163 #[.string s] w fun e w'=>∃ v,e=.returned v∧Big w' v n∧Kept w w':=by
 have h2:=h.size
 rw[bw] at h2
 have:=AX s (decide (n<0)) (bh n.natAbs) w h (db _) (by rw[aD];omega)
 rwa [dt,kq] at this
theorem sG (v:Value) (n:Int) (w:World) (h:Big w v n) (hs:size n.natAbs≤100000000) :
  Calls Tryz.prog 169 #[v] w fun e w'=>∃ t:ByteArray,e=.returned (.string t)∧aN t n∧Kept w w':=by
 by_cases h0:n=0
 ·subst h0
  refine (BC v w h).mono ?_
  rintro e w' ⟨t,rfl,h1,h2⟩
  refine ⟨t,rfl,?_,h2⟩
  show chs t=bB 0
  rw[h1,←nv];exact vJ 0
 ·refine (EY v n w h h0 hs).mono ?_
  rintro e w' ⟨t,cs,rfl,h1,h2,h3⟩
  refine ⟨t,rfl,?_,h3⟩
  show chs t=bB n
  rw[h1,oH h2];rfl
theorem BE (w:World):Calls Tryz.prog 164 #[.int .i64 1] w fun e w'=>∃ v,e=.returned v∧Big w' v 1∧Kept w w':=
 sK false 1 w (by decide) (fun h=>absurd h (by decide))
theorem qT (n:Int) (w:World) (h:(n.natAbs:Int)≤9223372036854775807):Calls Tryz.prog 164 #[.int .i64 n] w fun e w'=>∃ v,e=.returned v∧Big w' v n∧Kept w w':=by
 have:=sK (decide (n<0)) n.natAbs w h (fun h=>by simp at h;omega)
 rwa [kq] at this
theorem kU (s:ByteArray) (k:Nat) (n d:Int) (w:World) (hks:aq (chs s)=k) (hle:k+1≤s.size) (h1:aN (s.extract 0 k) n) (h2:aN (s.extract (k+1) s.size) d) (hm:s.size≤1000000000) :
  Calls Tryz.prog 85 #[.string s] w fun e w'=>∃ v1 v2,e=.returned (.tuple #[v1,v2])∧Big w' v1 n∧Big w' v2 d∧Kept w w':=by
 have hS:=K7 fun w'=>dz s w' (by omega)
 rw[hks] at hS
 have hP1:=K7 fun w'=>kT _ n w' h1
 have hP2:=K7 fun w'=>kT _ d w' h2
 have z1:=K7 (show (s.extract 0 k).size≤1000000000 by rw[←ah,aC,List.length_take];omega)
 have z2:=K7 (show (s.extract (k+1) s.size).size≤1000000000 by rw[←ah,aC,List.length_take];omega)
 have hk0:=bK w (Obj.cells #[Value.bool false,Value.slice none 0 0] 117)
 have hk1:=bK (w.alloc (Obj.cells #[Value.bool false,Value.slice none 0 0] 117)) (Obj.cells #[Value.bool false,Value.slice none 0 0] 117)
 have hB1:=(aJ w 117 [Value.bool false,Value.slice none 0 0]).kept hk1
 have hB2:=aJ (w.alloc (Obj.cells #[Value.bool false,Value.slice none 0 0] 117)) 117 [Value.bool false,Value.slice none 0 0]
 have hk:=Kept.comp _ _ _ hk0 hk1
 rw[show (w.alloc (Obj.cells #[Value.bool false,Value.slice none 0 0] 117)).heap.size=w.heap.size+1 by simp] at hB2
 have hne2:((k:Int)==(s.size:Int))=false:=by rw[beq_eq_false_iff_ne];omega
 have x1:IntKind.i64.wrap ((k:Int)+1)=((k+1:Nat):Int):=by rw[IntWalk.i64_in _ (by omega)];omega
 clear hk0 hk1 h1 h2 hks
 go_enter Tryz.func85,Tryz.ntmps85
 go_wp2_with fail
 generalize (w.alloc (Obj.cells #[Value.bool false,Value.slice none 0 0] 117)).alloc (Obj.cells #[Value.bool false,Value.slice none 0 0] 117)=w2 at *
 refine (hS.out _).mono ?_
 rintro e w3 ⟨rfl,q,rfl⟩
 clear hS
 have hk3:=ar (Below.refl _ w2) q
 generalize w2.drewN q=w3 at *
 go_wp2_with fail
 refine aj 9 [.is (.string s),.is (.int .i64 (k:Int)),.is (.string (s.extract 0 k)),.int n,.is (.string s),.is (.int .i64 (k:Int)),.is (.int .i64 ((k+1:Nat):Int)),.is (.string (s.extract (k+1) s.size)),.int d] [0,1,2,3,4,5,6,7,8] (by kernel_rfl) (by kernel_rfl) (by kernel_rfl) (by kernel_rfl) (by kernel_rfl) (by kernel_rfl) (by intro f;simp only[laid,List.foldl_cons,List.foldl_nil,List.getElem?_toArray,K9,K8,Option.bind_some,Act.put,List.setIfInBounds_toArray,List.set_cons_zero,List.set_cons_succ];rfl) ?_ ?_
 ·intro i o him ho f wi hki hdep
  rcases i with _|_|_|_|_|_|_|_|_|i
  ·cases so ho
   refine ae.value (.string s) ?_ (aa rfl)
   go_simp
  ·cases so ho
   refine ae.value (.int .i64 (k:Int)) ?_ (aa rfl)
   go_simp
  ·cases so ho
   have d0:=hdep ⟨0,.data⟩ (by simp) rfl
   have d1:=hdep ⟨1,.data⟩ (by simp) rfl
   simp only[af,K9,K8] at d0 d1
   refine ae.value (.string (s.extract 0 k)) ?_ (aa rfl)
   go_simp
   omega
  ·cases so ho
   have d2:=hdep ⟨2,.data⟩ (by simp) rfl
   simp only[af,K9,K8] at d2
   refine ae.call 163 #[.string (s.extract 0 k)] (by go_simp) ((hP1.out wi z1.out).mono ?_)
   rintro e w7 ⟨v,rfl,hv,hk7⟩
   exact⟨v,rfl,hv,hk7⟩
  ·cases so ho
   refine ae.value (.string s) ?_ (aa rfl)
   go_simp
  ·cases so ho
   refine ae.value (.int .i64 (k:Int)) ?_ (aa rfl)
   go_simp
  ·cases so ho
   have d5:=hdep ⟨5,.data⟩ (by simp) rfl
   simp only[af,K9,K8] at d5
   refine ae.value (.int .i64 ((k+1:Nat):Int)) ?_ (aa rfl)
   go_simp
  ·cases so ho
   have d4:=hdep ⟨4,.data⟩ (by simp) rfl
   have d6:=hdep ⟨6,.data⟩ (by simp) rfl
   simp only[af,K9,K8] at d4 d6
   refine ae.value (.string (s.extract (k+1) s.size)) ?_ (aa rfl)
   go_simp
   omega
  ·cases so ho
   have d7:=hdep ⟨7,.data⟩ (by simp) rfl
   simp only[af,K9,K8] at d7
   refine ae.call 163 #[.string (s.extract (k+1) s.size)] (by go_simp) ((hP2.out wi z2.out).mono ?_)
   rintro e w7 ⟨v,rfl,hv,hk7⟩
   exact⟨v,rfl,hv,hk7⟩
  ·omega
 ·intro f wi hki hall
  have hv1:=hall 3 (by decide)
  have hv2:=hall 8 (by decide)
  simp only[af,K9,K8] at hv1 hv2
  clear hall
  obtain⟨s1,a1,n1,c1,e1⟩:=aM hv1
  obtain⟨s2,a2,n2,c2,e2⟩:=aM hv2
  rw[e1] at hv1
  rw[e2] at hv2
  simp only[List.drop_succ_cons,List.drop_zero]
  rw[e1,e2]
  have hk5:=Kept.comp _ _ _ hk3 hki
  have hC1:=hB1.kept hk5
  have hC2:=hB2.kept hk5
  have hk:=Kept.comp _ _ _ hk hk5
  have p0:=hC1.cell 0 rfl
  have p1:=hC1.cell 1 rfl
  have p2:=hC2.cell 0 rfl
  have p3:=hC2.cell 1 rfl
  have f0:=hC1.free 0
  have f1:=hC1.free 1
  have f2:=hC2.free 0
  have f3:=hC2.free 1
  clear hk5 hB1 hB2 hP1 hP2
  go_wp2
  obtain⟨p0,p1,p2,p3,p4,p5,p6⟩:=fT hC1 hC2 (by omega) (by omega) (by omega) hk hv1 hv2
  exact bodyPost_ret (v:=.tuple #[.agg #[.bool s1,.slice a1 n1 c1],.agg #[.bool s2,.slice a2 n2 c2]]) (by simp[results,Tryz.results85,go_sem,p0,p1,p2,p3]) rfl ⟨_,_,rfl,p4,p5,p6⟩
theorem ib (s:ByteArray) (x:Rat) (w:World) (h:aG s x) (hm:s.size≤1000000000) :
  Calls Tryz.prog 85 #[.string s] w fun e w'=>∃ v1 v2,e=.returned (.tuple #[v1,v2])∧Big w' v1 x.num∧Big w' v2 x.den∧Kept w w':=by
 have hS:=K7 fun w'=>dz s w' (by omega)
 rw[h.vY] at hS
 have hw:=h.whole
 have hk0:=bK w (Obj.cells #[Value.bool false,Value.slice none 0 0] 117)
 have hk1:=bK (w.alloc (Obj.cells #[Value.bool false,Value.slice none 0 0] 117)) (Obj.cells #[Value.bool false,Value.slice none 0 0] 117)
 have hB1:=(aJ w 117 [Value.bool false,Value.slice none 0 0]).kept hk1
 have hB2:=aJ (w.alloc (Obj.cells #[Value.bool false,Value.slice none 0 0] 117)) 117 [Value.bool false,Value.slice none 0 0]
 have hk:=Kept.comp _ _ _ hk0 hk1
 rw[show (w.alloc (Obj.cells #[Value.bool false,Value.slice none 0 0] 117)).heap.size=w.heap.size+1 by simp] at hB2
 by_cases hd:x.den=1
 ·have hP:=K7 fun w'=>kT s x.num w' (by
   have:=h.num
   rwa [hw.2 hd,show s.extract 0 s.size=s from iF (by rw[aC,List.drop_zero,List.take_of_length_le (by rw[ah];omega)])] at this) hm
  have hW:=K7 fun w'=>BE w'
  rw[hd]
  rw[hw.2 hd] at hS
  generalize x.num=n at *
  clear h hw hd hk0 hk1
  go_enter Tryz.func85,Tryz.ntmps85
  go_wp2_with fail
  generalize (w.alloc (Obj.cells #[Value.bool false,Value.slice none 0 0] 117)).alloc (Obj.cells #[Value.bool false,Value.slice none 0 0] 117)=w2 at *
  refine (hS.out _).mono ?_
  rintro e w3 ⟨rfl,q,rfl⟩
  clear hS
  go_wp2_with fail
  refine (hP.out _).mono ?_
  rintro e w4 ⟨v1,rfl,hv1,hk4⟩
  have hk4:=Kept.comp _ _ _ (ar (Below.refl _ _) q) hk4
  clear hP
  go_wp2_with fail
  refine (hW.out _).mono ?_
  rintro e w5 ⟨v2,rfl,hv2,hk5⟩
  clear hW
  have hv1:=hv1.kept hk5
  have hk5:=Kept.comp _ _ _ hk4 hk5
  have hC1:=hB1.kept hk5
  have hC2:=hB2.kept hk5
  have hk:=Kept.comp _ _ _ hk hk5
  obtain⟨s1,a1,n1,c1,rfl⟩:=aM hv1
  obtain⟨s2,a2,n2,c2,rfl⟩:=aM hv2
  have p0:=hC1.cell 0 rfl
  have p1:=hC1.cell 1 rfl
  have p2:=hC2.cell 0 rfl
  have p3:=hC2.cell 1 rfl
  have f0:=hC1.free 0
  have f1:=hC1.free 1
  have f2:=hC2.free 0
  have f3:=hC2.free 1
  clear hk4 hk5 hB1 hB2
  go_wp2
  obtain⟨p0,p1,p2,p3,p4,p5,p6⟩:=fT hC1 hC2 (by omega) (by omega) (by omega) hk hv1 hv2
  exact bodyPost_ret (v:=.tuple #[.agg #[.bool s1,.slice a1 n1 c1],.agg #[.bool s2,.slice a2 n2 c2]]) (by simp[results,Tryz.results85,go_sem,p0,p1,p2,p3]) rfl ⟨_,_,rfl,p4,p5,p6⟩
 ·exact kU s _ x.num x.den w h.vY (by rw[h.size,bz,if_neg hd];omega) h.num (h.den hd) hm
theorem nV {s:ByteArray} {x:Rat} (h:aG s (gR x)):aq (chs s)=nd x.num.natAbs∧s.size=nd x.num.natAbs+(if x.den=1 then 0 else 1+nd x.den) ∧
  aN (s.extract 0 (nd x.num.natAbs)) x.num.natAbs∧(x.den≠1→aN (s.extract (nd x.num.natAbs+1) s.size) x.den):=by
 have e:=@rK x
 change (gR x).num=_∧(gR x).den=_ at e
 have el:(bB (gR x).num).length=nd x.num.natAbs:=by
  rw[bw,e.1,if_neg (by omega),Int.natAbs_natCast,Nat.zero_add]
 refine ⟨by rw[h.vY,el],by rw[h.size,bz,el,e.2],?_,fun hd=>?_⟩
 ·have:=h.num
  rw[el,e.1] at this
  exact this
 ·have:=h.den (by rw[e.2];exact hd)
  rw[el,e.2] at this
  exact this
theorem iM {t:ByteArray} {n:Nat} (h:aN t n):Dec (chs t)∧aL (chs t)=n∧t.size=nd n:=by
 have h1:chs t=bh n:=by rw[←di];exact h
 exact⟨by rw[h1];exact db n,by rw[h1,dt],by rw[←ah,h1,aD]⟩
theorem tC {n:Nat} (h:¬9<nd n):n<1000000000:=by
 have:=(eo (n:=n) (k:=9) (by decide)).1 (by omega)
 exact this
theorem Ba (s:ByteArray) (x:Rat) (w:World) (h:aG s x) :
  Calls Tryz.prog 114 #[.string s] w fun e w'=>((e=.returned (.tuple #[.int .i64 x.num,.int .i64 (x.den:Int),.bool true])∧x.num.natAbs<1000000000∧x.den<1000000000)∨e=.returned (.tuple #[.int .i64 0,.int .i64 0,.bool false]))∧∃ q,w'=w.drewN q:=by
 obtain⟨Q,hQ⟩:∃ Q:Ending→Prop,Q=fun e=>((e=.returned (.tuple #[.int .i64 x.num,.int .i64 (x.den:Int),.bool true])∧x.num.natAbs<1000000000∧x.den<1000000000)∨e=.returned (.tuple #[.int .i64 0,.int .i64 0,.bool false])):=⟨_,rfl⟩
 suffices H:Calls Tryz.prog 114 #[.string s] w fun e w'=>Q e∧∃ q,w'=w.drewN q by
  subst hQ;exact H
 have HF:=K7 (show Q (.returned (.tuple #[.int .i64 0,.int .i64 0,.bool false])) by rw[hQ];exact .inr rfl)
 have HT:=K7 (show ∀ (n d:Int),n=x.num→d=x.den→¬9<nd x.num.natAbs→¬9<nd x.den→Q (.returned (.tuple #[.int .i64 n,.int .i64 d,.bool true])) from by
  rintro n d rfl rfl h1 h2
  rw[hQ];exact .inl ⟨rfl,tC h1,tC h2⟩)
 clear hQ
 have hp:=h.pos
 have hh:=h.head hp
 by_cases h20:20<s.size
 ·have h20':((s.size:Int)>20):=by omega
  clear h hh
  go_enter Tryz.func114,Tryz.ntmps114
  go_wp2
  exact bodyPost_ret (v:=.tuple #[.int .i64 0,.int .i64 0,.bool false]) (by simp[results,Tryz.results114,go_sem]) rfl ⟨HF.out,0,rfl⟩
 have h20':¬((s.size:Int)>20):=by omega
 have hlt:x.num<0→x.num = -(x.num.natAbs:Int):=fun h=>by omega
 have hge:¬x.num<0→x.num=(x.num.natAbs:Int):=fun h=>by omega
 by_cases hn:x.num<0
 ·rw[decide_eq_true hn] at hh
  have hs:aG (s.extract 1 s.size) (gR x):=by unfold gR;rw[if_pos hn];exact h.tail hn
  have hsz:(s.extract 1 s.size).size≤20:=by rw[←ah,aC,List.length_take];omega
  obtain⟨f1,f2,f3,f4⟩:=nV hs
  have hx:=hlt hn
  have HN:=K7 hx
  have hS:=K7 fun w'=>dz (s.extract 1 s.size) w' (by omega)
  rw[f1] at hS
  obtain⟨v1,v2,v3⟩:=iM f3
  have hV:=K7 fun (hz:¬9<nd x.num.natAbs) w'=>fC _ w' (by rw[v3];omega) v1
  rw[v2] at hV
  have hd1:=jz (n:=1) (by decide)
  by_cases h9:9<nd x.num.natAbs
  ·generalize nd x.num.natAbs=a at *
   have h9':((a:Int)>9):=by omega
   clear h hs hlt hge hx f1 f2 f3 f4 v1 v2 v3 hV hn hd1
   go_enter Tryz.func114,Tryz.ntmps114
   go_wp2_with fail
   refine (hS.out _).mono ?_
   rintro e w2 ⟨rfl,q,rfl⟩
   clear hS
   go_wp2
   exact bodyPost_ret (v:=.tuple #[.int .i64 0,.int .i64 0,.bool false]) (by simp[results,Tryz.results114,go_sem]) rfl ⟨HF.out,q,rfl⟩
  have x3:wrap64 (-(x.num.natAbs:Int)) = -(x.num.natAbs:Int):=by have:=tC h9;exact IntWalk.wrap64_in (-(x.num.natAbs:Int)) (by omega)
  by_cases hd:x.den=1
  ·rw[if_pos hd] at f2
   have HR:=K7 (HT.out _ 1 HN.out.symm (by rw[hd];rfl) h9 (by rw[hd,hd1];omega))
   have HV:=K7 (hV.out h9)
   generalize nd x.num.natAbs=a at *
   generalize x.num.natAbs=N at *
   have h9':¬((a:Int)>9):=by omega
   have F2:=K7 f2
   clear h hs hlt hge hx f1 f2 f3 f4 v1 v2 v3 hV hn hd hd1 HT
   go_enter Tryz.func114,Tryz.ntmps114
   go_wp2_with fail
   refine (hS.out _).mono ?_
   rintro e w2 ⟨rfl,q,rfl⟩
   clear hS
   generalize s.extract 1 s.size=s' at *
   have f2:=F2.out
   have x1:IntKind.i64.wrap ((s'.size:Int)-(a:Int))=0:=by rw[IntWalk.i64_in _ (by omega)];omega
   have x2:¬((a:Int)<(s'.size:Int)):=by omega
   have x8:¬s'.size<a:=by omega
   clear f2
   go_wp2_with fail
   refine (HV.out _).mono ?_
   rintro e w2 ⟨rfl,q2,rfl⟩
   clear HV
   go_wp2
   exact bodyPost_ret (v:=.tuple #[.int .i64 (-(N:Int)),.int .i64 1,.bool true]) (by simp[results,Tryz.results114,go_sem,x3]) rfl ⟨HR.out,_,rfl⟩
  ·rw[if_neg hd] at f2
   obtain⟨u1,u2,u3⟩:=iM (f4 hd)
   have hU:=K7 fun (hz:¬9<nd x.den) w'=>fC _ w' (by rw[u3];omega) u1
   rw[u2] at hU
   have HR:=K7 fun h2=>HT.out _ _ HN.out.symm rfl h9 h2
   have HV:=K7 (hV.out h9)
   generalize nd x.num.natAbs=a at *
   generalize x.num.natAbs=N at *
   generalize nd x.den=b at *
   generalize x.den=D at *
   have h9':¬((a:Int)>9):=by omega
   have F2:=K7 f2
   clear h hs hlt hge hx f1 f2 f3 f4 v1 v2 v3 u1 u2 u3 hV hn hd hd1 HT
   by_cases hb:9<b
   ·go_enter Tryz.func114,Tryz.ntmps114
    go_wp2_with fail
    refine (hS.out _).mono ?_
    rintro e w2 ⟨rfl,q,rfl⟩
    clear hS
    generalize s.extract 1 s.size=s' at *
    have f2:=F2.out
    have x1:IntKind.i64.wrap ((s'.size:Int)-(a:Int))=((1+b:Nat):Int):=by rw[IntWalk.i64_in _ (by omega)];omega
    have x2:(((1+b:Nat):Int)>10):=by omega
    have x8:¬s'.size<a:=by omega
    clear f2
    go_wp2
    exact bodyPost_ret (v:=.tuple #[.int .i64 0,.int .i64 0,.bool false]) (by simp[results,Tryz.results114,go_sem]) rfl ⟨HF.out,_,rfl⟩
   ·have HR:=K7 (HR.out hb)
    have HU:=K7 (hU.out hb)
    clear hU
    go_enter Tryz.func114,Tryz.ntmps114
    go_wp2_with fail
    refine (hS.out _).mono ?_
    rintro e w2 ⟨rfl,q,rfl⟩
    clear hS
    generalize s.extract 1 s.size=s' at *
    have f2:=F2.out
    have x1:IntKind.i64.wrap ((s'.size:Int)-(a:Int))=((1+b:Nat):Int):=by rw[IntWalk.i64_in _ (by omega)];omega
    have x2:¬(((1+b:Nat):Int)>10):=by omega
    have x4:((a:Int)<(s'.size:Int)):=by omega
    have x5:IntKind.i64.wrap ((a:Int)+1)=((a+1:Nat):Int):=by rw[IntWalk.i64_in _ (by omega)];omega
    have x6:¬s'.size<a+1:=by omega
    have x7:¬((s'.size:Int)<(a:Int)+1):=by omega
    have x8:¬s'.size<a:=by omega
    clear f2
    go_wp2_with fail
    refine (HV.out _).mono ?_
    rintro e w2 ⟨rfl,q2,rfl⟩
    clear HV
    go_wp2_with fail
    refine (HU.out _).mono ?_
    rintro e w2 ⟨rfl,q3,rfl⟩
    clear HU
    go_wp2
    exact bodyPost_ret (v:=.tuple #[.int .i64 (-(N:Int)),.int .i64 (D:Int),.bool true]) (by simp[results,Tryz.results114,go_sem,x3]) rfl ⟨HR.out,_,rfl⟩
 ·rw[decide_eq_false hn] at hh
  have hs:aG (s) (gR x):=by unfold gR;rw[if_neg hn];exact h
  have hsz:(s).size≤20:=by omega
  obtain⟨f1,f2,f3,f4⟩:=nV hs
  have hx:=hge hn
  have HN:=K7 hx
  have hS:=K7 fun w'=>dz (s) w' (by omega)
  rw[f1] at hS
  obtain⟨v1,v2,v3⟩:=iM f3
  have hV:=K7 fun (hz:¬9<nd x.num.natAbs) w'=>fC _ w' (by rw[v3];omega) v1
  rw[v2] at hV
  have hd1:=jz (n:=1) (by decide)
  by_cases h9:9<nd x.num.natAbs
  ·generalize nd x.num.natAbs=a at *
   have h9':((a:Int)>9):=by omega
   clear h hs hlt hge hx f1 f2 f3 f4 v1 v2 v3 hV hn hd1
   go_enter Tryz.func114,Tryz.ntmps114
   go_wp2_with fail
   refine (hS.out _).mono ?_
   rintro e w2 ⟨rfl,q,rfl⟩
   clear hS
   go_wp2
   exact bodyPost_ret (v:=.tuple #[.int .i64 0,.int .i64 0,.bool false]) (by simp[results,Tryz.results114,go_sem]) rfl ⟨HF.out,q,rfl⟩
  skip
  by_cases hd:x.den=1
  ·rw[if_pos hd] at f2
   have HR:=K7 (HT.out _ 1 HN.out.symm (by rw[hd];rfl) h9 (by rw[hd,hd1];omega))
   have HV:=K7 (hV.out h9)
   generalize nd x.num.natAbs=a at *
   generalize x.num.natAbs=N at *
   have h9':¬((a:Int)>9):=by omega
   have F2:=K7 f2
   clear h hs hlt hge hx f1 f2 f3 f4 v1 v2 v3 hV hn hd hd1 HT
   go_enter Tryz.func114,Tryz.ntmps114
   go_wp2_with fail
   refine (hS.out _).mono ?_
   rintro e w2 ⟨rfl,q,rfl⟩
   clear hS
   generalize s=s' at *
   have f2:=F2.out
   have x1:IntKind.i64.wrap ((s'.size:Int)-(a:Int))=0:=by rw[IntWalk.i64_in _ (by omega)];omega
   have x2:¬((a:Int)<(s'.size:Int)):=by omega
   have x8:¬s'.size<a:=by omega
   clear f2
   go_wp2_with fail
   refine (HV.out _).mono ?_
   rintro e w2 ⟨rfl,q2,rfl⟩
   clear HV
   go_wp2
   exact bodyPost_ret (v:=.tuple #[.int .i64 ((N:Int)),.int .i64 1,.bool true]) (by simp[results,Tryz.results114,go_sem]) rfl ⟨HR.out,_,rfl⟩
  ·rw[if_neg hd] at f2
   obtain⟨u1,u2,u3⟩:=iM (f4 hd)
   have hU:=K7 fun (hz:¬9<nd x.den) w'=>fC _ w' (by rw[u3];omega) u1
   rw[u2] at hU
   have HR:=K7 fun h2=>HT.out _ _ HN.out.symm rfl h9 h2
   have HV:=K7 (hV.out h9)
   generalize nd x.num.natAbs=a at *
   generalize x.num.natAbs=N at *
   generalize nd x.den=b at *
   generalize x.den=D at *
   have h9':¬((a:Int)>9):=by omega
   have F2:=K7 f2
   clear h hs hlt hge hx f1 f2 f3 f4 v1 v2 v3 u1 u2 u3 hV hn hd hd1 HT
   by_cases hb:9<b
   ·go_enter Tryz.func114,Tryz.ntmps114
    go_wp2_with fail
    refine (hS.out _).mono ?_
    rintro e w2 ⟨rfl,q,rfl⟩
    clear hS
    generalize s=s' at *
    have f2:=F2.out
    have x1:IntKind.i64.wrap ((s'.size:Int)-(a:Int))=((1+b:Nat):Int):=by rw[IntWalk.i64_in _ (by omega)];omega
    have x2:(((1+b:Nat):Int)>10):=by omega
    have x8:¬s'.size<a:=by omega
    clear f2
    go_wp2
    exact bodyPost_ret (v:=.tuple #[.int .i64 0,.int .i64 0,.bool false]) (by simp[results,Tryz.results114,go_sem]) rfl ⟨HF.out,_,rfl⟩
   ·have HR:=K7 (HR.out hb)
    have HU:=K7 (hU.out hb)
    clear hU
    go_enter Tryz.func114,Tryz.ntmps114
    go_wp2_with fail
    refine (hS.out _).mono ?_
    rintro e w2 ⟨rfl,q,rfl⟩
    clear hS
    generalize s=s' at *
    have f2:=F2.out
    have x1:IntKind.i64.wrap ((s'.size:Int)-(a:Int))=((1+b:Nat):Int):=by rw[IntWalk.i64_in _ (by omega)];omega
    have x2:¬(((1+b:Nat):Int)>10):=by omega
    have x4:((a:Int)<(s'.size:Int)):=by omega
    have x5:IntKind.i64.wrap ((a:Int)+1)=((a+1:Nat):Int):=by rw[IntWalk.i64_in _ (by omega)];omega
    have x6:¬s'.size<a+1:=by omega
    have x7:¬((s'.size:Int)<(a:Int)+1):=by omega
    have x8:¬s'.size<a:=by omega
    clear f2
    go_wp2_with fail
    refine (HV.out _).mono ?_
    rintro e w2 ⟨rfl,q2,rfl⟩
    clear HV
    go_wp2_with fail
    refine (HU.out _).mono ?_
    rintro e w2 ⟨rfl,q3,rfl⟩
    clear HU
    go_wp2
    exact bodyPost_ret (v:=.tuple #[.int .i64 ((N:Int)),.int .i64 (D:Int),.bool true]) (by simp[results,Tryz.results114,go_sem]) rfl ⟨HR.out,_,rfl⟩
end Go.Proofs.YtjbcmmaniphkkaaGreatDoor.D
