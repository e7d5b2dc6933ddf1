import Derived.Lib.AppendIntMem
import Derived.Lib.ItoaMem
import Derived.Test.YtjbcmmaniphkkaaGreatDoorSb
import Derived.Test.YtjbcmmaniphkkaaGreatDoorRa
set_option linter.unusedSectionVars false
set_option linter.unusedVariables false
set_option linter.unusedSimpArgs false
set_option maxRecDepth 100000
set_option maxHeartbeats 4000000
namespace Go.Proofs.YtjbcmmaniphkkaaGreatDoor.E
open Go.RowKit LimbNum
open DigNum (chs ah bP aH aC aq aE bG jt bB bh aG aN aL cX Bd)
def Read (s:ByteArray) (w:World) (v:Value):Prop:=(∃ s1 a1 n1 c1 s2 a2 n2 c2,v=.agg #[.bool s1,.slice a1 n1 c1,.bool s2,.slice a2 n2 c2])∧∀ x,aG s x→Bd x 600→Ex w v x
theorem Read.kept {s:ByteArray} {w w':World} {v:Value} (h:Read s w v) (k:Kept w w'):Read s w' v:=⟨h.1,fun x h1 h2=>(h.2 x h1 h2).kept k⟩
theorem ex0 (w:World):Ex w (.agg #[.bool false,.slice none 0 0,.bool false,.slice none 0 0]) 0:=
 ⟨_,_,_,_,_,_,_,_,rfl,⟨_,rfl,none,0,rfl,K6 _,.inl ⟨rfl,bc⟩⟩,.inr ⟨rfl,⟨_,rfl,none,0,rfl,K6 _,.inl ⟨rfl,bc⟩⟩⟩⟩
theorem ua (s:ByteArray) (w:World) (hs:s.size≤1000000) :
  Calls Tryz.prog 67 #[.string s] w fun e w'=>∃ v,e=.returned (.tuple #[v,.int .i64 ((cX (chs s):Nat):Int)])∧Read s w' v∧(cX (chs s)≠0→Ex w' v 0)∧Kept w w':=by
 have HC:=K7 fun w'=>BM s w' (by omega)
 have H:=K7 (DigNum.FI (chs s))
 have HQ0:Hid (∀ w',cX (chs s)≠0→Read s w' (.agg #[.bool false,.slice none 0 0,.bool false,.slice none 0 0])):=K7 fun w' h=>⟨⟨_,_,_,_,_,_,_,_,rfl⟩,fun x h1 h2=>absurd (by rw[show chs s=DigNum.cg x from h1];exact DigNum.gS h2) h⟩
 have hk0:=ak w (.cells iw.toArray 97)
 have hB:=aJ w 97 iw
 have hcut:=@DigNum.vQ s
 have hsl:=ah s
 rw[hsl] at H
 have hle:aq (chs s)≤s.size:=by have:=DigNum.fB (chs s);rwa [ah] at this
 have Hle:=K7 hle
 clear hle
 generalize cX (chs s)=z at *
 go_enter Tryz.func67,Tryz.ntmps67
 go_wp2_with fail
 generalize w.alloc (.cells iw.toArray _)=w2 at *
 refine (HC.out _).mono ?_
 rintro e w3 ⟨t,u,rfl,ht,hu,hk3⟩
 have hk:=Kept.comp _ _ _ hk0 hk3
 have hB:=hB.kept hk3
 have htz:t.size≤1000000:=by rw[←ah,ht,List.length_take];omega
 have huz:u.size≤1000000:=by rw[←ah,hu,List.length_drop];omega
 have hcut:=K7 fun x h=>hcut (t:=t) (u:=u) (x:=x) h ht hu
 have H:=H.out
 rw[←ht,←hu] at H
 have H:=K7 H
 clear HC hk0 hk3 ht hu hsl Hle
 have HT:=K7 fun w'=>ud t w'
 generalize hf:decide (aq (chs s)<s.size)=f at *
 have HQ1:Hid (f=false→∀ n:Int,aN t n→∀ w' v,Ex w' v (n:Rat)→Read s w' v):=K7 fun h n hn w' v hv=>⟨dL hv,fun x hx _=>by
  obtain⟨c1,c2,c3⟩:=hcut.out x hx
  have e1:=c1 n hn
  have e2:=c3 (by rw[h] at hf;exact of_decide_eq_false hf)
  rw[show x=(n:Rat) from Rat.ext (by rw[e1,Rat.num_intCast]) (by rw[e2,Rat.den_intCast])];exact hv⟩
 have HQ2:Hid (f=true→∀ (n:Int) (m:Nat),aN t n→aN u (m:Int)→∀ w' s1 a1 n1 c1 s2 a2 n2 c2,Whole w' (.agg #[.bool s1,.slice a1 n1 c1]) n→Whole w' (.agg #[.bool s2,.slice a2 n2 c2]) (m:Int)→Read s w' (.agg #[.bool s1,.slice a1 n1 c1,.bool s2,.slice a2 n2 c2])):=K7 fun h n m hn hm w' s1 a1 n1 c1 s2 a2 n2 c2 q1 q2=>⟨⟨_,_,_,_,_,_,_,_,rfl⟩,fun x hx _=>by
  obtain⟨g1,g2,g3⟩:=hcut.out x hx
  have e1:=g1 n hn
  have e2:=g2 (by rw[h] at hf;exact of_decide_eq_true hf) m hm
  exact oJ (by rw[e1];exact q1) (by rw[e2];exact q2)⟩
 clear hf hcut
 go_wp2_with fail
 refine (HT.out _).mono ?_
 rintro e w4 ⟨d,rfl,hd,rfl⟩
 have hdz:d.size≤1000000:=by
  have:(aE (chs t)).length≤(chs t).length:=by unfold aE;split<;>simp
  rw[←ah,hd]
  rw[ah] at this
  omega
 have HD:=K7 fun w'=>gF d w' (by omega)
 have HE:=K7 fun w'=>gF u w' (by omega)
 have Hn:=K7 fun h h0=>DigNum.Ez (t:=t) h h0
 have Hm:=K7 fun (h:bG (chs u)=true)=>(show aN u (aL (chs u):Nat) from by show chs u=bB _;rw[DigNum.di];exact DigNum.du.1 h)
 have H:=H.out
 rw[←hd] at H
 rw[←hd] at Hn
 have hdl:=ah d
 have hul:=ah u
 rw[hdl,hul] at H
 have et:=cE t [45,48]
 have eu0:=cE u [48]
 have eu1:=cE u [49]
 change _=decide (chs t=[45,48]) at et
 change _=decide (chs u=[48]) at eu0
 change _=decide (chs u=[49]) at eu1
 rw[←et,←eu0,←eu1] at H
 rw[←et] at Hn
 generalize aL (chs d)=ND at *
 generalize aL (chs u)=MD at *
 generalize bG (chs d)=T at *
 generalize bG (chs u)=B at *
 have Hh:=K7 H
 clear H HT hd hdl hul et eu0 eu1
 go_wp2_with fail
 refine (HD.out _).mono ?_
 rintro e w4 ⟨rfl,hk4⟩
 have hk:=Kept.comp _ _ _ hk hk4
 have hB:=hB.kept hk4
 have H:=Hh.out
 clear HD hk4 Hh
 cases T
 case false=>
  have HR:Hid (z=1):=K7 (H.trans rfl)
  clear H HE Hn Hm
  have r0:=hB.cell 0 rfl
  have r1:=hB.cell 1 rfl
  have r2:=hB.cell 2 rfl
  have r3:=hB.cell 3 rfl
  have f0:=hB.free 0
  have f1:=hB.free 1
  have f2:=hB.free 2
  have f3:=hB.free 3
  have HQ:=K7 fun w'=>HQ0.out w' (by rw[HR.out];decide)
  clear HQ0 HQ1 HQ2
  go_wp2
  have rB:=Blk.oC hB (.bool false) (.slice none 0 0) (.bool false) (.slice none 0 0)
  have rk:=iW hk (K6 w.heap.size) (.bool false) (.slice none 0 0) (.bool false) (.slice none 0 0)
  have p0:=rB.cell 0 rfl
  have p1:=rB.cell 1 rfl
  have p2:=rB.cell 2 rfl
  have p3:=rB.cell 3 rfl
  exact bodyPost_ret (v:=.tuple #[.agg #[.bool false,.slice none 0 0,.bool false,.slice none 0 0],.int .i64 1]) (by simp[results,Tryz.results67,go_sem,p0,p1,p2,p3]) rfl ⟨_,congrArg (fun n:Nat=>Ending.returned (.tuple #[.agg #[.bool false,.slice none 0 0,.bool false,.slice none 0 0],.int .i64 (n:Int)])) HR.out.symm,HQ.out _,fun _=>ex0 _,rk⟩
 case true=>
 cases htop:t.toList==[45,48]
 case true=>
  have HR:Hid (z=1):=K7 (H.trans (by rw[htop]<;>rfl))
  clear H HE Hn Hm
  have r0:=hB.cell 0 rfl
  have r1:=hB.cell 1 rfl
  have r2:=hB.cell 2 rfl
  have r3:=hB.cell 3 rfl
  have f0:=hB.free 0
  have f1:=hB.free 1
  have f2:=hB.free 2
  have f3:=hB.free 3
  have HQ:=K7 fun w'=>HQ0.out w' (by rw[HR.out];decide)
  clear HQ0 HQ1 HQ2
  go_wp2
  have rB:=Blk.oC hB (.bool false) (.slice none 0 0) (.bool false) (.slice none 0 0)
  have rk:=iW hk (K6 w.heap.size) (.bool false) (.slice none 0 0) (.bool false) (.slice none 0 0)
  have p0:=rB.cell 0 rfl
  have p1:=rB.cell 1 rfl
  have p2:=rB.cell 2 rfl
  have p3:=rB.cell 3 rfl
  exact bodyPost_ret (v:=.tuple #[.agg #[.bool false,.slice none 0 0,.bool false,.slice none 0 0],.int .i64 1]) (by simp[results,Tryz.results67,go_sem,p0,p1,p2,p3]) rfl ⟨_,congrArg (fun n:Nat=>Ending.returned (.tuple #[.agg #[.bool false,.slice none 0 0,.bool false,.slice none 0 0],.int .i64 (n:Int)])) HR.out.symm,HQ.out _,fun _=>ex0 _,rk⟩
 case false=>
 rw[htop] at H Hn
 obtain⟨n,hn,hnd⟩:=Hn.out rfl rfl
 have HP1:=K7 fun w'=>rJ t n w' hn htz
 have Hnn:=K7 hn
 have Hnd:=K7 hnd
 clear Hn hn hnd
 cases f
 case false=>
  have HW:=K7 fun v w' h=>wG v n w' h
  have HQ:=K7 fun w' v=>HQ1.out rfl n Hnn.out w' v
  have hu0:¬600<u.size∨600<u.size:=by omega
  by_cases h6:600<d.size
  ·have h6i:((d.size:Int)>600):=by omega
   have HR:Hid (z=4):=K7 (H.trans (by rw[decide_eq_true h6]<;>rfl))
   clear H HE HP1 HW HQ Hm
   have r0:=hB.cell 0 rfl
   have r1:=hB.cell 1 rfl
   have r2:=hB.cell 2 rfl
   have r3:=hB.cell 3 rfl
   have f0:=hB.free 0
   have f1:=hB.free 1
   have f2:=hB.free 2
   have f3:=hB.free 3
   have HQ:=K7 fun w'=>HQ0.out w' (by rw[HR.out];decide)
   clear HQ0 HQ1 HQ2
   go_wp2
   have rB:=Blk.oC hB (.bool false) (.slice none 0 0) (.bool false) (.slice none 0 0)
   have rk:=iW hk (K6 w.heap.size) (.bool false) (.slice none 0 0) (.bool false) (.slice none 0 0)
   have p0:=rB.cell 0 rfl
   have p1:=rB.cell 1 rfl
   have p2:=rB.cell 2 rfl
   have p3:=rB.cell 3 rfl
   exact bodyPost_ret (v:=.tuple #[.agg #[.bool false,.slice none 0 0,.bool false,.slice none 0 0],.int .i64 4]) (by simp[results,Tryz.results67,go_sem,p0,p1,p2,p3]) rfl ⟨_,congrArg (fun n:Nat=>Ending.returned (.tuple #[.agg #[.bool false,.slice none 0 0,.bool false,.slice none 0 0],.int .i64 (n:Int)])) HR.out.symm,HQ.out _,fun _=>ex0 _,rk⟩
  have h6i:¬((d.size:Int)>600):=by omega
  rw[decide_eq_false h6] at H
  by_cases h7:600<u.size
  ·have h7i:((u.size:Int)>600):=by omega
   have HR:Hid (z=4):=K7 (H.trans (by rw[decide_eq_true h7]<;>rfl))
   clear H HE HP1 HW HQ Hm hu0
   have r0:=hB.cell 0 rfl
   have r1:=hB.cell 1 rfl
   have r2:=hB.cell 2 rfl
   have r3:=hB.cell 3 rfl
   have f0:=hB.free 0
   have f1:=hB.free 1
   have f2:=hB.free 2
   have f3:=hB.free 3
   have HQ:=K7 fun w'=>HQ0.out w' (by rw[HR.out];decide)
   clear HQ0 HQ1 HQ2
   go_wp2
   have rB:=Blk.oC hB (.bool false) (.slice none 0 0) (.bool false) (.slice none 0 0)
   have rk:=iW hk (K6 w.heap.size) (.bool false) (.slice none 0 0) (.bool false) (.slice none 0 0)
   have p0:=rB.cell 0 rfl
   have p1:=rB.cell 1 rfl
   have p2:=rB.cell 2 rfl
   have p3:=rB.cell 3 rfl
   exact bodyPost_ret (v:=.tuple #[.agg #[.bool false,.slice none 0 0,.bool false,.slice none 0 0],.int .i64 4]) (by simp[results,Tryz.results67,go_sem,p0,p1,p2,p3]) rfl ⟨_,congrArg (fun n:Nat=>Ending.returned (.tuple #[.agg #[.bool false,.slice none 0 0,.bool false,.slice none 0 0],.int .i64 (n:Int)])) HR.out.symm,HQ.out _,fun _=>ex0 _,rk⟩
  have h7i:¬((u.size:Int)>600):=by omega
  have HR:Hid (z=0):=K7 (H.trans (by rw[decide_eq_false h7]<;>rfl))
  clear H HE Hm HQ0 HQ1 HQ2 hu0
  go_wp2_with fail
  refine (HP1.out _).mono ?_
  rintro e w5 ⟨v1,rfl,hv1,hk5⟩
  have hk:=Kept.comp _ _ _ hk hk5
  have hB:=hB.kept hk5
  obtain⟨s1,a1,n1,c1,rfl⟩:=aO hv1
  have kn:=ak w5 (.cells ([.bool s1,.slice a1 n1 c1]).toArray 95)
  have B5:=aJ w5 95 [.bool s1,.slice a1 n1 c1]
  have q0:=B5.cell 0 rfl
  have q1:=B5.cell 1 rfl
  clear HP1 hk5
  go_wp2_with fail
  have hv1:=hv1.kept kn
  have hk:=Kept.comp _ _ _ hk kn
  have hB:=hB.kept kn
  generalize w5.alloc (.cells [.bool s1,.slice a1 n1 c1].toArray _)=w6 at *
  refine (HW.out _ _ hv1).mono ?_
  rintro e w7 ⟨v,rfl,hv,hk7⟩
  have hk:=Kept.comp _ _ _ hk hk7
  have hB:=hB.kept hk7
  obtain⟨s3,a3,n3,c3,s4,a4,n4,c4,rfl⟩:=dL hv
  have r0:=hB.cell 0 rfl
  have r1:=hB.cell 1 rfl
  have r2:=hB.cell 2 rfl
  have r3:=hB.cell 3 rfl
  have f0:=hB.free 0
  have f1:=hB.free 1
  have f2:=hB.free 2
  have f3:=hB.free 3
  clear HW hk7 kn q0 q1 hv1 B5
  go_wp2
  obtain⟨rB,rv,rk⟩:=GS (w:=w) hB (K6 _) hk hv
  have p0:=rB.cell 0 rfl
  have p1:=rB.cell 1 rfl
  have p2:=rB.cell 2 rfl
  have p3:=rB.cell 3 rfl
  exact bodyPost_ret (v:=.tuple #[.agg #[.bool s3,.slice a3 n3 c3,.bool s4,.slice a4 n4 c4],.int .i64 0]) (by simp[results,Tryz.results67,go_sem,p0,p1,p2,p3]) rfl ⟨_,congrArg (fun n:Nat=>Ending.returned (.tuple #[.agg #[.bool s3,.slice a3 n3 c3,.bool s4,.slice a4 n4 c4],.int .i64 (n:Int)])) HR.out.symm,HQ.out _ _ rv,fun h=>absurd HR.out h,rk⟩
 case true=>
 have Hh:=K7 H
 clear H
 go_wp2_with fail
 refine (HE.out _).mono ?_
 rintro e w4 ⟨rfl,hk4⟩
 have hk:=Kept.comp _ _ _ hk hk4
 have hB:=hB.kept hk4
 have H:=Hh.out
 clear HE hk4 Hh
 cases B
 case false=>
  have HR:Hid (z=1):=K7 (H.trans rfl)
  clear H HP1 Hm
  have r0:=hB.cell 0 rfl
  have r1:=hB.cell 1 rfl
  have r2:=hB.cell 2 rfl
  have r3:=hB.cell 3 rfl
  have f0:=hB.free 0
  have f1:=hB.free 1
  have f2:=hB.free 2
  have f3:=hB.free 3
  have HQ:=K7 fun w'=>HQ0.out w' (by rw[HR.out];decide)
  clear HQ0 HQ1 HQ2
  go_wp2
  have rB:=Blk.oC hB (.bool false) (.slice none 0 0) (.bool false) (.slice none 0 0)
  have rk:=iW hk (K6 w.heap.size) (.bool false) (.slice none 0 0) (.bool false) (.slice none 0 0)
  have p0:=rB.cell 0 rfl
  have p1:=rB.cell 1 rfl
  have p2:=rB.cell 2 rfl
  have p3:=rB.cell 3 rfl
  exact bodyPost_ret (v:=.tuple #[.agg #[.bool false,.slice none 0 0,.bool false,.slice none 0 0],.int .i64 1]) (by simp[results,Tryz.results67,go_sem,p0,p1,p2,p3]) rfl ⟨_,congrArg (fun n:Nat=>Ending.returned (.tuple #[.agg #[.bool false,.slice none 0 0,.bool false,.slice none 0 0],.int .i64 (n:Int)])) HR.out.symm,HQ.out _,fun _=>ex0 _,rk⟩
 case true=>
 cases hb0:u.toList==[48]
 case true=>
  have HR:Hid (z=1):=K7 (H.trans (by rw[hb0]<;>rfl))
  clear H HP1 Hm
  have r0:=hB.cell 0 rfl
  have r1:=hB.cell 1 rfl
  have r2:=hB.cell 2 rfl
  have r3:=hB.cell 3 rfl
  have f0:=hB.free 0
  have f1:=hB.free 1
  have f2:=hB.free 2
  have f3:=hB.free 3
  have HQ:=K7 fun w'=>HQ0.out w' (by rw[HR.out];decide)
  clear HQ0 HQ1 HQ2
  go_wp2
  have rB:=Blk.oC hB (.bool false) (.slice none 0 0) (.bool false) (.slice none 0 0)
  have rk:=iW hk (K6 w.heap.size) (.bool false) (.slice none 0 0) (.bool false) (.slice none 0 0)
  have p0:=rB.cell 0 rfl
  have p1:=rB.cell 1 rfl
  have p2:=rB.cell 2 rfl
  have p3:=rB.cell 3 rfl
  exact bodyPost_ret (v:=.tuple #[.agg #[.bool false,.slice none 0 0,.bool false,.slice none 0 0],.int .i64 1]) (by simp[results,Tryz.results67,go_sem,p0,p1,p2,p3]) rfl ⟨_,congrArg (fun n:Nat=>Ending.returned (.tuple #[.agg #[.bool false,.slice none 0 0,.bool false,.slice none 0 0],.int .i64 (n:Int)])) HR.out.symm,HQ.out _,fun _=>ex0 _,rk⟩
 case false=>
 rw[hb0] at H
 cases hb1:u.toList==[49]
 case true=>
  have HR:Hid (z=1):=K7 (H.trans (by rw[hb1]<;>rfl))
  clear H HP1 Hm
  have r0:=hB.cell 0 rfl
  have r1:=hB.cell 1 rfl
  have r2:=hB.cell 2 rfl
  have r3:=hB.cell 3 rfl
  have f0:=hB.free 0
  have f1:=hB.free 1
  have f2:=hB.free 2
  have f3:=hB.free 3
  have HQ:=K7 fun w'=>HQ0.out w' (by rw[HR.out];decide)
  clear HQ0 HQ1 HQ2
  go_wp2
  have rB:=Blk.oC hB (.bool false) (.slice none 0 0) (.bool false) (.slice none 0 0)
  have rk:=iW hk (K6 w.heap.size) (.bool false) (.slice none 0 0) (.bool false) (.slice none 0 0)
  have p0:=rB.cell 0 rfl
  have p1:=rB.cell 1 rfl
  have p2:=rB.cell 2 rfl
  have p3:=rB.cell 3 rfl
  exact bodyPost_ret (v:=.tuple #[.agg #[.bool false,.slice none 0 0,.bool false,.slice none 0 0],.int .i64 1]) (by simp[results,Tryz.results67,go_sem,p0,p1,p2,p3]) rfl ⟨_,congrArg (fun n:Nat=>Ending.returned (.tuple #[.agg #[.bool false,.slice none 0 0,.bool false,.slice none 0 0],.int .i64 (n:Int)])) HR.out.symm,HQ.out _,fun _=>ex0 _,rk⟩
 case false=>
 rw[hb1] at H
 by_cases h6:600<d.size
 ·have h6i:((d.size:Int)>600):=by omega
  have HR:Hid (z=4):=K7 (H.trans (by rw[decide_eq_true h6]<;>rfl))
  clear H HP1 Hm
  have r0:=hB.cell 0 rfl
  have r1:=hB.cell 1 rfl
  have r2:=hB.cell 2 rfl
  have r3:=hB.cell 3 rfl
  have f0:=hB.free 0
  have f1:=hB.free 1
  have f2:=hB.free 2
  have f3:=hB.free 3
  have HQ:=K7 fun w'=>HQ0.out w' (by rw[HR.out];decide)
  clear HQ0 HQ1 HQ2
  go_wp2
  have rB:=Blk.oC hB (.bool false) (.slice none 0 0) (.bool false) (.slice none 0 0)
  have rk:=iW hk (K6 w.heap.size) (.bool false) (.slice none 0 0) (.bool false) (.slice none 0 0)
  have p0:=rB.cell 0 rfl
  have p1:=rB.cell 1 rfl
  have p2:=rB.cell 2 rfl
  have p3:=rB.cell 3 rfl
  exact bodyPost_ret (v:=.tuple #[.agg #[.bool false,.slice none 0 0,.bool false,.slice none 0 0],.int .i64 4]) (by simp[results,Tryz.results67,go_sem,p0,p1,p2,p3]) rfl ⟨_,congrArg (fun n:Nat=>Ending.returned (.tuple #[.agg #[.bool false,.slice none 0 0,.bool false,.slice none 0 0],.int .i64 (n:Int)])) HR.out.symm,HQ.out _,fun _=>ex0 _,rk⟩
 have h6i:¬((d.size:Int)>600):=by omega
 rw[decide_eq_false h6] at H
 by_cases h7:600<u.size
 ·have h7i:((u.size:Int)>600):=by omega
  have HR:Hid (z=4):=K7 (H.trans (by rw[decide_eq_true h7]<;>rfl))
  clear H HP1 Hm
  have r0:=hB.cell 0 rfl
  have r1:=hB.cell 1 rfl
  have r2:=hB.cell 2 rfl
  have r3:=hB.cell 3 rfl
  have f0:=hB.free 0
  have f1:=hB.free 1
  have f2:=hB.free 2
  have f3:=hB.free 3
  have HQ:=K7 fun w'=>HQ0.out w' (by rw[HR.out];decide)
  clear HQ0 HQ1 HQ2
  go_wp2
  have rB:=Blk.oC hB (.bool false) (.slice none 0 0) (.bool false) (.slice none 0 0)
  have rk:=iW hk (K6 w.heap.size) (.bool false) (.slice none 0 0) (.bool false) (.slice none 0 0)
  have p0:=rB.cell 0 rfl
  have p1:=rB.cell 1 rfl
  have p2:=rB.cell 2 rfl
  have p3:=rB.cell 3 rfl
  exact bodyPost_ret (v:=.tuple #[.agg #[.bool false,.slice none 0 0,.bool false,.slice none 0 0],.int .i64 4]) (by simp[results,Tryz.results67,go_sem,p0,p1,p2,p3]) rfl ⟨_,congrArg (fun n:Nat=>Ending.returned (.tuple #[.agg #[.bool false,.slice none 0 0,.bool false,.slice none 0 0],.int .i64 (n:Int)])) HR.out.symm,HQ.out _,fun _=>ex0 _,rk⟩
 have h7i:¬((u.size:Int)>600):=by omega
 rw[decide_eq_false h7] at H
 have hm:=Hm.out rfl
 have HP2:=K7 fun w'=>rJ u MD w' hm huz
 have HX:=K7 fun w' s1 a1 n1 c1 s2 a2 n2 c2=>HQ2.out (by trivial) n MD Hnn.out hm w' s1 a1 n1 c1 s2 a2 n2 c2
 have zb1:n.natAbs<10^t.size:=by
  have h1:=Hnn.out.size
  rw[DigNum.bw] at h1
  exact Nat.lt_of_lt_of_le (DigNum.dx _) (Nat.pow_le_pow_right (by decide) (by omega))
 have zb2:((MD:Nat):Int).natAbs<10^u.size:=by
  have h1:=hm.size
  rw[DigNum.bw] at h1
  exact Nat.lt_of_lt_of_le (DigNum.dx _) (Nat.pow_le_pow_right (by decide) (by omega))
 have HV:=K7 fun va vb w' h1 h2=>dQ va vb n MD w' h1 h2 (Nat.le_trans (aX zb1) (by omega)) (Nat.le_trans (aX zb2) (by omega))
 have zb3:Nat.gcd n.natAbs MD<10^t.size∨n.natAbs=0:=by
  rcases Nat.eq_zero_or_pos n.natAbs with h|h
  ·exact .inr h
  ·exact .inl (Nat.lt_of_le_of_lt (Nat.le_of_dvd h (Nat.gcd_dvd_left _ _)) zb1)
 have zb4:((Nat.gcd n.natAbs MD:Nat):Int).natAbs<10^(t.size+u.size):=by
  rw[Int.natAbs_natCast]
  rcases zb3 with h|h
  ·exact Nat.lt_of_lt_of_le h (Nat.pow_le_pow_right (by decide) (by omega))
  ·rw[h,Nat.gcd_zero_left]
   rw[Int.natAbs_natCast] at zb2
   exact Nat.lt_of_lt_of_le zb2 (Nat.pow_le_pow_right (by decide) (by omega))
 have HO:=K7 fun v w' h=>mD v ((Nat.gcd n.natAbs MD:Nat):Int) w' h (Nat.le_trans (aX zb4) (by omega))
 rw[Int.natAbs_natCast] at HV
 have Hg1:=K7 (show decide (((Nat.gcd n.natAbs MD:Nat):Int)=1)=decide (Nat.gcd ND MD=1) by
  rw[Hnd.out];congr 1;rw[eq_iff_iff];omega)
 rw[Hg1.out] at HO
 generalize ((Nat.gcd n.natAbs MD:Nat):Int)=g at *
 have Hh:=K7 H
 clear hm zb1 zb2 zb3 zb4 Hg1 Hnn Hnd Hm HQ1 HQ2 H
 go_wp2_with fail
 refine (HP1.out _).mono ?_
 rintro e w5 ⟨v1,rfl,hv1,hk5⟩
 have hk:=Kept.comp _ _ _ hk hk5
 have hB:=hB.kept hk5
 obtain⟨s1,a1,n1,c1,rfl⟩:=aO hv1
 have kn:=ak w5 (.cells ([.bool s1,.slice a1 n1 c1]).toArray 95)
 have B5:=aJ w5 95 [.bool s1,.slice a1 n1 c1]
 clear HP1 hk5
 go_wp2_with fail
 have hv1:=hv1.kept kn
 have hk:=Kept.comp _ _ _ hk kn
 have hB:=hB.kept kn
 generalize w5.alloc (.cells [.bool s1,.slice a1 n1 c1].toArray _)=w6 at *
 generalize w5.heap.size=z5 at *
 clear kn
 refine (HP2.out _).mono ?_
 rintro e w7 ⟨v2,rfl,hv2,hk7⟩
 have hk:=Kept.comp _ _ _ hk hk7
 have hB:=hB.kept hk7
 have hv1:=hv1.kept hk7
 have B5:=B5.kept hk7
 obtain⟨s2,a2,n2,c2,rfl⟩:=aO hv2
 have kn:=ak w7 (.cells ([.bool s2,.slice a2 n2 c2]).toArray 95)
 have B7:=aJ w7 95 [.bool s2,.slice a2 n2 c2]
 have B5:=B5.kept kn
 have q0:=B5.cell 0 rfl
 have q1:=B5.cell 1 rfl
 have q2:=B7.cell 0 rfl
 have q3:=B7.cell 1 rfl
 clear HP2 hk7
 go_wp2_with fail
 have hv1:=hv1.kept kn
 have hv2:=hv2.kept kn
 have hk:=Kept.comp _ _ _ hk kn
 have hB:=hB.kept kn
 generalize w7.alloc (.cells [.bool s2,.slice a2 n2 c2].toArray _)=w8 at *
 generalize w7.heap.size=z7 at *
 clear kn
 refine (HV.out _ _ _ hv1 hv2).mono ?_
 rintro e w9 ⟨vg,rfl,hg,hk9⟩
 have hk:=Kept.comp _ _ _ hk hk9
 have hB:=hB.kept hk9
 have hv1:=hv1.kept hk9
 have hv2:=hv2.kept hk9
 have B5:=B5.kept hk9
 have B7:=B7.kept hk9
 clear hk9 HV
 go_wp2_with fail
 refine (HO.out _ _ hg).mono ?_
 rintro e w10 ⟨rfl,hk9⟩
 have hk:=Kept.comp _ _ _ hk hk9
 have hB:=hB.kept hk9
 have hv1:=hv1.kept hk9
 have hv2:=hv2.kept hk9
 have B5:=B5.kept hk9
 have B7:=B7.kept hk9
 have q0:=B5.cell 0 rfl
 have q1:=B5.cell 1 rfl
 have q2:=B7.cell 0 rfl
 have q3:=B7.cell 1 rfl
 have r0:=hB.cell 0 rfl
 have r1:=hB.cell 1 rfl
 have r2:=hB.cell 2 rfl
 have r3:=hB.cell 3 rfl
 have f0:=hB.free 0
 have f1:=hB.free 1
 have f2:=hB.free 2
 have f3:=hB.free 3
 have H:=Hh.out
 clear hk9 HO hg Hh
 by_cases hgg:Nat.gcd ND MD=1
 ·rw[decide_eq_true hgg]
  have HR:Hid (z=0):=K7 (H.trans (by rw[decide_eq_true hgg]<;>rfl))
  clear H HQ0 hgg
  go_wp2
  have rB:=Blk.oC hB (.bool s1) (.slice a1 n1 c1) (.bool s2) (.slice a2 n2 c2)
  have rk:=iW hk (K6 w.heap.size) (.bool s1) (.slice a1 n1 c1) (.bool s2) (.slice a2 n2 c2)
  have p0:=rB.cell 0 rfl
  have p1:=rB.cell 1 rfl
  have p2:=rB.cell 2 rfl
  have p3:=rB.cell 3 rfl
  have g1:=cP (w':=(((w10.setCell ⟨w.heap.size,0,none⟩ (.bool s1)).setCell ⟨w.heap.size,1,none⟩ (.slice a1 n1 c1)).setCell ⟨w.heap.size,2,none⟩ (.bool s2)).setCell ⟨w.heap.size,3,none⟩ (.slice a2 n2 c2)) hv1 hB nF (by simp[World.setCell]) (tF _ _ _ _ _ _)
  have g2:=cP (w':=(((w10.setCell ⟨w.heap.size,0,none⟩ (.bool s1)).setCell ⟨w.heap.size,1,none⟩ (.slice a1 n1 c1)).setCell ⟨w.heap.size,2,none⟩ (.bool s2)).setCell ⟨w.heap.size,3,none⟩ (.slice a2 n2 c2)) hv2 hB nF (by simp[World.setCell]) (tF _ _ _ _ _ _)
  exact bodyPost_ret (v:=.tuple #[.agg #[.bool s1,.slice a1 n1 c1,.bool s2,.slice a2 n2 c2],.int .i64 0]) (by simp[results,Tryz.results67,go_sem,p0,p1,p2,p3]) rfl ⟨_,congrArg (fun n:Nat=>Ending.returned (.tuple #[.agg #[.bool s1,.slice a1 n1 c1,.bool s2,.slice a2 n2 c2],.int .i64 (n:Int)])) HR.out.symm,HX.out _ _ _ _ _ _ _ _ _ g1 g2,fun h=>absurd HR.out h,rk⟩
 ·rw[decide_eq_false hgg]
  have HR:Hid (z=1):=K7 (H.trans (by rw[decide_eq_false hgg]<;>rfl))
  have HQ:=K7 fun w'=>HQ0.out w' (by rw[HR.out];decide)
  clear H HQ0 hgg HX
  go_wp2
  have rB:=Blk.oC hB (.bool false) (.slice none 0 0) (.bool false) (.slice none 0 0)
  have rk:=iW hk (K6 w.heap.size) (.bool false) (.slice none 0 0) (.bool false) (.slice none 0 0)
  have p0:=rB.cell 0 rfl
  have p1:=rB.cell 1 rfl
  have p2:=rB.cell 2 rfl
  have p3:=rB.cell 3 rfl
  exact bodyPost_ret (v:=.tuple #[.agg #[.bool false,.slice none 0 0,.bool false,.slice none 0 0],.int .i64 1]) (by simp[results,Tryz.results67,go_sem,p0,p1,p2,p3]) rfl ⟨_,congrArg (fun n:Nat=>Ending.returned (.tuple #[.agg #[.bool false,.slice none 0 0,.bool false,.slice none 0 0],.int .i64 (n:Int)])) HR.out.symm,HQ.out _,fun _=>ex0 _,rk⟩
end Go.Proofs.YtjbcmmaniphkkaaGreatDoor.E
namespace Go.Proofs.YtjbcmmaniphkkaaGreatDoor.E
open Go.RowKit LimbNum Go.Sort
open DigNum (chs ah bP aH aC aq aE bG jt bB bh nd aN aL)
def TB (w : World) : Prop := ∀ w', Kept w w' → Lib.TabIs Tryz.prog w' "internal/strconv.uint64pow10" .u64 Lib.pow10Tab
theorem TB.kept {w w':World} (h:TB w) (k:Kept w w'):TB w':=fun w2 k2=>h w2 (Kept.comp _ _ _ k k2)
theorem TB.here {w : World} (h : TB w) : Lib.TabIs Tryz.prog w "internal/strconv.uint64pow10" .u64 Lib.pow10Tab := h w (Kept.rfl' w)
theorem ke (u:Nat):chs (ByteArray.mk (Lib.decDigits u).toArray)=bh u:=by
 rw[wS]
 induction u using Nat.strongRecOn with
 | ind u ih=>
  rw[Lib.decDigits]
  split
  ·rename_i h
   rw[bh,DigNum.jz h]
   simp only[List.map_cons,List.map_nil,DigNum.cN,Nat.pow_zero,Nat.div_one,Nat.mod_eq_of_lt h]
   rw[UInt8.toNat_ofNat',Nat.mod_eq_of_lt (by omega)]
  ·rename_i h
   rw[List.map_append,ih (u/10) (by omega),bh,bh,DigNum.Dz h]
   have e:=DigNum.gv (u/10) (u%10) 1 (by have:=Nat.mod_lt u (show 10>0 by decide);omega) (nd (u/10))
   rw[show u/10*10^1+u%10=u by omega] at e
   rw[e]
   congr 1
   simp only[List.map_cons,List.map_nil,DigNum.cN,Nat.pow_zero,Nat.div_one,Nat.mod_mod]
   rw[UInt8.toNat_ofNat',Nat.mod_eq_of_lt (by omega)]
theorem holds_zero0 (w:World) (T:TypeId) (n:Nat) (hs:n≤24):Holds (fun (b:UInt8)=>Value.int .u8 (b.toNat:Int)) (w.alloc (.cells Lib.zeros24 T)) w.heap.size 0 (Array.replicate n (0:UInt8)):=fun j hj=>by
 have hj':j<n:=by rw[Array.size_replicate] at hj;exact hj
 refine ⟨?_,World.frozen?_alloc_new _ _ _ _⟩
 rw[World.cell?_alloc_new,Lib.zeros24_at _ (by omega),getElem!_pos _ j hj]
 simp
theorem Ec {w:World} (o:Obj) (dk:Array UInt8) (k off:Nat):Kept w ((putRow (fun (b:UInt8)=>Value.int .u8 (b.toNat:Int)) (w.alloc o) w.heap.size off dk).drewN k):=by
 obtain⟨os,e⟩:=Lib.fin_at w o dk k off
 rw[e]
 refine ⟨rfl,rfl,rfl,by simp[grow,World.drewN],fun b hb=>?_⟩
 rw[heap_grow_old _ _ (by simpa [World.drewN] using hb)]
 rfl
theorem re (u:Nat) (w:World) (h100:100≤u) (hu64:u<18446744073709551616) (ht:TB w) :
  Calls Tryz.prog 267 #[.int .u64 u,.int .i64 10] w fun e w'=>∃ t:ByteArray,e=.returned (.string t)∧chs t=bh u∧Kept w w':=by
 have hu1:1≤u:=by omega
 have hnd20:Lib.nDigits u≤20:=by have:=Lib.numDigits_eq u hu1 hu64;split at this<;>omega
 have hnd0:=Lib.nDigits_pos u
 have hal:Tryz.prog.arrayLen 306=24:=by rfl
 have hsl:∀ W,(Instr.sliceAt 306 (.pointer (some ⟨w.heap.size,0,none⟩)) none (some (.int .i64 (Lib.nDigits u:Int))) none).run Tryz.prog W=.ok (.slice (some ⟨w.heap.size,0,none⟩) (Lib.nDigits u) 24) W:=fun W=>by
  rw[run_sliceAt_array_h W 306 ⟨w.heap.size,0,none⟩ (by rfl) .i64 (Lib.nDigits u:Int) (by omega) (by rw[hal];omega)]
  go_simp
 have hH0:=holds_zero0 w 306 (Lib.nDigits u) (by omega)
 have hfmt:=Go.Proofs.Tryz.internal_strconv_formatBase10 w.heap.size 0 24 u (Array.replicate (Lib.nDigits u) 0) (w.alloc (.cells Lib.zeros24 306)) hH0 (by rw[Array.size_replicate];exact Lib.lt_pow_nDigits u) hu64 (by rw[Array.size_replicate];omega)
 rw[Array.size_replicate] at hfmt
 have HND:=K7 fun w' (h:TB w')=>Go.Proofs.Tryz.internal_strconv_numDigits u hu1 hu64 w' h.here
 have HT:=K7 (ht.kept (ak w (.cells Lib.zeros24 306)))
 have Hfmt:=K7 hfmt
 have HH0:=K7 hH0
 have Hu:=K7 hu64
 have h100i:¬((u:Int)<100):=by omega
 clear hfmt hH0 hal hu64 ht h100
 go_enter Tryz.func267,Tryz.ntmps267
 go_wp2_with fail
 refine (HND.out _ HT.out).mono ?_
 rintro e w2 ⟨rfl,rfl⟩
 go_wp2_with fail
 refine Hfmt.out.mono ?_
 rintro e w3 ⟨rfl,k,v',dk,rfl,hF⟩
 have hcv:(convert 289 9 (.slice (some ⟨w.heap.size,0,none⟩) (Lib.nDigits u) 24)).run Tryz.prog ((putRow (fun (b:UInt8)=>Value.int .u8 (b.toNat:Int)) (w.alloc (.cells Lib.zeros24 306)) w.heap.size 0 dk).drewN k)=.ok (.string ⟨(Lib.decDigits u).toArray⟩) ((putRow (fun (b:UInt8)=>Value.int .u8 (b.toNat:Int)) (w.alloc (.cells Lib.zeros24 306)) w.heap.size 0 dk).drewN k):=by
  have h:=run_convert_bytes_back (P:=Tryz.prog) ((putRow (fun (b:UInt8)=>Value.int .u8 (b.toNat:Int)) (w.alloc (.cells Lib.zeros24 306)) w.heap.size 0 dk).drewN k) 289 9 5 ⟨w.heap.size,0,none⟩ 24 (Lib.decDigits u) (by rfl) (by rfl) (by rfl) (fun j hj=>by
   rw[Lib.row_is_numeral hF j hj,Lib.add_plain,World.cell?_drewN]
   exact cell?_putRow (fun (b:UInt8)=>Value.int .u8 (b.toNat:Int)) _ w.heap.size 0 _ dk HH0.out (by rw[hF.size,Array.size_replicate]) j (by rw[hF.size];rw[Lib.decDigits_length] at hj;exact hj))
  rw[Lib.decDigits_length] at h
  exact h
 have hk:=K7 (Ec (w:=w) (.cells Lib.zeros24 306) dk k 0)
 have HR:=K7 (ke u)
 clear hF HH0 Hfmt HT HND Hu
 go_wp2
 go_ret
 exact⟨_,rfl,HR.out,hk.out⟩
end Go.Proofs.YtjbcmmaniphkkaaGreatDoor.E
namespace Go.Proofs.YtjbcmmaniphkkaaGreatDoor.E
open Go.RowKit LimbNum Go.Sort
open DigNum (chs ah bP aH aC aq aE bG jt bB bh nd cN aN aL gX fN kM)
theorem Tryz.uO:(Tryz.prog.info? 9).map (fun i=>(i.zero,i.size,i.bytes))=some (some (.string (ByteArray.mk #[])),1,16):=by kernel_rfl
theorem oe (u:Nat) (w:World) (h:u<100) :
  Calls Tryz.prog 267 #[.int .u64 u,.int .i64 10] w fun e w'=>∃ t:ByteArray,e=.returned (.string t)∧chs t=bh u∧Kept w w':=by
 have HS:=K7 fun w'=>Go.Proofs.Tryz.internal_strconv_small u h w'
 have HR:=K7 (ke u)
 have hi:((u:Int)<100):=by omega
 have x1:IntKind.i64.wrap (u:Int)=(u:Int):=IntWalk.i64_in _ (by omega)
 generalize Lib.decDigits u=l at *
 go_enter Tryz.func267,Tryz.ntmps267
 go_wp2_with fail
 refine (HS.out _).mono ?_
 rintro e w2 ⟨rfl,rfl⟩
 clear HS
 go_wp2
 go_ret
 exact⟨_,rfl,HR.out,Kept.rfl' _⟩
theorem pa (u:Nat) (w:World) (hu:u<18446744073709551616) (ht:TB w) :
  Calls Tryz.prog 254 #[.int .u64 u,.int .i64 10] w fun e w'=>∃ t:ByteArray,e=.returned (.string t)∧chs t=bh u∧Kept w w':=by
 have HF:=K7 fun w' (h:TB w')=>(show Calls Tryz.prog 267 #[.int .u64 u,.int .i64 10] w' fun e w2=>∃ t:ByteArray,e=.returned (.string t)∧chs t=bh u∧Kept w' w2 from by
  by_cases h1:u<100
  ·exact oe u w' h1
  ·exact re u w' (by omega) hu h)
 have Ht:=K7 ht
 clear hu ht
 go_enter Tryz.func254,Tryz.ntmps254
 go_wp2_with fail
 refine (HF.out _ Ht.out).mono ?_
 rintro e w2 ⟨t,rfl,h,hk⟩
 have H:=K7 h
 clear HF h Ht
 go_wp2
 go_ret
 exact⟨_,rfl,H.out,hk⟩
theorem Aq {N x k m:Nat} (hN:N<2^m) (hx:0<x) (h:x*2^k≤N):k<m:=by
 rcases Nat.lt_or_ge k m with h1|h1
 ·exact h1
 ·have h2:2^m≤2^k:=Nat.pow_le_pow_right (by decide) h1
  have h4:=Nat.le_mul_of_pos_left (2^k) hx
  omega
theorem vN (c:Nat):chs (ByteArray.mk (Lib.repeatL [48] c).toArray)=List.replicate c 48:=by
 rw[wS]
 induction c with
 | zero=>rfl
 | succ c ih=>simp only[Lib.repeatL,List.map_append,ih];rfl
theorem qk {w:World} {B n:Nat} {v:Value} {ps:List ByteArray} (h:w.ownsRow B 9 1 v n (ps.map Value.string)) (hn:0<n) :
  ∃ g c,v=.slice (some ⟨g,0,none⟩) n c∧B≤g∧n≤c∧g<w.heap.size∧ps.length=n∧(∀ i,i<n→w.cell? ⟨g,0+i,none⟩=some (.string (ps.getD i (ByteArray.mk #[]))))∧(∀ i,i<n→w.frozen? ⟨g,0+i,none⟩=false):=by
 have hl:ps.length=n:=by have:=h.1;simpa using this
 rcases h.2 with ⟨_,h0⟩|⟨g,c,cur,rfl,hg,hc,h1,h2,h3,h4⟩
 ·omega
 ·refine ⟨g,c,rfl,hg,h1,(Array.getElem?_eq_some_iff.1 hc).1,hl,fun i hi=>?_,fun i hi=>?_⟩
  ·rw[Nat.zero_add,h.cellAt i (by omega),List.getElem?_map,List.getD_eq_getElem?_getD,List.getElem?_eq_getElem (by omega)];rfl
  ·rw[Nat.zero_add];exact h.frozenAt i
theorem zP (v:Value) (w:World) (h:Whole w v 0) :
  Calls Tryz.prog 229 #[v] w fun e w'=>∃ t:ByteArray,e=.returned (.string t)∧aN t 0∧Kept w w':=by
 obtain⟨l,rfl,hl⟩:=h
 obtain⟨a1,c1,rfl,_,_⟩:=id hl
 have hk1:=ak w (.cells #[.bool false,.slice a1 0 c1] 95)
 have R:=K7 (show aN (ByteArray.mk #[48]) 0 from by show chs _=bB 0;rw[show bB 0=bh 0 from DigNum.di 0,DigNum.dS];rfl)
 change Calls _ _ #[.agg #[.bool false,.slice a1 0 c1]] w _
 go_enter Tryz.func229,Tryz.ntmps229
 go_wp2
 go_ret
 exact⟨_,rfl,R.out,hk1⟩
end Go.Proofs.YtjbcmmaniphkkaaGreatDoor.E
