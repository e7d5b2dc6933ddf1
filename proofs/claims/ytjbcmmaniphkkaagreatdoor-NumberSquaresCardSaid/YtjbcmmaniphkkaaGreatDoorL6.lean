import Derived.Test.YtjbcmmaniphkkaaGreatDoorL5
set_option linter.unusedSectionVars false
set_option linter.unusedVariables false
set_option linter.unusedSimpArgs false
set_option maxRecDepth 100000
set_option maxHeartbeats 4000000
namespace Go.Proofs.YtjbcmmaniphkkaaGreatDoor
open Go.RowKit LimbNum
def dN (w:World) (b:Nat) (c0 c1 c2 c3:Int):Prop:=w.heap[b]?=some (.cells #[.int .u64 c0,.int .u64 c1,.int .u64 c2,.int .u64 c3] 269 (0,0))
theorem dN.cell0 {w:World} {b:Nat} {c0 c1 c2 c3:Int} (h:dN w b c0 c1 c2 c3):w.cell? ⟨b,0,none⟩=some (.int .u64 c0):=by unfold World.cell?;rw[h];rfl
theorem dN.iS {w:World} {b:Nat} {c0 c1 c2 c3:Int} (h:dN w b c0 c1 c2 c3):w.cell? ⟨b,1,none⟩=some (.int .u64 c1):=by unfold World.cell?;rw[h];rfl
theorem dN.iT {w:World} {b:Nat} {c0 c1 c2 c3:Int} (h:dN w b c0 c1 c2 c3):w.cell? ⟨b,2,none⟩=some (.int .u64 c2):=by unfold World.cell?;rw[h];rfl
theorem dN.iU {w:World} {b:Nat} {c0 c1 c2 c3:Int} (h:dN w b c0 c1 c2 c3):w.cell? ⟨b,3,none⟩=some (.int .u64 c3):=by unfold World.cell?;rw[h];rfl
theorem dN.free {w:World} {b:Nat} {c0 c1 c2 c3:Int} (h:dN w b c0 c1 c2 c3) (i:Nat):w.frozen? ⟨b,i,none⟩=false:=by unfold World.frozen?;rw[h];simp
theorem dN.set {w:World} {b:Nat} {c0 c1 c2 c3:Int} (h:dN w b c0 c1 c2 c3) (d0 d1 d2 d3:Int) :
  dN ((((w.setCell ⟨b,0,none⟩ (.int .u64 d0)).setCell ⟨b,1,none⟩ (.int .u64 d1)).setCell ⟨b,2,none⟩ (.int .u64 d2)).setCell ⟨b,3,none⟩ (.int .u64 d3)) b d0 d1 d2 d3:=by
 unfold dN at *
 have h0:=heap_setCell_same w b 0 _ _ (.int .u64 d0) h
 have h1:=heap_setCell_same _ b 1 _ _ (.int .u64 d1) h0
 have h2:=heap_setCell_same _ b 2 _ _ (.int .u64 d2) h1
 have h3:=heap_setCell_same _ b 3 _ _ (.int .u64 d3) h2
 exact h3
theorem dN.other {w:World} {b b' i:Nat} {v:Value} {c0 c1 c2 c3:Int} (h:dN w b c0 c1 c2 c3) (hne:b≠b'):dN (w.setCell ⟨b',i,none⟩ v) b c0 c1 c2 c3:=by
 unfold dN at *
 rw[heap_setCell_other w ⟨b',i,none⟩ b v (by simpa using hne)];exact h
theorem dN.drewN {w:World} {b:Nat} {c0 c1 c2 c3:Int} (h:dN w b c0 c1 c2 c3) (q:Nat):dN (w.drewN q) b c0 c1 c2 c3:=h
theorem dq (w:World) (k:Nat) :
  dN (((w.alloc (Obj.cells #[.int .u64 0,.int .u64 0,.int .u64 0,.int .u64 0] 269)).drewN k).alloc (Obj.cells #[.int .u64 0,.int .u64 0,.int .u64 1,.int .u64 0] 269)) (w.heap.size+1) 0 0 1 0 ∧
  dN (((w.alloc (Obj.cells #[.int .u64 0,.int .u64 0,.int .u64 0,.int .u64 0] 269)).drewN k).alloc (Obj.cells #[.int .u64 0,.int .u64 0,.int .u64 1,.int .u64 0] 269)) w.heap.size 0 0 0 0 ∧
  Below w.heap.size w (((w.alloc (Obj.cells #[.int .u64 0,.int .u64 0,.int .u64 0,.int .u64 0] 269)).drewN k).alloc (Obj.cells #[.int .u64 0,.int .u64 0,.int .u64 1,.int .u64 0] 269)):=by
 refine ⟨?_,?_,(al ((Below.refl _ _).alloc (K6 _) _) k).alloc (by simp) _⟩
 ·unfold dN
  show ((w.heap.push _).push _)[w.heap.size+1]?=_
  rw[Array.getElem?_push,if_pos (by rw[Array.size_push])]
 ·unfold dN
  show ((w.heap.push _).push _)[w.heap.size]?=_
  rw[Array.getElem?_push,if_neg (by rw[Array.size_push];omega),Array.getElem?_push,if_pos rfl]
theorem uD (b1 o1 ca b2 o2 cb n:Nat) (xa xb ya yb sI H L:Int) (x y xr yr T:Int) (w:World) (hn:2≤n) (hnb:n≤1073741824)
  (hb1:b1<w.heap.size) (hb2:b2<w.heap.size)
  (cxa:w.cell? ⟨b1,o1+(n-1),none⟩=some (.int .u64 xa)) (cxb:w.cell? ⟨b1,o1+(n-2),none⟩=some (.int .u64 xb)) (cya:w.cell? ⟨b2,o2+(n-1),none⟩=some (.int .u64 ya)) (cyb:w.cell? ⟨b2,o2+(n-2),none⟩=some (.int .u64 yb))
  (hz:∀ w,Calls Tryz.prog 248 #[.int .u64 xa] w fun e w'=>e=.returned (.int .i64 sI)∧w=w') (s0:0≤sI) (s1:sI<64)
  (hH:bits .or .u64 (IntKind.u64.wrap (xa*2^sI.toNat)) (xb/2^(64-sI).toNat)=H) (hL:bits .or .u64 (IntKind.u64.wrap (ya*2^sI.toNat)) (yb/2^(64-sI).toNat)=L)
  (Hst:Hid (Leh x y H L H L 1 0 0 1 1)) (HH:Hid (H≤18446744073709551615)) (HLH:Hid (L≤H)) (hT:Hid (1≤T)) (hx:Hid (x=H*T+xr)) (hy:Hid (y=L*T+yr)) (hxr:Hid (0≤xr∧xr<T)) (hyr:Hid (0≤yr∧yr<T)) :
  Calls Tryz.prog 244 #[.slice (some ⟨b1,o1,none⟩) n ca,.slice (some ⟨b2,o2,none⟩) n cb] w fun e w'=>∃ x0 y0 x1 y1:Int,e=.returned (.agg #[.int .u64 x0,.int .u64 y0,.int .u64 x1,.int .u64 y1])∧Hid (mE x y x0 y0 x1 y1∧0≤x0∧x0≤18446744073709551615∧0≤y0∧y0≤18446744073709551615∧0≤x1∧x1≤18446744073709551615∧0≤y1∧y1≤18446744073709551615)∧Kept w w':=by
 have Hz:=K7 hz
 clear hz
 have ia1:=dP b1 o1 n ca (n-1) (by omega)
 have ia2:=dP b1 o1 n ca (n-2) (by omega)
 have ia3:=dP b2 o2 n cb (n-1) (by omega)
 have ia4:=dP b2 o2 n cb (n-2) (by omega)
 have wa1:IntKind.i64.wrap ((n:Int)-1)=((n-1:Nat):Int):=by rw[IntWalk.i64_in _ (by omega)];omega
 have wa2:IntKind.i64.wrap ((n:Int)-2)=((n-2:Nat):Int):=by rw[IntWalk.i64_in _ (by omega)];omega
 have w64:IntKind.u64.wrap (64-sI)=64-sI:=by rw[IntKind.wrap_u64];omega
 have hlt1:(sI≤64):=by omega
 go_enter Tryz.func244,Tryz.ntmps244
 go_wp2_with (go_at_call 248;refine (Hz.out _).mono ?_;rintro e w' ⟨rfl,rfl⟩)
 go_quiet (fail)
 go_wp2
 go_quiet (fail)
 go_wp2
 clear ia1 ia2 ia3 ia4 wa1 wa2 w64 hH hL cxa cxb cya cyb
 go_loopw [7,8,10,11] (fun va vb vx vy wr=>∃ a b x0 y0 x1 y1 x2 y2 s:Int,va=.int .u64 a∧vb=.int .u64 b∧vx=.int .u64 x2∧vy=.int .u64 y2∧dN wr (w.heap.size+1) x0 y0 x1 y1∧dN wr w.heap.size 0 0 0 0∧Hid (Leh x y H L a b x1 y1 x2 y2 s)∧Hid (mE x y x0 y0 x1 y1)∧(0≤x0∧x0≤18446744073709551615)∧(0≤y0∧y0≤18446744073709551615)∧Below w.heap.size w wr) (fun _ vb _ _ _=>(intOf vb).toNat)
 case atStart=>exact⟨H,L,0,0,1,0,0,1,1,rfl,rfl,rfl,rfl,(dq w _).1,(dq w _).2.1,Hst,K7 (.inl rfl),⟨by omega,by omega⟩,⟨by omega,by omega⟩,(dq w _).2.2⟩
 case round=>
  skip
  obtain⟨a,b,x0,y0,x1,y1,x2,y2,s,rfl,rfl,rfl,rfl,hb4,hr4,Hl,Hp,⟨x00,x0b⟩,⟨y00,y0b⟩,hbel⟩:=hrel
  have nx1:=Hl.out.nx1
  have ny1:=Hl.out.ny1
  have nx2:=Hl.out.nx2
  have ny2:=Hl.out.ny2
  have nb:=Hl.out.b0
  have nba:=Hl.out.ba
  have na:=Hl.out.a1
  have bx1:=Hl.out.bx1
  have by1:=Hl.out.by1
  obtain⟨by2,bx2,by12⟩:=Hl.out.facts
  have hHb:H≤18446744073709551615:=HH.out
  have hLH:L≤H:=HLH.out
  have haH:a≤18446744073709551615:=by
   have h1:=Hl.out.i1
   have h2:a*1≤a*y2:=Int.mul_le_mul_of_nonneg_left ny2 (by omega)
   have h3:0≤b*y1:=Int.mul_nonneg nb ny1
   omega
  have q0:=hb4.cell0
  have q1:=hb4.iS
  have q2:=hb4.iT
  have q3:=hb4.iU
  have z0:=hb4.free 0
  have z1:=hb4.free 1
  have z2:=hb4.free 2
  have z3:=hb4.free 3
  have r0:=hr4.cell0
  have r1:=hr4.iS
  have r2:=hr4.iT
  have r3:=hr4.iU
  have f0:=hr4.free 0
  have f1:=hr4.free 1
  have f2:=hr4.free 2
  have f3:=hr4.free 3
  by_cases c1:y2≤b
  ·by_cases c2:y1+y2≤a-b
   ·obtain⟨hs1,hs2⟩:=Hl.out.step hT.out hx.out hy.out hxr.out.1 hxr.out.2 hyr.out.1 hyr.out.2 c1 c2 HLH.out
    obtain⟨g2,g1,_⟩:=hs1.facts
    have Hs1:=K7 hs1
    have Hs2:=K7 hs2
    have hbp:1≤b:=by omega
    have hne:(b==0)=false:=by rw[beq_eq_false_iff_ne];omega
    have hrem:0≤a%b:=Int.emod_nonneg _ (by omega)
    have hreml:a%b<b:=Int.emod_lt_of_pos _ (by omega)
    have hq0:0≤a/b:=Int.ediv_nonneg (by omega) (by omega)
    have hqle:a/b≤a:=Int.ediv_le_self _ (by omega)
    have wq:IntKind.u64.wrap (a.tdiv b)=a/b:=by rw[Int.tdiv_eq_ediv_of_nonneg (by omega),IntKind.wrap_u64];omega
    have hmx:0≤a/b*x2:=Int.mul_nonneg hq0 nx2
    have hmy:0≤a/b*y2:=Int.mul_nonneg hq0 (by omega)
    clear hs1 hs2 Hl Hp
    generalize hqe:a/b=q at *
    generalize hre:a%b=r at *
    generalize hmxe:q*x2=mx at *
    generalize hmye:q*y2=my at *
    have c3:y1+y2≤18446744073709551615:=by have:=by12 hbp;omega
    have Hqe:=K7 hqe
    clear hqe
    go_wp2
    go_quiet (fail)
    go_wp2
    go_roundw
    case rel=>exact⟨b,r,x1,y1,x2,y2,x1+mx,y1+my,0-s,rfl,by first|rfl|rw[hre],rfl,rfl,(hb4.drewN _).set _ _ _ _,((((hr4.drewN _).other (by omega)).other (by omega)).other (by omega)).other (by omega),Hs1,Hs2,⟨by omega,by omega⟩,⟨by omega,by omega⟩,((((al hbel _).setCell (by simp) _).setCell (by simp) _).setCell (by simp) _).setCell (by simp) _⟩
    case measure=>simp[intOf];omega
   ·have c3:a-b<y1+y2:=by omega
    have c4:1≤b:=by omega
    have c5:y1+y2≤18446744073709551615:=by have:=by12 c4;omega
    go_wp2
    have hres:=hr4.set x0 y0 x1 y1
    have p0:=hres.cell0
    have p1:=hres.iS
    have p2:=hres.iT
    have p3:=hres.iU
    refine bodyPost_ret (v:=.agg #[.int .u64 x0,.int .u64 y0,.int .u64 x1,.int .u64 y1]) (by simp[results,Tryz.results244,go_sem,p0,p1,p2,p3]) rfl ⟨x0,y0,x1,y1,rfl,K7 ⟨Hp.out,by omega,by omega,by omega,by omega,by omega,by omega,by omega,by omega⟩,?_⟩
    exact (((hbel.setCell (K6 _) _).setCell (K6 _) _).setCell (K6 _) _).setCell (K6 _) _
  ·have c3:b<y2:=by omega
   go_wp2
   have hres:=hr4.set x0 y0 x1 y1
   have p0:=hres.cell0
   have p1:=hres.iS
   have p2:=hres.iT
   have p3:=hres.iU
   refine bodyPost_ret (v:=.agg #[.int .u64 x0,.int .u64 y0,.int .u64 x1,.int .u64 y1]) (by simp[results,Tryz.results244,go_sem,p0,p1,p2,p3]) rfl ⟨x0,y0,x1,y1,rfl,K7 ⟨Hp.out,by omega,by omega,by omega,by omega,by omega,by omega,by omega,by omega⟩,?_⟩
   exact (((hbel.setCell (K6 _) _).setCell (K6 _) _).setCell (K6 _) _).setCell (K6 _) _
theorem xe (b1 o1 ca b2 o2 cb n lb:Nat) (xa xb yb sI H L:Int) (x y xr yr T:Int) (w:World) (hn:2≤n) (hnb:n≤1073741824)
  (hb1:b1<w.heap.size) (_hb2:b2<w.heap.size)
  (cxa:w.cell? ⟨b1,o1+(n-1),none⟩=some (.int .u64 xa)) (cxb:w.cell? ⟨b1,o1+(n-2),none⟩=some (.int .u64 xb)) (cyb:w.cell? ⟨b2,o2+(n-2),none⟩=some (.int .u64 yb))
  (hz:∀ w,Calls Tryz.prog 248 #[.int .u64 xa] w fun e w'=>e=.returned (.int .i64 sI)∧w=w') (s0:0≤sI) (s1:sI<64)
  (hH:bits .or .u64 (IntKind.u64.wrap (xa*2^sI.toNat)) (xb/2^(64-sI).toNat)=H) (hL:yb/2^(64-sI).toNat=L) (hlb:lb+1=n)
  (Hst:Hid (Leh x y H L H L 1 0 0 1 1)) (HH:Hid (H≤18446744073709551615)) (HLH:Hid (L≤H)) (hT:Hid (1≤T)) (hx:Hid (x=H*T+xr)) (hy:Hid (y=L*T+yr)) (hxr:Hid (0≤xr∧xr<T)) (hyr:Hid (0≤yr∧yr<T)) :
  Calls Tryz.prog 244 #[.slice (some ⟨b1,o1,none⟩) n ca,.slice (some ⟨b2,o2,none⟩) lb cb] w fun e w'=>∃ x0 y0 x1 y1:Int,e=.returned (.agg #[.int .u64 x0,.int .u64 y0,.int .u64 x1,.int .u64 y1])∧Hid (mE x y x0 y0 x1 y1∧0≤x0∧x0≤18446744073709551615∧0≤y0∧y0≤18446744073709551615∧0≤x1∧x1≤18446744073709551615∧0≤y1∧y1≤18446744073709551615)∧Kept w w':=by
 have Hz:=K7 hz
 clear hz
 have ia1:=dP b1 o1 n ca (n-1) (by omega)
 have ia2:=dP b1 o1 n ca (n-2) (by omega)
 have t1:((lb:Int)==n)=false:=by rw[beq_eq_false_iff_ne];omega
 have t2:((lb:Int)==((n-1:Nat):Int))=true:=by rw[beq_iff_eq];omega
 have t3:((lb:Int)==(n:Int)-1)=true:=by rw[beq_iff_eq];omega
 have ia4:=dP b2 o2 lb cb (n-2) (by omega)
 clear hlb
 have wa1:IntKind.i64.wrap ((n:Int)-1)=((n-1:Nat):Int):=by rw[IntWalk.i64_in _ (by omega)];omega
 have wa2:IntKind.i64.wrap ((n:Int)-2)=((n-2:Nat):Int):=by rw[IntWalk.i64_in _ (by omega)];omega
 have w64:IntKind.u64.wrap (64-sI)=64-sI:=by rw[IntKind.wrap_u64];omega
 have hlt1:(sI≤64):=by omega
 go_enter Tryz.func244,Tryz.ntmps244
 go_wp2_with (go_at_call 248;refine (Hz.out _).mono ?_;rintro e w' ⟨rfl,rfl⟩)
 go_quiet (fail)
 go_wp2
 clear ia1 ia2 ia4 hL cyb wa1 wa2 w64 hH cxa cxb t1 t2 t3
 go_loopw [7,8,10,11] (fun va vb vx vy wr=>∃ a b x0 y0 x1 y1 x2 y2 s:Int,va=.int .u64 a∧vb=.int .u64 b∧vx=.int .u64 x2∧vy=.int .u64 y2∧dN wr (w.heap.size+1) x0 y0 x1 y1∧dN wr w.heap.size 0 0 0 0∧Hid (Leh x y H L a b x1 y1 x2 y2 s)∧Hid (mE x y x0 y0 x1 y1)∧(0≤x0∧x0≤18446744073709551615)∧(0≤y0∧y0≤18446744073709551615)∧Below w.heap.size w wr) (fun _ vb _ _ _=>(intOf vb).toNat)
 case atStart=>exact⟨H,L,0,0,1,0,0,1,1,rfl,rfl,rfl,rfl,(dq w _).1,(dq w _).2.1,Hst,K7 (.inl rfl),⟨by omega,by omega⟩,⟨by omega,by omega⟩,(dq w _).2.2⟩
 case round=>
  skip
  obtain⟨a,b,x0,y0,x1,y1,x2,y2,s,rfl,rfl,rfl,rfl,hb4,hr4,Hl,Hp,⟨x00,x0b⟩,⟨y00,y0b⟩,hbel⟩:=hrel
  have nx1:=Hl.out.nx1
  have ny1:=Hl.out.ny1
  have nx2:=Hl.out.nx2
  have ny2:=Hl.out.ny2
  have nb:=Hl.out.b0
  have nba:=Hl.out.ba
  have na:=Hl.out.a1
  have bx1:=Hl.out.bx1
  have by1:=Hl.out.by1
  obtain⟨by2,bx2,by12⟩:=Hl.out.facts
  have hHb:H≤18446744073709551615:=HH.out
  have hLH:L≤H:=HLH.out
  have haH:a≤18446744073709551615:=by
   have h1:=Hl.out.i1
   have h2:a*1≤a*y2:=Int.mul_le_mul_of_nonneg_left ny2 (by omega)
   have h3:0≤b*y1:=Int.mul_nonneg nb ny1
   omega
  have q0:=hb4.cell0
  have q1:=hb4.iS
  have q2:=hb4.iT
  have q3:=hb4.iU
  have z0:=hb4.free 0
  have z1:=hb4.free 1
  have z2:=hb4.free 2
  have z3:=hb4.free 3
  have r0:=hr4.cell0
  have r1:=hr4.iS
  have r2:=hr4.iT
  have r3:=hr4.iU
  have f0:=hr4.free 0
  have f1:=hr4.free 1
  have f2:=hr4.free 2
  have f3:=hr4.free 3
  by_cases c1:y2≤b
  ·by_cases c2:y1+y2≤a-b
   ·obtain⟨hs1,hs2⟩:=Hl.out.step hT.out hx.out hy.out hxr.out.1 hxr.out.2 hyr.out.1 hyr.out.2 c1 c2 HLH.out
    obtain⟨g2,g1,_⟩:=hs1.facts
    have Hs1:=K7 hs1
    have Hs2:=K7 hs2
    have hbp:1≤b:=by omega
    have hne:(b==0)=false:=by rw[beq_eq_false_iff_ne];omega
    have hrem:0≤a%b:=Int.emod_nonneg _ (by omega)
    have hreml:a%b<b:=Int.emod_lt_of_pos _ (by omega)
    have hq0:0≤a/b:=Int.ediv_nonneg (by omega) (by omega)
    have hqle:a/b≤a:=Int.ediv_le_self _ (by omega)
    have wq:IntKind.u64.wrap (a.tdiv b)=a/b:=by rw[Int.tdiv_eq_ediv_of_nonneg (by omega),IntKind.wrap_u64];omega
    have hmx:0≤a/b*x2:=Int.mul_nonneg hq0 nx2
    have hmy:0≤a/b*y2:=Int.mul_nonneg hq0 (by omega)
    clear hs1 hs2 Hl Hp
    generalize hqe:a/b=q at *
    generalize hre:a%b=r at *
    generalize hmxe:q*x2=mx at *
    generalize hmye:q*y2=my at *
    have c3:y1+y2≤18446744073709551615:=by have:=by12 hbp;omega
    have Hqe:=K7 hqe
    clear hqe
    go_wp2
    go_quiet (fail)
    go_wp2
    go_roundw
    case rel=>exact⟨b,r,x1,y1,x2,y2,x1+mx,y1+my,0-s,rfl,by first|rfl|rw[hre],rfl,rfl,(hb4.drewN _).set _ _ _ _,((((hr4.drewN _).other (by omega)).other (by omega)).other (by omega)).other (by omega),Hs1,Hs2,⟨by omega,by omega⟩,⟨by omega,by omega⟩,((((al hbel _).setCell (by simp) _).setCell (by simp) _).setCell (by simp) _).setCell (by simp) _⟩
    case measure=>simp[intOf];omega
   ·have c3:a-b<y1+y2:=by omega
    have c4:1≤b:=by omega
    have c5:y1+y2≤18446744073709551615:=by have:=by12 c4;omega
    go_wp2
    have hres:=hr4.set x0 y0 x1 y1
    have p0:=hres.cell0
    have p1:=hres.iS
    have p2:=hres.iT
    have p3:=hres.iU
    refine bodyPost_ret (v:=.agg #[.int .u64 x0,.int .u64 y0,.int .u64 x1,.int .u64 y1]) (by simp[results,Tryz.results244,go_sem,p0,p1,p2,p3]) rfl ⟨x0,y0,x1,y1,rfl,K7 ⟨Hp.out,by omega,by omega,by omega,by omega,by omega,by omega,by omega,by omega⟩,?_⟩
    exact (((hbel.setCell (K6 _) _).setCell (K6 _) _).setCell (K6 _) _).setCell (K6 _) _
  ·have c3:b<y2:=by omega
   go_wp2
   have hres:=hr4.set x0 y0 x1 y1
   have p0:=hres.cell0
   have p1:=hres.iS
   have p2:=hres.iT
   have p3:=hres.iU
   refine bodyPost_ret (v:=.agg #[.int .u64 x0,.int .u64 y0,.int .u64 x1,.int .u64 y1]) (by simp[results,Tryz.results244,go_sem,p0,p1,p2,p3]) rfl ⟨x0,y0,x1,y1,rfl,K7 ⟨Hp.out,by omega,by omega,by omega,by omega,by omega,by omega,by omega,by omega⟩,?_⟩
   exact (((hbel.setCell (K6 _) _).setCell (K6 _) _).setCell (K6 _) _).setCell (K6 _) _
theorem xd (b1 o1 ca b2 o2 cb n lb:Nat) (xa xb sI H:Int) (x y xr yr T:Int) (w:World) (hn:2≤n) (hnb:n≤1073741824)
  (hb1:b1<w.heap.size) (_hb2:b2<w.heap.size)
  (cxa:w.cell? ⟨b1,o1+(n-1),none⟩=some (.int .u64 xa)) (cxb:w.cell? ⟨b1,o1+(n-2),none⟩=some (.int .u64 xb))
  (hz:∀ w,Calls Tryz.prog 248 #[.int .u64 xa] w fun e w'=>e=.returned (.int .i64 sI)∧w=w') (s0:0≤sI) (s1:sI<64)
  (hH:bits .or .u64 (IntKind.u64.wrap (xa*2^sI.toNat)) (xb/2^(64-sI).toNat)=H) (hlb:lb+1<n)
  (Hst:Hid (Leh x y H (0:Int) H (0:Int) 1 0 0 1 1)) (HH:Hid (H≤18446744073709551615)) (HLH:Hid ((0:Int)≤H)) (hT:Hid (1≤T)) (hx:Hid (x=H*T+xr)) (hy:Hid (y=(0:Int)*T+yr)) (hxr:Hid (0≤xr∧xr<T)) (hyr:Hid (0≤yr∧yr<T)) :
  Calls Tryz.prog 244 #[.slice (some ⟨b1,o1,none⟩) n ca,.slice (some ⟨b2,o2,none⟩) lb cb] w fun e w'=>∃ x0 y0 x1 y1:Int,e=.returned (.agg #[.int .u64 x0,.int .u64 y0,.int .u64 x1,.int .u64 y1])∧Hid (mE x y x0 y0 x1 y1∧0≤x0∧x0≤18446744073709551615∧0≤y0∧y0≤18446744073709551615∧0≤x1∧x1≤18446744073709551615∧0≤y1∧y1≤18446744073709551615)∧Kept w w':=by
 have Hz:=K7 hz
 clear hz
 have ia1:=dP b1 o1 n ca (n-1) (by omega)
 have ia2:=dP b1 o1 n ca (n-2) (by omega)
 have t1:((lb:Int)==n)=false:=by rw[beq_eq_false_iff_ne];omega
 have t2:((lb:Int)==((n-1:Nat):Int))=false:=by rw[beq_eq_false_iff_ne];omega
 have t3:((lb:Int)==(n:Int)-1)=false:=by rw[beq_eq_false_iff_ne];omega
 have wa1:IntKind.i64.wrap ((n:Int)-1)=((n-1:Nat):Int):=by rw[IntWalk.i64_in _ (by omega)];omega
 have wa2:IntKind.i64.wrap ((n:Int)-2)=((n-2:Nat):Int):=by rw[IntWalk.i64_in _ (by omega)];omega
 have w64:IntKind.u64.wrap (64-sI)=64-sI:=by rw[IntKind.wrap_u64];omega
 have hlt1:(sI≤64):=by omega
 go_enter Tryz.func244,Tryz.ntmps244
 go_wp2_with (go_at_call 248;refine (Hz.out _).mono ?_;rintro e w' ⟨rfl,rfl⟩)
 go_quiet (fail)
 go_wp2
 clear ia1 ia2 wa1 wa2 w64 hH cxa cxb t1 t2 t3
 go_loopw [7,8,10,11] (fun va vb vx vy wr=>∃ a b x0 y0 x1 y1 x2 y2 s:Int,va=.int .u64 a∧vb=.int .u64 b∧vx=.int .u64 x2∧vy=.int .u64 y2∧dN wr (w.heap.size+1) x0 y0 x1 y1∧dN wr w.heap.size 0 0 0 0∧Hid (Leh x y H (0:Int) a b x1 y1 x2 y2 s)∧Hid (mE x y x0 y0 x1 y1)∧(0≤x0∧x0≤18446744073709551615)∧(0≤y0∧y0≤18446744073709551615)∧Below w.heap.size w wr) (fun _ vb _ _ _=>(intOf vb).toNat)
 case atStart=>exact⟨H,0,0,0,1,0,0,1,1,rfl,rfl,rfl,rfl,(dq w _).1,(dq w _).2.1,Hst,K7 (.inl rfl),⟨by omega,by omega⟩,⟨by omega,by omega⟩,(dq w _).2.2⟩
 case round=>
  skip
  obtain⟨a,b,x0,y0,x1,y1,x2,y2,s,rfl,rfl,rfl,rfl,hb4,hr4,Hl,Hp,⟨x00,x0b⟩,⟨y00,y0b⟩,hbel⟩:=hrel
  have nx1:=Hl.out.nx1
  have ny1:=Hl.out.ny1
  have nx2:=Hl.out.nx2
  have ny2:=Hl.out.ny2
  have nb:=Hl.out.b0
  have nba:=Hl.out.ba
  have na:=Hl.out.a1
  have bx1:=Hl.out.bx1
  have by1:=Hl.out.by1
  obtain⟨by2,bx2,by12⟩:=Hl.out.facts
  have hHb:H≤18446744073709551615:=HH.out
  have hLH:(0:Int)≤H:=HLH.out
  have haH:a≤18446744073709551615:=by
   have h1:=Hl.out.i1
   have h2:a*1≤a*y2:=Int.mul_le_mul_of_nonneg_left ny2 (by omega)
   have h3:0≤b*y1:=Int.mul_nonneg nb ny1
   omega
  have q0:=hb4.cell0
  have q1:=hb4.iS
  have q2:=hb4.iT
  have q3:=hb4.iU
  have z0:=hb4.free 0
  have z1:=hb4.free 1
  have z2:=hb4.free 2
  have z3:=hb4.free 3
  have r0:=hr4.cell0
  have r1:=hr4.iS
  have r2:=hr4.iT
  have r3:=hr4.iU
  have f0:=hr4.free 0
  have f1:=hr4.free 1
  have f2:=hr4.free 2
  have f3:=hr4.free 3
  by_cases c1:y2≤b
  ·by_cases c2:y1+y2≤a-b
   ·obtain⟨hs1,hs2⟩:=Hl.out.step hT.out hx.out hy.out hxr.out.1 hxr.out.2 hyr.out.1 hyr.out.2 c1 c2 HLH.out
    obtain⟨g2,g1,_⟩:=hs1.facts
    have Hs1:=K7 hs1
    have Hs2:=K7 hs2
    have hbp:1≤b:=by omega
    have hne:(b==0)=false:=by rw[beq_eq_false_iff_ne];omega
    have hrem:0≤a%b:=Int.emod_nonneg _ (by omega)
    have hreml:a%b<b:=Int.emod_lt_of_pos _ (by omega)
    have hq0:0≤a/b:=Int.ediv_nonneg (by omega) (by omega)
    have hqle:a/b≤a:=Int.ediv_le_self _ (by omega)
    have wq:IntKind.u64.wrap (a.tdiv b)=a/b:=by rw[Int.tdiv_eq_ediv_of_nonneg (by omega),IntKind.wrap_u64];omega
    have hmx:0≤a/b*x2:=Int.mul_nonneg hq0 nx2
    have hmy:0≤a/b*y2:=Int.mul_nonneg hq0 (by omega)
    clear hs1 hs2 Hl Hp
    generalize hqe:a/b=q at *
    generalize hre:a%b=r at *
    generalize hmxe:q*x2=mx at *
    generalize hmye:q*y2=my at *
    have c3:y1+y2≤18446744073709551615:=by have:=by12 hbp;omega
    have Hqe:=K7 hqe
    clear hqe
    go_wp2
    go_quiet (fail)
    go_wp2
    go_roundw
    case rel=>exact⟨b,r,x1,y1,x2,y2,x1+mx,y1+my,0-s,rfl,by first|rfl|rw[hre],rfl,rfl,(hb4.drewN _).set _ _ _ _,((((hr4.drewN _).other (by omega)).other (by omega)).other (by omega)).other (by omega),Hs1,Hs2,⟨by omega,by omega⟩,⟨by omega,by omega⟩,((((al hbel _).setCell (by simp) _).setCell (by simp) _).setCell (by simp) _).setCell (by simp) _⟩
    case measure=>simp[intOf];omega
   ·have c3:a-b<y1+y2:=by omega
    have c4:1≤b:=by omega
    have c5:y1+y2≤18446744073709551615:=by have:=by12 c4;omega
    go_wp2
    have hres:=hr4.set x0 y0 x1 y1
    have p0:=hres.cell0
    have p1:=hres.iS
    have p2:=hres.iT
    have p3:=hres.iU
    refine bodyPost_ret (v:=.agg #[.int .u64 x0,.int .u64 y0,.int .u64 x1,.int .u64 y1]) (by simp[results,Tryz.results244,go_sem,p0,p1,p2,p3]) rfl ⟨x0,y0,x1,y1,rfl,K7 ⟨Hp.out,by omega,by omega,by omega,by omega,by omega,by omega,by omega,by omega⟩,?_⟩
    exact (((hbel.setCell (K6 _) _).setCell (K6 _) _).setCell (K6 _) _).setCell (K6 _) _
  ·have c3:b<y2:=by omega
   go_wp2
   have hres:=hr4.set x0 y0 x1 y1
   have p0:=hres.cell0
   have p1:=hres.iS
   have p2:=hres.iT
   have p3:=hres.iU
   refine bodyPost_ret (v:=.agg #[.int .u64 x0,.int .u64 y0,.int .u64 x1,.int .u64 y1]) (by simp[results,Tryz.results244,go_sem,p0,p1,p2,p3]) rfl ⟨x0,y0,x1,y1,rfl,K7 ⟨Hp.out,by omega,by omega,by omega,by omega,by omega,by omega,by omega,by omega⟩,?_⟩
   exact (((hbel.setCell (K6 _) _).setCell (K6 _) _).setCell (K6 _) _).setCell (K6 _) _
theorem zp {y:Nat} (h:y≠0) {w:World} {v:Value} (hv:Lim w v y):∃ b o c,v=.slice (some ⟨b,o,none⟩) (size y) c∧b<w.heap.size∧∀ i,i<size y→w.cell? ⟨b,o+i,none⟩=some (.int .u64 (((ai y).getD i 0:Nat):Int)):=by
 obtain⟨a,c,rfl,_,hr⟩:=hv
 rcases hr with ⟨_,h1⟩|⟨b,o,rfl,hb,hc⟩
 ·exact absurd (aF.1 h1) h
 ·exact⟨b,o,c,rfl,hb,hc⟩
theorem xc (va vb:Value) (x y:Nat) (w:World) (ha:Lim w va x) (hb:Lim w vb y) (hx:size x≤1073741824) (hn:2≤size x) (hy2:2≤size y) (hle:y≤x) :
  Calls Tryz.prog 244 #[va,vb] w fun e w'=>∃ x0 y0 x1 y1:Nat,e=.returned (.agg #[.int .u64 x0,.int .u64 y0,.int .u64 x1,.int .u64 y1])∧Hid (mE (x:Int) y x0 y0 x1 y1∧x0<LimbNum.B∧y0<LimbNum.B∧x1<LimbNum.B∧y1<LimbNum.B)∧Kept w w':=by
 have hx0:x≠0:=by intro h;subst h;simp[bW] at hn
 have hy0:y≠0:=by intro h;subst h;simp[bW] at hy2
 obtain⟨b1,o1,c1,rfl,hb1,hca⟩:=zp hx0 ha
 obtain⟨b2,o2,c2,rfl,hb2,hcb⟩:=zp hy0 hb
 have hsyx:=aK hle
 have hlast:(ai x).getD (size x-1) 0≠0:=by
  have hne:ai x≠[]:=by intro h;exact hx0 (aF.1 h)
  have h:=eF hne
  rw[List.getLast_eq_getElem] at h
  rw[bf (by unfold size at *;omega)]
  exact h
 have htopB:=(ao x).get (size x-1)
 obtain⟨l1,l2,l3⟩:=dE 64 _ (by unfold LimbNum.B at htopB;exact htopB) (K6 _) hlast
 have l4:=fy htopB
 obtain⟨s,hs⟩:∃ s,s=64-Lib.bitLen ((ai x).getD (size x-1) 0):=⟨_,rfl⟩
 have hs64:s<64:=by omega
 have hz:∀ w,Calls Tryz.prog 248 #[.int .u64 (((ai x).getD (size x-1) 0:Nat):Int)] w fun e w'=>e=.returned (.int .i64 ((s:Nat):Int))∧w=w':=by
  intro w
  have:=jF _ htopB w
  rw[show (64-(Lib.bitLen ((ai x).getD (size x-1) 0):Int))=((s:Nat):Int) by omega] at this
  exact this
 have hT:0<LimbNum.B^(size x-2)*2^(64-s):=Nat.mul_pos (Nat.pow_pos aA) (Nat.pos_of_ne_zero (by simp))
 have tx:=wx (z:=x) (s:=s) hn (lt_size x) (by omega)
 have ty:=wx (z:=y) (s:=s) hn (Nat.lt_of_le_of_lt hle (lt_size x)) (by omega)
 have hHL:y/(LimbNum.B^(size x-2)*2^(64-s))≤x/(LimbNum.B^(size x-2)*2^(64-s)):=Nat.div_le_div_right hle
 have mx:=Nat.div_add_mod x (LimbNum.B^(size x-2)*2^(64-s))
 have my:=Nat.div_add_mod y (LimbNum.B^(size x-2)*2^(64-s))
 have rx:=Nat.mod_lt x hT
 have ry:=Nat.mod_lt y hT
 rw[Nat.mul_comm] at mx my
 generalize x/(LimbNum.B^(size x-2)*2^(64-s))=H at *
 generalize y/(LimbNum.B^(size x-2)*2^(64-s))=L at *
 generalize x%(LimbNum.B^(size x-2)*2^(64-s))=xr at *
 generalize y%(LimbNum.B^(size x-2)*2^(64-s))=yr at *
 generalize LimbNum.B^(size x-2)*2^(64-s)=T at *
 have hps:0<2^s:=Nat.pos_of_ne_zero (by simp)
 have hB:=iy (s:=s) (by omega)
 have hbits:Lib.bitLen ((ai x).getD (size x-1) 0)=64-s:=by omega
 rw[hbits] at l2
 have lows:∀ v:Nat,v<LimbNum.B→v/2^(64-s)<2^s:=by
  intro v hv
  rw[Nat.div_lt_iff_lt_mul (Nat.pos_of_ne_zero (by simp)),Nat.mul_comm,←hB];exact hv
 have hHB:H<LimbNum.B:=by
  have h1:=lows _ ((ao x).get (size x-2))
  have h2:=Nat.mul_le_mul_right (2^s) (Nat.succ_le_of_lt l2)
  rw[Nat.succ_mul,←hB] at h2
  rw[tx]
  exact Nat.lt_of_lt_of_le (Nat.add_lt_add_right h1 _) (by rw[Nat.add_comm];exact h2)
 have hH1:1≤H:=by
  have:=Nat.mul_pos (show 0<(ai x).getD (size x-1) 0 by omega) hps
  rw[tx]
  exact Nat.le_trans this (Nat.le_add_left _ _)
 have hor:∀ a b h:Nat,b<LimbNum.B→h=b/2^(64-s)+a*2^s→h<LimbNum.B→bits .or .u64 (IntKind.u64.wrap ((a:Int)*2^((s:Nat):Int).toNat)) ((b:Int)/2^(64-((s:Nat):Int)).toNat)=(h:Int):=by
  intro a b h hbB he hh
  have ha2:a*2^s<LimbNum.B:=Nat.lt_of_le_of_lt (by rw[he];exact Nat.le_add_left _ _) hh
  rw[Int.toNat_natCast,show ((64:Int)-(s:Int)).toNat=64-s by omega,show ((a:Int)*2^s)=((a*2^s:Nat):Int) by simp,dH,Nat.mod_eq_of_lt ha2,
   show ((b:Int)/2^(64-s))=((b/2^(64-s):Nat):Int) by simp,JJ _ _ ha2 (Nat.lt_of_le_of_lt (Nat.div_le_self _ _) hbB),gB (lows b hbB),he,Nat.add_comm]
 have fin:∀ e w',(∃ x0 y0 x1 y1:Int,e=Ending.returned (.agg #[.int .u64 x0,.int .u64 y0,.int .u64 x1,.int .u64 y1])∧Hid (mE x y x0 y0 x1 y1∧0≤x0∧x0≤18446744073709551615∧0≤y0∧y0≤18446744073709551615∧0≤x1∧x1≤18446744073709551615∧0≤y1∧y1≤18446744073709551615)∧Kept w w') →
   ∃ x0 y0 x1 y1:Nat,e=.returned (.agg #[.int .u64 x0,.int .u64 y0,.int .u64 x1,.int .u64 y1])∧Hid (mE (x:Int) y x0 y0 x1 y1∧x0<LimbNum.B∧y0<LimbNum.B∧x1<LimbNum.B∧y1<LimbNum.B)∧Kept w w':=by
  rintro e w' ⟨x0,y0,x1,y1,rfl,⟨hp,p1,p2,p3,p4,p5,p6,p7,p8⟩,hk⟩
  obtain⟨x0,rfl⟩:=Int.eq_ofNat_of_zero_le p1
  obtain⟨y0,rfl⟩:=Int.eq_ofNat_of_zero_le p3
  obtain⟨x1,rfl⟩:=Int.eq_ofNat_of_zero_le p5
  obtain⟨y1,rfl⟩:=Int.eq_ofNat_of_zero_le p7
  refine ⟨x0,y0,x1,y1,rfl,K7 ⟨hp,?_,?_,?_,?_⟩,hk⟩<;>(unfold LimbNum.B;omega)
 have st:∀ L:Nat,L≤H→Hid (Leh x y H L H L 1 0 0 1 1):=fun L hL=>K7 (Leh.start (by omega) (by omega) (by omega))
 have ex:Hid ((x:Int)=(H:Int)*T+xr):=K7 (by rw[←Int.natCast_mul,←Int.natCast_add,mx])
 have ey:Hid ((y:Int)=(L:Int)*T+yr):=K7 (by rw[←Int.natCast_mul,←Int.natCast_add,my])
 have bH:Hid ((H:Int)≤18446744073709551615):=K7 (by unfold LimbNum.B at hHB;omega)
 by_cases h1:size y=size x
 ·rw[h1] at hcb ⊢
  refine (uD b1 o1 c1 b2 o2 c2 (size x) _ _ _ _ s H L x y xr yr T w hn hx hb1 hb2 (hca _ (by omega)) (hca _ (by omega)) (hcb _ (by omega)) (hcb _ (by omega)) hz (by omega) (by omega)
   (hor _ _ H ((ao x).get _) tx hHB) (hor _ _ L ((ao y).get _) ty (by omega)) (st L hHL) bH (K7 (by omega)) (K7 (by omega)) ex ey (K7 ⟨by omega,by omega⟩) (K7 ⟨by omega,by omega⟩)).mono fin
 ·have hyt:(ai y).getD (size x-1) 0=0:=bD (by unfold size at *;omega)
  rw[hyt,Nat.zero_mul,Nat.add_zero] at ty
  by_cases h2:size y+1=size x
  ·refine (xe b1 o1 c1 b2 o2 c2 (size x) (size y) _ _ _ s H L x y xr yr T w hn hx hb1 hb2 (hca _ (by omega)) (hca _ (by omega)) (hcb _ (by omega)) hz (by omega) (by omega)
    (hor _ _ H ((ao x).get _) tx hHB) (by rw[show ((64:Int)-(s:Int)).toNat=64-s by omega,ty];simp) h2 (st L hHL) bH (K7 (by omega)) (K7 (by omega)) ex ey (K7 ⟨by omega,by omega⟩) (K7 ⟨by omega,by omega⟩)).mono fin
  ·have hyt2:(ai y).getD (size x-2) 0=0:=bD (by unfold size at *;omega)
   rw[hyt2,Nat.zero_div] at ty
   subst ty
   exact (xd b1 o1 c1 b2 o2 c2 (size x) (size y) _ _ s H x y xr yr T w hn hx hb1 hb2 (hca _ (by omega)) (hca _ (by omega)) hz (by omega) (by omega)
    (hor _ _ H ((ao x).get _) tx hHB) (by omega) (st 0 (by omega)) bH (K7 (by omega)) (K7 (by omega)) ex ey (K7 ⟨by omega,by omega⟩) (K7 ⟨by omega,by omega⟩)).mono fin
theorem lJ (va vb:Value) (x y:Nat) (w:World) (ha:Lim w va x) (hb:Lim w vb y) (hx:size x≤1073741824) (hy:size y≤1073741824) :
  Calls Tryz.prog 245 #[va,vb] w fun e w'=>∃ v,e=.returned v∧Lim w' v (jb x y)∧Kept w w':=by
 have hcmp:=K7 (aV va vb x y w ha hb hx)
 by_cases hlt:x<y
 ·rw[show ord x y = -1 by simp[ord,hlt]] at hcmp
  have hs:=K7 fun w' (hk:Kept w w')=>bM vb va y x w' (hb.kept hk) (ha.kept hk) hy (by omega)
  rw[show jb x y=y-x by simp[jb,hlt]]
  clear ha hb
  go_enter Tryz.func245,Tryz.ntmps245
  go_wp2_with fail
  refine (hcmp.out).mono ?_
  rintro e w0 ⟨rfl,q,hw0⟩
  have hk0:Kept w w0:=by rw[hw0];exact al (Below.refl _ _) q
  clear hw0
  go_wp2_with fail
  refine (hs.out _ hk0).mono ?_
  rintro e w1 ⟨v,rfl,hl,hk1⟩
  go_wp2
  go_ret
  exact⟨v,rfl,hl,hk0.trans (hk1.mono hk0.size)⟩
 ·obtain⟨c,hc⟩:∃ c,ord x y=c:=⟨_,rfl⟩
  have hc0:0≤c:=by rw[←hc];unfold ord;split<;>(try split)<;>omega
  rw[hc] at hcmp
  have hcl:decide (c<0)=false:=by simp;omega
  have hs:=K7 fun w' (hk:Kept w w')=>bM va vb x y w' (ha.kept hk) (hb.kept hk) hx (by omega)
  rw[show jb x y=x-y by simp[jb,hlt]]
  clear ha hb hc
  go_enter Tryz.func245,Tryz.ntmps245
  go_wp2_with fail
  refine (hcmp.out).mono ?_
  rintro e w0 ⟨rfl,q,hw0⟩
  have hk0:Kept w w0:=by rw[hw0];exact al (Below.refl _ _) q
  clear hw0
  go_wp2_with fail
  refine (hs.out _ hk0).mono ?_
  rintro e w1 ⟨v,rfl,hl,hk1⟩
  go_wp2
  go_ret
  exact⟨v,rfl,hl,hk0.trans (hk1.mono hk0.size)⟩
theorem iq (x y:Nat) (w:World) :
  Calls Tryz.prog 211 #[.int .u64 x,.int .u64 y] w fun e w'=>e=.returned (.int .u64 ((Nat.gcd x y:Nat):Int))∧∃ q,w'=w.drewN q:=by
 go_enter Tryz.func211,Tryz.ntmps211
 go_wp2
 go_loopw [0,1] (fun a b wr=>∃ i j:Nat,a=.int .u64 i∧b=.int .u64 j∧Hid (Nat.gcd i j=Nat.gcd x y)∧∃ q,wr=w.drewN q) (fun _ b _=>(intOf b).toNat)
 case atStart=>exact⟨x,y,rfl,rfl,K7 rfl,0,rfl⟩
 case round=>
  obtain⟨i,j,rfl,rfl,hg,q,rfl⟩:=hrel
  by_cases hj:j=0
  ·subst hj
   have hg2:=hg.out
   rw[Nat.gcd_zero_right] at hg2
   have Hg:=K7 hg2
   clear hg2
   rw[show ((0:Nat):Int)=0 from rfl]
   go_wp2
   go_ret
   rw[Hg.out]
   exact⟨rfl,q,rfl⟩
  ·have hm:Nat.gcd j (i%j)=Nat.gcd x y:=by rw[Nat.gcd_comm,←hg.out,Nat.gcd_comm i j,Nat.gcd_rec j i]
   have Hm:=K7 hm
   have hlt:i%j<j:=Nat.mod_lt _ (by omega)
   have e2:((i%j:Nat):Int)=(i:Int)%j:=Int.natCast_emod _ _
   have E2:=K7 e2
   have hne:((j:Int)==0)=false:=by rw[beq_eq_false_iff_ne];omega
   have hne2:((j:Int) != 0)=true:=by rw[bne_iff_ne];omega
   have hpos:(0:Int)<j:=by omega
   clear hm e2
   go_wp2
   go_quiet (fail)
   go_wp2
   go_roundw
   case rel=>exact⟨j,i%j,rfl,by rw[E2.out],Hm,by first|exact⟨_,rfl⟩|(simp only[World.drewN_drewN];exact⟨_,rfl⟩)⟩
   case measure=>simp[intOf];omega
end Go.Proofs.YtjbcmmaniphkkaaGreatDoor
