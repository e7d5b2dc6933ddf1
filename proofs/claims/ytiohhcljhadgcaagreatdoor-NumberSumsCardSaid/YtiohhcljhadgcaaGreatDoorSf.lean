import Derived.Test.YtiohhcljhadgcaaGreatDoorSe
set_option linter.unusedSectionVars false
set_option linter.unusedVariables false
set_option linter.unusedSimpArgs false
set_option maxRecDepth 100000
set_option maxHeartbeats 2000000
namespace Go.Proofs.YtiohhcljhadgcaaGreatDoor.E
open Go.RowKit LimbNum
open DigNum (chs ag al aD bp aY nd aH aC bM bw Bd)
theorem bm {s:ByteArray} {x:Rat} {k:Nat} (h:aC s x) (hb:Bd x k):s.size≤2*k+2:=by rw[h.size];exact DigNum.gT hb
theorem bX {s:ByteArray} {x:Rat} (h:aC s x) (hb:Bd x 600):bw (chs s)=0:=by rw[show chs s=DigNum.ch x from h];exact DigNum.rM hb
theorem xh (s t:ByteArray) (c:Nat) (w:World) (hs:s.size≤1000000) (ht:t.size≤1000000) (hb:bh (bw (chs s)) (bw (chs t))=c) (hc:c≠0) :
  Calls Tryz.prog 101 #[.string s,.string t,.func (Fn.func 102) #[] #[]] w fun e w'=>e=.returned (.tuple #[.string (ByteArray.mk #[]),.int .i64 (c:Int)])∧Kept w w':=by
 have HP:=Lib.hid fun w'=>cZ s t w' hs ht
 rw[hb] at HP
 have hci:((c:Int) != 0)=true:=by rw[bne_iff_ne];omega
 have hci2:¬((c:Int)=0):=by omega
 clear hs ht hb hc
 go_enter Tryz.func101,Tryz.ntmps101
 go_wp2_with fail
 refine (HP.out _).mono ?_
 rintro e w2 ⟨v1,v2,rfl,r1,r2,hk⟩
 obtain⟨s1,a1,n1,c1,s2,a2,n2,c2,rfl⟩:=r1.1
 obtain⟨s3,a3,n3,c3,s4,a4,n4,c4,rfl⟩:=r2.1
 obtain⟨hk2,B1,B2⟩:=aL w2 [.bool s1,.slice a1 n1 c1,.bool s2,.slice a2 n2 c2] [.bool s3,.slice a3 n3 c3,.bool s4,.slice a4 n4 c4] 128 128
 clear HP
 have hk:=Kept.comp _ _ _ hk hk2
 clear r1 r2 B1 B2 hk2
 go_wp2
 exact bodyPost_ret (v:=.tuple #[.string (ByteArray.mk #[]),.int .i64 (c:Int)]) (by simp[results,Tryz.results101,go_sem]) rfl ⟨rfl,hk⟩
theorem uq (s t:ByteArray) (x y:Rat) (w:World) (hx:aC s x) (hy:aC t y) (bx:Bd x 600) (bl:Bd y 600) (htb:TB w) :
  Calls Tryz.prog 101 #[.string s,.string t,.func (Fn.func 102) #[] #[]] w fun e w'=>∃ r:ByteArray,e=.returned (.tuple #[.string r,.int .i64 ((bM (x+y):Nat):Int)])∧(bM (x+y)=0→aC r (x+y))∧(bM (x+y)≠0→r=ByteArray.mk #[])∧Kept w w':=by
 have HP:=Lib.hid fun w'=>cZ s t w' (by have:=bm hx bx;omega) (by have:=bm hy bl;omega)
 rw[bX hx bx,bX hy bl,show bh 0 0=0 from rfl] at HP
 have HX:=Lib.hid (And.intro hx bx)
 have HY:=Lib.hid (And.intro hy bl)
 have HA:=Lib.hid fun va vb w' h1 h2=>re va vb x y 600 600 w' h1 h2 bx bl (by decide) (by decide)
 have HR:=Lib.hid fun v w' (h:Ex w' v (x+y)) ht=>jU v (x+y) 1201 w' h (DigNum.kU bx bl) (by decide) ht
 have HTB:=Lib.hid htb
 generalize x+y=zz at *
 generalize bM zz=Z at *
 clear hx hy bx bl htb
 go_enter Tryz.func101,Tryz.ntmps101
 go_wp2_with fail
 refine (HP.out _).mono ?_
 rintro e w2 ⟨v1,v2,rfl,r1,r2,hk⟩
 obtain⟨s1,a1,n1,c1,s2,a2,n2,c2,rfl⟩:=r1.1
 obtain⟨s3,a3,n3,c3,s4,a4,n4,c4,rfl⟩:=r2.1
 obtain⟨hk2,B1,B2⟩:=aL w2 [.bool s1,.slice a1 n1 c1,.bool s2,.slice a2 n2 c2] [.bool s3,.slice a3 n3 c3,.bool s4,.slice a4 n4 c4] 128 128
 clear HP
 have hx:=Lib.hid ((r1.2 x HX.out.1 HX.out.2).kept hk2)
 have hy:=Lib.hid ((r2.2 y HY.out.1 HY.out.2).kept hk2)
 have hk:=Kept.comp _ _ _ hk hk2
 have p0:=B1.cell 0 rfl
 have p1:=B1.cell 1 rfl
 have p2:=B1.cell 2 rfl
 have p3:=B1.cell 3 rfl
 have q0:=B2.cell 0 rfl
 have q1:=B2.cell 1 rfl
 have q2:=B2.cell 2 rfl
 have q3:=B2.cell 3 rfl
 clear r1 r2 hk2
 go_wp2_with fail
 generalize (w2.alloc (.cells [.bool s1,.slice a1 n1 c1,.bool s2,.slice a2 n2 c2].toArray _)).alloc (.cells [.bool s3,.slice a3 n3 c3,.bool s4,.slice a4 n4 c4].toArray _)=w3 at *
 refine (HA.out _ _ _ hx.out hy.out).mono ?_
 rintro e w4 ⟨v,rfl,hv,hk4⟩
 have hk:=Kept.comp _ _ _ hk hk4
 have htb:=Lib.hid (HTB.out.kept hk)
 clear HA hk4 hx hy B1 B2 p0 p1 p2 p3 q0 q1 q2 q3
 go_wp2_with fail
 refine (HR.out _ _ hv htb.out).mono ?_
 rintro e w5 ⟨r,rfl,g1,g2,hk5⟩
 have hk:=Kept.comp _ _ _ hk hk5
 have G1:=Lib.hid g1
 have G2:=Lib.hid g2
 clear HR hk5 hv g1 g2
 go_wp2
 exact bodyPost_ret (v:=.tuple #[.string r,.int .i64 (Z:Int)]) (by simp[results,Tryz.results101,go_sem]) rfl ⟨_,rfl,G1.out,G2.out,hk⟩
theorem uh (s t:ByteArray) (c:Nat) (w:World) (hs:s.size≤1000000) (ht:t.size≤1000000) (hb:bh (bw (chs s)) (bw (chs t))=c) (hc:c≠0) :
  Calls Tryz.prog 16 #[.string s,.string t] w fun e w'=>e=.returned (.tuple #[.string (ByteArray.mk #[]),.int .i64 (c:Int)])∧Kept w w':=by
 have H:=Lib.hid fun w'=>xh s t c w' hs ht hb hc
 clear hs ht hb hc
 go_enter Tryz.func16,Tryz.ntmps16
 go_wp2_with fail
 refine (H.out _).mono ?_
 rintro e w2 ⟨rfl,hk⟩
 clear H
 go_wp2
 exact bodyPost_ret (v:=.tuple #[.string (ByteArray.mk #[]),.int .i64 (c:Int)]) (by simp[results,Tryz.results16,go_sem]) rfl ⟨rfl,hk⟩
theorem lP (s t:ByteArray) (x y:Rat) (w:World) (hx:aC s x) (hy:aC t y) (bx:Bd x 600) (bl:Bd y 600) (htb:TB w) :
  Calls Tryz.prog 16 #[.string s,.string t] w fun e w'=>∃ r:ByteArray,e=.returned (.tuple #[.string r,.int .i64 ((bM (x+y):Nat):Int)])∧(bM (x+y)=0→aC r (x+y))∧(bM (x+y)≠0→r=ByteArray.mk #[])∧Kept w w':=by
 have H:=Lib.hid (uq s t x y w hx hy bx bl htb)
 generalize x+y=zz at *
 generalize bM zz=Z at *
 clear hx hy bx bl htb
 go_enter Tryz.func16,Tryz.ntmps16
 go_wp2_with fail
 refine H.out.mono ?_
 rintro e w2 ⟨r,rfl,g1,g2,hk⟩
 have G1:=Lib.hid g1
 have G2:=Lib.hid g2
 clear H g1 g2
 go_wp2
 exact bodyPost_ret (v:=.tuple #[.string r,.int .i64 (Z:Int)]) (by simp[results,Tryz.results16,go_sem]) rfl ⟨_,rfl,G1.out,G2.out,hk⟩
theorem xj (s t:ByteArray) (c:Nat) (w:World) (hs:s.size≤1000000) (ht:t.size≤1000000) (hb:bh (bw (chs s)) (bw (chs t))=c) (hc:c≠0) :
  Calls Tryz.prog 101 #[.string s,.string t,.func (Fn.func 103) #[] #[]] w fun e w'=>e=.returned (.tuple #[.string (ByteArray.mk #[]),.int .i64 (c:Int)])∧Kept w w':=by
 have HP:=Lib.hid fun w'=>cZ s t w' hs ht
 rw[hb] at HP
 have hci:((c:Int) != 0)=true:=by rw[bne_iff_ne];omega
 have hci2:¬((c:Int)=0):=by omega
 clear hs ht hb hc
 go_enter Tryz.func101,Tryz.ntmps101
 go_wp2_with fail
 refine (HP.out _).mono ?_
 rintro e w2 ⟨v1,v2,rfl,r1,r2,hk⟩
 obtain⟨s1,a1,n1,c1,s2,a2,n2,c2,rfl⟩:=r1.1
 obtain⟨s3,a3,n3,c3,s4,a4,n4,c4,rfl⟩:=r2.1
 obtain⟨hk2,B1,B2⟩:=aL w2 [.bool s1,.slice a1 n1 c1,.bool s2,.slice a2 n2 c2] [.bool s3,.slice a3 n3 c3,.bool s4,.slice a4 n4 c4] 128 128
 clear HP
 have hk:=Kept.comp _ _ _ hk hk2
 clear r1 r2 B1 B2 hk2
 go_wp2
 exact bodyPost_ret (v:=.tuple #[.string (ByteArray.mk #[]),.int .i64 (c:Int)]) (by simp[results,Tryz.results101,go_sem]) rfl ⟨rfl,hk⟩
theorem uu (s t:ByteArray) (x y:Rat) (w:World) (hx:aC s x) (hy:aC t y) (bx:Bd x 600) (bl:Bd y 600) (htb:TB w) :
  Calls Tryz.prog 101 #[.string s,.string t,.func (Fn.func 103) #[] #[]] w fun e w'=>∃ r:ByteArray,e=.returned (.tuple #[.string r,.int .i64 ((bM (x-y):Nat):Int)])∧(bM (x-y)=0→aC r (x-y))∧(bM (x-y)≠0→r=ByteArray.mk #[])∧Kept w w':=by
 have HP:=Lib.hid fun w'=>cZ s t w' (by have:=bm hx bx;omega) (by have:=bm hy bl;omega)
 rw[bX hx bx,bX hy bl,show bh 0 0=0 from rfl] at HP
 have HX:=Lib.hid (And.intro hx bx)
 have HY:=Lib.hid (And.intro hy bl)
 have HA:=Lib.hid fun va vb w' h1 h2=>xW va vb x y 600 600 w' h1 h2 bx bl (by decide) (by decide)
 have HR:=Lib.hid fun v w' (h:Ex w' v (x-y)) ht=>jU v (x-y) 1201 w' h (by rw[Rat.sub_eq_add_neg];exact DigNum.kU bx (DigNum.nr bl)) (by decide) ht
 have HTB:=Lib.hid htb
 generalize x-y=zz at *
 generalize bM zz=Z at *
 clear hx hy bx bl htb
 go_enter Tryz.func101,Tryz.ntmps101
 go_wp2_with fail
 refine (HP.out _).mono ?_
 rintro e w2 ⟨v1,v2,rfl,r1,r2,hk⟩
 obtain⟨s1,a1,n1,c1,s2,a2,n2,c2,rfl⟩:=r1.1
 obtain⟨s3,a3,n3,c3,s4,a4,n4,c4,rfl⟩:=r2.1
 obtain⟨hk2,B1,B2⟩:=aL w2 [.bool s1,.slice a1 n1 c1,.bool s2,.slice a2 n2 c2] [.bool s3,.slice a3 n3 c3,.bool s4,.slice a4 n4 c4] 128 128
 clear HP
 have hx:=Lib.hid ((r1.2 x HX.out.1 HX.out.2).kept hk2)
 have hy:=Lib.hid ((r2.2 y HY.out.1 HY.out.2).kept hk2)
 have hk:=Kept.comp _ _ _ hk hk2
 have p0:=B1.cell 0 rfl
 have p1:=B1.cell 1 rfl
 have p2:=B1.cell 2 rfl
 have p3:=B1.cell 3 rfl
 have q0:=B2.cell 0 rfl
 have q1:=B2.cell 1 rfl
 have q2:=B2.cell 2 rfl
 have q3:=B2.cell 3 rfl
 clear r1 r2 hk2
 go_wp2_with fail
 generalize (w2.alloc (.cells [.bool s1,.slice a1 n1 c1,.bool s2,.slice a2 n2 c2].toArray _)).alloc (.cells [.bool s3,.slice a3 n3 c3,.bool s4,.slice a4 n4 c4].toArray _)=w3 at *
 refine (HA.out _ _ _ hx.out hy.out).mono ?_
 rintro e w4 ⟨v,rfl,hv,hk4⟩
 have hk:=Kept.comp _ _ _ hk hk4
 have htb:=Lib.hid (HTB.out.kept hk)
 clear HA hk4 hx hy B1 B2 p0 p1 p2 p3 q0 q1 q2 q3
 go_wp2_with fail
 refine (HR.out _ _ hv htb.out).mono ?_
 rintro e w5 ⟨r,rfl,g1,g2,hk5⟩
 have hk:=Kept.comp _ _ _ hk hk5
 have G1:=Lib.hid g1
 have G2:=Lib.hid g2
 clear HR hk5 hv g1 g2
 go_wp2
 exact bodyPost_ret (v:=.tuple #[.string r,.int .i64 (Z:Int)]) (by simp[results,Tryz.results101,go_sem]) rfl ⟨_,rfl,G1.out,G2.out,hk⟩
theorem uk (s t:ByteArray) (c:Nat) (w:World) (hs:s.size≤1000000) (ht:t.size≤1000000) (hb:bh (bw (chs s)) (bw (chs t))=c) (hc:c≠0) :
  Calls Tryz.prog 17 #[.string s,.string t] w fun e w'=>e=.returned (.tuple #[.string (ByteArray.mk #[]),.int .i64 (c:Int)])∧Kept w w':=by
 have H:=Lib.hid fun w'=>xj s t c w' hs ht hb hc
 clear hs ht hb hc
 go_enter Tryz.func17,Tryz.ntmps17
 go_wp2_with fail
 refine (H.out _).mono ?_
 rintro e w2 ⟨rfl,hk⟩
 clear H
 go_wp2
 exact bodyPost_ret (v:=.tuple #[.string (ByteArray.mk #[]),.int .i64 (c:Int)]) (by simp[results,Tryz.results17,go_sem]) rfl ⟨rfl,hk⟩
theorem lS (s t:ByteArray) (x y:Rat) (w:World) (hx:aC s x) (hy:aC t y) (bx:Bd x 600) (bl:Bd y 600) (htb:TB w) :
  Calls Tryz.prog 17 #[.string s,.string t] w fun e w'=>∃ r:ByteArray,e=.returned (.tuple #[.string r,.int .i64 ((bM (x-y):Nat):Int)])∧(bM (x-y)=0→aC r (x-y))∧(bM (x-y)≠0→r=ByteArray.mk #[])∧Kept w w':=by
 have H:=Lib.hid (uu s t x y w hx hy bx bl htb)
 generalize x-y=zz at *
 generalize bM zz=Z at *
 clear hx hy bx bl htb
 go_enter Tryz.func17,Tryz.ntmps17
 go_wp2_with fail
 refine H.out.mono ?_
 rintro e w2 ⟨r,rfl,g1,g2,hk⟩
 have G1:=Lib.hid g1
 have G2:=Lib.hid g2
 clear H g1 g2
 go_wp2
 exact bodyPost_ret (v:=.tuple #[.string r,.int .i64 (Z:Int)]) (by simp[results,Tryz.results17,go_sem]) rfl ⟨_,rfl,G1.out,G2.out,hk⟩
theorem xi (s t:ByteArray) (c:Nat) (w:World) (hs:s.size≤1000000) (ht:t.size≤1000000) (hb:bh (bw (chs s)) (bw (chs t))=c) (hc:c≠0) :
  Calls Tryz.prog 101 #[.string s,.string t,.func (Fn.func 104) #[] #[]] w fun e w'=>e=.returned (.tuple #[.string (ByteArray.mk #[]),.int .i64 (c:Int)])∧Kept w w':=by
 have HP:=Lib.hid fun w'=>cZ s t w' hs ht
 rw[hb] at HP
 have hci:((c:Int) != 0)=true:=by rw[bne_iff_ne];omega
 have hci2:¬((c:Int)=0):=by omega
 clear hs ht hb hc
 go_enter Tryz.func101,Tryz.ntmps101
 go_wp2_with fail
 refine (HP.out _).mono ?_
 rintro e w2 ⟨v1,v2,rfl,r1,r2,hk⟩
 obtain⟨s1,a1,n1,c1,s2,a2,n2,c2,rfl⟩:=r1.1
 obtain⟨s3,a3,n3,c3,s4,a4,n4,c4,rfl⟩:=r2.1
 obtain⟨hk2,B1,B2⟩:=aL w2 [.bool s1,.slice a1 n1 c1,.bool s2,.slice a2 n2 c2] [.bool s3,.slice a3 n3 c3,.bool s4,.slice a4 n4 c4] 128 128
 clear HP
 have hk:=Kept.comp _ _ _ hk hk2
 clear r1 r2 B1 B2 hk2
 go_wp2
 exact bodyPost_ret (v:=.tuple #[.string (ByteArray.mk #[]),.int .i64 (c:Int)]) (by simp[results,Tryz.results101,go_sem]) rfl ⟨rfl,hk⟩
theorem ur (s t:ByteArray) (x y:Rat) (w:World) (hx:aC s x) (hy:aC t y) (bx:Bd x 600) (bl:Bd y 600) (htb:TB w) :
  Calls Tryz.prog 101 #[.string s,.string t,.func (Fn.func 104) #[] #[]] w fun e w'=>∃ r:ByteArray,e=.returned (.tuple #[.string r,.int .i64 ((bM (x*y):Nat):Int)])∧(bM (x*y)=0→aC r (x*y))∧(bM (x*y)≠0→r=ByteArray.mk #[])∧Kept w w':=by
 have HP:=Lib.hid fun w'=>cZ s t w' (by have:=bm hx bx;omega) (by have:=bm hy bl;omega)
 rw[bX hx bx,bX hy bl,show bh 0 0=0 from rfl] at HP
 have HX:=Lib.hid (And.intro hx bx)
 have HY:=Lib.hid (And.intro hy bl)
 have HA:=Lib.hid fun va vb w' h1 h2=>nf va vb x y 600 600 w' h1 h2 bx bl (by decide) (by decide)
 have HR:=Lib.hid fun v w' (h:Ex w' v (x*y)) ht=>jU v (x*y) 1201 w' h ((DigNum.np bx bl).mono (by decide)) (by decide) ht
 have HTB:=Lib.hid htb
 generalize x*y=zz at *
 generalize bM zz=Z at *
 clear hx hy bx bl htb
 go_enter Tryz.func101,Tryz.ntmps101
 go_wp2_with fail
 refine (HP.out _).mono ?_
 rintro e w2 ⟨v1,v2,rfl,r1,r2,hk⟩
 obtain⟨s1,a1,n1,c1,s2,a2,n2,c2,rfl⟩:=r1.1
 obtain⟨s3,a3,n3,c3,s4,a4,n4,c4,rfl⟩:=r2.1
 obtain⟨hk2,B1,B2⟩:=aL w2 [.bool s1,.slice a1 n1 c1,.bool s2,.slice a2 n2 c2] [.bool s3,.slice a3 n3 c3,.bool s4,.slice a4 n4 c4] 128 128
 clear HP
 have hx:=Lib.hid ((r1.2 x HX.out.1 HX.out.2).kept hk2)
 have hy:=Lib.hid ((r2.2 y HY.out.1 HY.out.2).kept hk2)
 have hk:=Kept.comp _ _ _ hk hk2
 have p0:=B1.cell 0 rfl
 have p1:=B1.cell 1 rfl
 have p2:=B1.cell 2 rfl
 have p3:=B1.cell 3 rfl
 have q0:=B2.cell 0 rfl
 have q1:=B2.cell 1 rfl
 have q2:=B2.cell 2 rfl
 have q3:=B2.cell 3 rfl
 clear r1 r2 hk2
 go_wp2_with fail
 generalize (w2.alloc (.cells [.bool s1,.slice a1 n1 c1,.bool s2,.slice a2 n2 c2].toArray _)).alloc (.cells [.bool s3,.slice a3 n3 c3,.bool s4,.slice a4 n4 c4].toArray _)=w3 at *
 refine (HA.out _ _ _ hx.out hy.out).mono ?_
 rintro e w4 ⟨v,rfl,hv,hk4⟩
 have hk:=Kept.comp _ _ _ hk hk4
 have htb:=Lib.hid (HTB.out.kept hk)
 clear HA hk4 hx hy B1 B2 p0 p1 p2 p3 q0 q1 q2 q3
 go_wp2_with fail
 refine (HR.out _ _ hv htb.out).mono ?_
 rintro e w5 ⟨r,rfl,g1,g2,hk5⟩
 have hk:=Kept.comp _ _ _ hk hk5
 have G1:=Lib.hid g1
 have G2:=Lib.hid g2
 clear HR hk5 hv g1 g2
 go_wp2
 exact bodyPost_ret (v:=.tuple #[.string r,.int .i64 (Z:Int)]) (by simp[results,Tryz.results101,go_sem]) rfl ⟨_,rfl,G1.out,G2.out,hk⟩
theorem uj (s t:ByteArray) (c:Nat) (w:World) (hs:s.size≤1000000) (ht:t.size≤1000000) (hb:bh (bw (chs s)) (bw (chs t))=c) (hc:c≠0) :
  Calls Tryz.prog 18 #[.string s,.string t] w fun e w'=>e=.returned (.tuple #[.string (ByteArray.mk #[]),.int .i64 (c:Int)])∧Kept w w':=by
 have H:=Lib.hid fun w'=>xi s t c w' hs ht hb hc
 clear hs ht hb hc
 go_enter Tryz.func18,Tryz.ntmps18
 go_wp2_with fail
 refine (H.out _).mono ?_
 rintro e w2 ⟨rfl,hk⟩
 clear H
 go_wp2
 exact bodyPost_ret (v:=.tuple #[.string (ByteArray.mk #[]),.int .i64 (c:Int)]) (by simp[results,Tryz.results18,go_sem]) rfl ⟨rfl,hk⟩
theorem lQ (s t:ByteArray) (x y:Rat) (w:World) (hx:aC s x) (hy:aC t y) (bx:Bd x 600) (bl:Bd y 600) (htb:TB w) :
  Calls Tryz.prog 18 #[.string s,.string t] w fun e w'=>∃ r:ByteArray,e=.returned (.tuple #[.string r,.int .i64 ((bM (x*y):Nat):Int)])∧(bM (x*y)=0→aC r (x*y))∧(bM (x*y)≠0→r=ByteArray.mk #[])∧Kept w w':=by
 have H:=Lib.hid (ur s t x y w hx hy bx bl htb)
 generalize x*y=zz at *
 generalize bM zz=Z at *
 clear hx hy bx bl htb
 go_enter Tryz.func18,Tryz.ntmps18
 go_wp2_with fail
 refine H.out.mono ?_
 rintro e w2 ⟨r,rfl,g1,g2,hk⟩
 have G1:=Lib.hid g1
 have G2:=Lib.hid g2
 clear H g1 g2
 go_wp2
 exact bodyPost_ret (v:=.tuple #[.string r,.int .i64 (Z:Int)]) (by simp[results,Tryz.results18,go_sem]) rfl ⟨_,rfl,G1.out,G2.out,hk⟩
theorem ui (s t:ByteArray) (c:Nat) (w:World) (hs:s.size≤1000000) (ht:t.size≤1000000) (hb:bh (bw (chs s)) (bw (chs t))=c) (hc:c≠0) :
  Calls Tryz.prog 19 #[.string s,.string t] w fun e w'=>e=.returned (.tuple #[.string (ByteArray.mk #[]),.int .i64 (c:Int)])∧Kept w w':=by
 have HP:=Lib.hid fun w'=>cZ s t w' hs ht
 rw[hb] at HP
 have hci:((c:Int) != 0)=true:=by rw[bne_iff_ne];omega
 have hci2:¬((c:Int)=0):=by omega
 clear hs ht hb hc
 go_enter Tryz.func19,Tryz.ntmps19
 go_wp2_with fail
 refine (HP.out _).mono ?_
 rintro e w2 ⟨v1,v2,rfl,r1,r2,hk⟩
 obtain⟨s1,a1,n1,c1,s2,a2,n2,c2,rfl⟩:=r1.1
 obtain⟨s3,a3,n3,c3,s4,a4,n4,c4,rfl⟩:=r2.1
 obtain⟨hk2,B1,B2⟩:=aL w2 [.bool s1,.slice a1 n1 c1,.bool s2,.slice a2 n2 c2] [.bool s3,.slice a3 n3 c3,.bool s4,.slice a4 n4 c4] 128 128
 clear HP
 have hk:=Kept.comp _ _ _ hk hk2
 clear r1 r2 B1 B2 hk2
 go_wp2
 exact bodyPost_ret (v:=.tuple #[.string (ByteArray.mk #[]),.int .i64 (c:Int)]) (by simp[results,Tryz.results19,go_sem]) rfl ⟨rfl,hk⟩
theorem qL (s t:ByteArray) (x y:Rat) (w:World) (hx:aC s x) (hy:aC t y) (bx:Bd x 600) (bl:Bd y 600) (htb:TB w) (h0:y=0) :
  Calls Tryz.prog 19 #[.string s,.string t] w fun e w'=>e=.returned (.tuple #[.string (ByteArray.mk #[]),.int .i64 6])∧Kept w w':=by
 have HP:=Lib.hid fun w'=>cZ s t w' (by have:=bm hx bx;omega) (by have:=bm hy bl;omega)
 rw[bX hx bx,bX hy bl,show bh 0 0=0 from rfl] at HP
 have HX:=Lib.hid (And.intro hx bx)
 have HY:=Lib.hid (And.intro hy bl)
 have HS:=Lib.hid fun v w' (h:Ex w' v y)=>iP v y 600 w' h bl (by decide)
 rw[show y.num.sign=0 by rw[h0];rfl] at HS
 clear hx hy bx bl htb h0
 go_enter Tryz.func19,Tryz.ntmps19
 go_wp2_with fail
 refine (HP.out _).mono ?_
 rintro e w2 ⟨v1,v2,rfl,r1,r2,hk⟩
 obtain⟨s1,a1,n1,c1,s2,a2,n2,c2,rfl⟩:=r1.1
 obtain⟨s3,a3,n3,c3,s4,a4,n4,c4,rfl⟩:=r2.1
 obtain⟨hk2,B1,B2⟩:=aL w2 [.bool s1,.slice a1 n1 c1,.bool s2,.slice a2 n2 c2] [.bool s3,.slice a3 n3 c3,.bool s4,.slice a4 n4 c4] 128 128
 clear HP
 have hx:=Lib.hid ((r1.2 x HX.out.1 HX.out.2).kept hk2)
 have hy:=Lib.hid ((r2.2 y HY.out.1 HY.out.2).kept hk2)
 have hk:=Kept.comp _ _ _ hk hk2
 have p0:=B1.cell 0 rfl
 have p1:=B1.cell 1 rfl
 have p2:=B1.cell 2 rfl
 have p3:=B1.cell 3 rfl
 have q0:=B2.cell 0 rfl
 have q1:=B2.cell 1 rfl
 have q2:=B2.cell 2 rfl
 have q3:=B2.cell 3 rfl
 clear r1 r2 hk2
 go_wp2_with fail
 generalize (w2.alloc (.cells [.bool s1,.slice a1 n1 c1,.bool s2,.slice a2 n2 c2].toArray _)).alloc (.cells [.bool s3,.slice a3 n3 c3,.bool s4,.slice a4 n4 c4].toArray _)=w3 at *
 refine (HS.out _ _ hy.out).mono ?_
 rintro e w4 ⟨rfl,hk4⟩
 have hk:=Kept.comp _ _ _ hk hk4
 clear HS hk4 hx hy B1 B2 p0 p1 p2 p3 q0 q1 q2 q3
 go_wp2
 exact bodyPost_ret (v:=.tuple #[.string (ByteArray.mk #[]),.int .i64 6]) (by simp[results,Tryz.results19,go_sem]) rfl ⟨rfl,hk⟩
theorem sG (s t:ByteArray) (x y:Rat) (w:World) (hx:aC s x) (hy:aC t y) (bx:Bd x 600) (bl:Bd y 600) (htb:TB w) (h0:y≠0) :
  Calls Tryz.prog 19 #[.string s,.string t] w fun e w'=>∃ r:ByteArray,e=.returned (.tuple #[.string r,.int .i64 ((bM (x/y):Nat):Int)])∧(bM (x/y)=0→aC r (x/y))∧(bM (x/y)≠0→r=ByteArray.mk #[])∧Kept w w':=by
 have HP:=Lib.hid fun w'=>cZ s t w' (by have:=bm hx bx;omega) (by have:=bm hy bl;omega)
 rw[bX hx bx,bX hy bl,show bh 0 0=0 from rfl] at HP
 have HX:=Lib.hid (And.intro hx bx)
 have HY:=Lib.hid (And.intro hy bl)
 have HS:=Lib.hid fun v w' (h:Ex w' v y)=>iP v y 600 w' h bl (by decide)
 have hsg:¬(y.num.sign=0):=fun h=>h0 (Rat.num_eq_zero.1 (Int.sign_eq_zero_iff_zero.1 h))
 have hsgb:(y.num.sign==0)=false:=by rw[beq_eq_false_iff_ne];exact hsg
 have HA:=Lib.hid fun va vb w' h1 h2=>xS va vb x y 600 600 w' h1 h2 bx bl (by decide) (by decide) h0
 have HR:=Lib.hid fun v w' (h:Ex w' v (x/y)) ht=>jU v (x/y) 1200 w' h (by rw[Rat.div_def];exact DigNum.np bx (DigNum.nn bl)) (by decide) ht
 have HTB:=Lib.hid htb
 generalize x/y=zz at *
 generalize bM zz=Z at *
 generalize y.num.sign=sg at *
 clear hx hy bx bl htb h0
 go_enter Tryz.func19,Tryz.ntmps19
 go_wp2_with fail
 refine (HP.out _).mono ?_
 rintro e w2 ⟨v1,v2,rfl,r1,r2,hk⟩
 obtain⟨s1,a1,n1,c1,s2,a2,n2,c2,rfl⟩:=r1.1
 obtain⟨s3,a3,n3,c3,s4,a4,n4,c4,rfl⟩:=r2.1
 obtain⟨hk2,B1,B2⟩:=aL w2 [.bool s1,.slice a1 n1 c1,.bool s2,.slice a2 n2 c2] [.bool s3,.slice a3 n3 c3,.bool s4,.slice a4 n4 c4] 128 128
 clear HP
 have hx:=Lib.hid ((r1.2 x HX.out.1 HX.out.2).kept hk2)
 have hy:=Lib.hid ((r2.2 y HY.out.1 HY.out.2).kept hk2)
 have hk:=Kept.comp _ _ _ hk hk2
 have p0:=B1.cell 0 rfl
 have p1:=B1.cell 1 rfl
 have p2:=B1.cell 2 rfl
 have p3:=B1.cell 3 rfl
 have q0:=B2.cell 0 rfl
 have q1:=B2.cell 1 rfl
 have q2:=B2.cell 2 rfl
 have q3:=B2.cell 3 rfl
 clear r1 r2 hk2
 go_wp2_with fail
 generalize (w2.alloc (.cells [.bool s1,.slice a1 n1 c1,.bool s2,.slice a2 n2 c2].toArray _)).alloc (.cells [.bool s3,.slice a3 n3 c3,.bool s4,.slice a4 n4 c4].toArray _)=w3 at *
 refine (HS.out _ _ hy.out).mono ?_
 rintro e w4 ⟨rfl,hk4⟩
 have hk:=Kept.comp _ _ _ hk hk4
 have B1:=B1.kept hk4
 have B2:=B2.kept hk4
 have hx:=Lib.hid (hx.out.kept hk4)
 have hy:=Lib.hid (hy.out.kept hk4)
 have p0:=B1.cell 0 rfl
 have p1:=B1.cell 1 rfl
 have p2:=B1.cell 2 rfl
 have p3:=B1.cell 3 rfl
 have q0:=B2.cell 0 rfl
 have q1:=B2.cell 1 rfl
 have q2:=B2.cell 2 rfl
 have q3:=B2.cell 3 rfl
 clear HS hk4
 go_wp2_with fail
 refine (HA.out _ _ _ hx.out hy.out).mono ?_
 rintro e w5 ⟨v,rfl,hv,hk4⟩
 have hk:=Kept.comp _ _ _ hk hk4
 have htb:=Lib.hid (HTB.out.kept hk)
 clear HA hk4 hx hy B1 B2 p0 p1 p2 p3 q0 q1 q2 q3
 go_wp2_with fail
 refine (HR.out _ _ hv htb.out).mono ?_
 rintro e w5 ⟨r,rfl,g1,g2,hk5⟩
 have hk:=Kept.comp _ _ _ hk hk5
 have G1:=Lib.hid g1
 have G2:=Lib.hid g2
 clear HR hk5 hv g1 g2
 go_wp2
 exact bodyPost_ret (v:=.tuple #[.string r,.int .i64 (Z:Int)]) (by simp[results,Tryz.results19,go_sem]) rfl ⟨_,rfl,G1.out,G2.out,hk⟩
theorem qM (s t:ByteArray) (c:Nat) (w:World) (hs:s.size≤1000000) (ht:t.size≤1000000) (hb:bh (bw (chs s)) (bw (chs t))=c) (hc:c≠0) :
  Calls Tryz.prog 20 #[.string s,.string t] w fun e w'=>e=.returned (.tuple #[.int .i64 0,.int .i64 (c:Int)])∧Kept w w':=by
 have HP:=Lib.hid fun w'=>cZ s t w' hs ht
 rw[hb] at HP
 have hci:((c:Int) != 0)=true:=by rw[bne_iff_ne];omega
 have hci2:¬((c:Int)=0):=by omega
 clear hs ht hb hc
 go_enter Tryz.func20,Tryz.ntmps20
 go_wp2_with fail
 refine (HP.out _).mono ?_
 rintro e w2 ⟨v1,v2,rfl,r1,r2,hk⟩
 obtain⟨s1,a1,n1,c1,s2,a2,n2,c2,rfl⟩:=r1.1
 obtain⟨s3,a3,n3,c3,s4,a4,n4,c4,rfl⟩:=r2.1
 obtain⟨hk2,B1,B2⟩:=aL w2 [.bool s1,.slice a1 n1 c1,.bool s2,.slice a2 n2 c2] [.bool s3,.slice a3 n3 c3,.bool s4,.slice a4 n4 c4] 128 128
 clear HP
 have hk:=Kept.comp _ _ _ hk hk2
 clear r1 r2 B1 B2 hk2
 go_wp2
 exact bodyPost_ret (v:=.tuple #[.int .i64 0,.int .i64 (c:Int)]) (by simp[results,Tryz.results20,go_sem]) rfl ⟨rfl,hk⟩
theorem je (s t:ByteArray) (x y:Rat) (w:World) (hx:aC s x) (hy:aC t y) (bx:Bd x 600) (bl:Bd y 600) (htb:TB w) :
  Calls Tryz.prog 20 #[.string s,.string t] w fun e w'=>e=.returned (.tuple #[.int .i64 (x-y).num.sign,.int .i64 0])∧Kept w w':=by
 have HP:=Lib.hid fun w'=>cZ s t w' (by have:=bm hx bx;omega) (by have:=bm hy bl;omega)
 rw[bX hx bx,bX hy bl,show bh 0 0=0 from rfl] at HP
 have HX:=Lib.hid (And.intro hx bx)
 have HY:=Lib.hid (And.intro hy bl)
 have HA:=Lib.hid fun va vb w' h1 h2=>xL va vb x y 600 600 w' h1 h2 bx bl (by decide) (by decide)
 generalize (x-y).num.sign=zz at *
 clear hx hy bx bl htb
 go_enter Tryz.func20,Tryz.ntmps20
 go_wp2_with fail
 refine (HP.out _).mono ?_
 rintro e w2 ⟨v1,v2,rfl,r1,r2,hk⟩
 obtain⟨s1,a1,n1,c1,s2,a2,n2,c2,rfl⟩:=r1.1
 obtain⟨s3,a3,n3,c3,s4,a4,n4,c4,rfl⟩:=r2.1
 obtain⟨hk2,B1,B2⟩:=aL w2 [.bool s1,.slice a1 n1 c1,.bool s2,.slice a2 n2 c2] [.bool s3,.slice a3 n3 c3,.bool s4,.slice a4 n4 c4] 128 128
 clear HP
 have hx:=Lib.hid ((r1.2 x HX.out.1 HX.out.2).kept hk2)
 have hy:=Lib.hid ((r2.2 y HY.out.1 HY.out.2).kept hk2)
 have hk:=Kept.comp _ _ _ hk hk2
 have p0:=B1.cell 0 rfl
 have p1:=B1.cell 1 rfl
 have p2:=B1.cell 2 rfl
 have p3:=B1.cell 3 rfl
 have q0:=B2.cell 0 rfl
 have q1:=B2.cell 1 rfl
 have q2:=B2.cell 2 rfl
 have q3:=B2.cell 3 rfl
 clear r1 r2 hk2
 go_wp2_with fail
 generalize (w2.alloc (.cells [.bool s1,.slice a1 n1 c1,.bool s2,.slice a2 n2 c2].toArray _)).alloc (.cells [.bool s3,.slice a3 n3 c3,.bool s4,.slice a4 n4 c4].toArray _)=w3 at *
 refine (HA.out _ _ _ hx.out hy.out).mono ?_
 rintro e w4 ⟨rfl,hk4⟩
 have hk:=Kept.comp _ _ _ hk hk4
 clear HA hk4 hx hy B1 B2 p0 p1 p2 p3 q0 q1 q2 q3
 go_wp2
 exact bodyPost_ret (v:=.tuple #[.int .i64 zz,.int .i64 0]) (by simp[results,Tryz.results20,go_sem]) rfl ⟨rfl,hk⟩
theorem gQ (s:ByteArray) (w:World) (hs:s.size≤1000000) :
  Calls Tryz.prog 15 #[.string s] w fun e w'=>e=.returned (.int .i64 ((bw (chs s):Nat):Int))∧Kept w w':=by
 have HP:=Lib.hid fun w'=>jk s w' hs
 generalize bw (chs s)=z at *
 clear hs
 go_enter Tryz.func15,Tryz.ntmps15
 go_wp2_with fail
 refine (HP.out _).mono ?_
 rintro e w2 ⟨v1,rfl,r1,hk⟩
 obtain⟨s1,a1,n1,c1,s2,a2,n2,c2,rfl⟩:=r1.1
 have kn:=aj w2 (.cells ([.bool s1,.slice a1 n1 c1,.bool s2,.slice a2 n2 c2]).toArray 128)
 have hk:=Kept.comp _ _ _ hk kn
 clear HP r1 kn
 go_wp2
 go_ret
 exact⟨rfl,hk⟩
end Go.Proofs.YtiohhcljhadgcaaGreatDoor.E
