import Derived.Test.YtjbcmmaniphkkaaGreatDoorTryzShelf
import Derived.Test.YtjbcmmaniphkkaaGreatDoorEe
set_option linter.unusedSectionVars false
set_option linter.unusedVariables false
set_option linter.unusedSimpArgs false
set_option maxRecDepth 100000
set_option maxHeartbeats 4000000
namespace Go.Proofs.YtjbcmmaniphkkaaGreatDoor.E
open Go.RowKit LimbNum
open DigNum (chs ah bP aH aC aq aE bG jt bB bh aN aL)
theorem wS (l:List UInt8):chs (ByteArray.mk l.toArray)=l.map UInt8.toNat:=rfl
theorem uM (s:ByteArray):Lib.indexByte s.data.toList 47=if aq (chs s)<s.size then (aq (chs s):Int) else -1:=by
 have hl:s.size=s.data.toList.length:=rfl
 rw[hl]
 unfold chs aq
 generalize s.data.toList=l
 induction l with
 | nil=>rfl
 | cons b l ih=>
  unfold Lib.indexByte
  rw[List.map_cons,List.findIdx_cons,List.length_cons]
  have hb:(b.toNat==47)=(b==47):=by
   by_cases h:b=47
   ·subst h;rfl
   ·have:¬b.toNat=47:=fun h2=>h (UInt8.toNat_inj.1 h2)
    rw[beq_eq_false_iff_ne.2 this,beq_eq_false_iff_ne.2 h]
  rw[hb]
  by_cases h:(b==47)=true
  ·rw[h];simp
  ·rw[Bool.not_eq_true] at h
   rw[h]
   rw[ih]
   simp only[Bool.false_eq_true,if_false,cond_false]
   generalize List.findIdx (fun x=>x==47) (l.map UInt8.toNat)=X
   generalize l.length=L
   by_cases h2:X<L
   ·have e1:X+1<L+1:=by omega
    have h3:((X:Int) == -1)=false:=by rw[beq_eq_false_iff_ne];omega
    simp only[if_pos h2,if_pos e1,h3]
    simp
   ·have e1:¬X+1<L+1:=by omega
    simp only[if_neg h2,if_neg e1]
    rfl
theorem Fk (s:ByteArray) (w:World) (hs:s.size≤1099511627776) :
  Calls Tryz.prog 204 #[.string s,.string (ByteArray.mk #[47])] w fun e w'=>∃ t u:ByteArray,e=.returned (.tuple #[.string t,.string u,.bool (decide (aq (chs s)<s.size))])∧chs t=(chs s).take (aq (chs s))∧chs u=(chs s).drop (aq (chs s)+1)∧∃ q,w'=w.drewN q:=by
 have HI:=K7 fun w'=>Go.Proofs.Tryz.stringslite_Index_one s 47 w'
 rw[uM] at HI
 have hle:aq (chs s)≤s.size:=by have:=DigNum.fB (chs s);rwa [ah] at this
 obtain⟨k,hk⟩:∃ k,aq (chs s)=k:=⟨_,rfl⟩
 rw[hk] at HI hle ⊢
 clear hk
 by_cases h:k<s.size
 ·rw[if_pos h] at HI
  rw[decide_eq_true h]
  have HT:=K7 (show chs (s.extract 0 k)=(chs s).take k by rw[aC,List.drop_zero,Nat.sub_zero])
  have HU:=K7 (show chs (s.extract (k+1) s.size)=(chs s).drop (k+1) by rw[aC,List.take_of_length_le (by rw[List.length_drop,ah];omega)])
  have x1:IntKind.i64.wrap ((k:Int)+1)=((k+1:Nat):Int):=by rw[IntWalk.i64_in _ (by omega)];omega
  have h2:¬s.size<k:=by omega
  have h3:¬s.size<k+1:=by omega
  go_enter Tryz.func204,Tryz.ntmps204
  go_wp2_with fail
  refine (HI.out _).mono ?_
  rintro e w2 ⟨rfl,rfl⟩
  clear HI
  go_wp2
  go_quiet (fail)
  go_wp2
  exact bodyPost_ret (v:=.tuple #[.string (s.extract 0 k),.string (s.extract (k+1) s.size),.bool true]) (by simp[results,Tryz.results204,go_sem]) rfl ⟨_,_,rfl,HT.out,HU.out,_,rfl⟩
 ·rw[if_neg h] at HI
  rw[decide_eq_false h]
  have HT:=K7 (show chs s=(chs s).take k by rw[List.take_of_length_le (by rw[ah];omega)])
  have HU:=K7 (show chs (ByteArray.mk #[])=(chs s).drop (k+1) by rw[List.drop_of_length_le (by rw[ah];omega)];rfl)
  clear h hle
  go_enter Tryz.func204,Tryz.ntmps204
  go_wp2_with fail
  refine (HI.out _).mono ?_
  rintro e w2 ⟨rfl,rfl⟩
  clear HI
  go_wp2
  exact bodyPost_ret (v:=.tuple #[.string s,.string (ByteArray.mk #[]),.bool false]) (by simp[results,Tryz.results204,go_sem]) rfl ⟨_,_,rfl,HT.out,HU.out,0,rfl⟩
theorem BM (s:ByteArray) (w:World) (hs:s.size≤1099511627776) :
  Calls Tryz.prog 143 #[.string s,.string (ByteArray.mk #[47])] w fun e w'=>∃ t u:ByteArray,e=.returned (.tuple #[.string t,.string u,.bool (decide (aq (chs s)<s.size))])∧chs t=(chs s).take (aq (chs s))∧chs u=(chs s).drop (aq (chs s)+1)∧Kept w w':=by
 have HC:=K7 fun w'=>Fk s w' hs
 generalize decide (aq (chs s)<s.size)=b at *
 generalize (chs s).take (aq (chs s))=l1 at *
 generalize (chs s).drop (aq (chs s)+1)=l2 at *
 go_enter Tryz.func143,Tryz.ntmps143
 go_wp2_with fail
 refine (HC.out _).mono ?_
 rintro e w2 ⟨t,u,rfl,h1,h2,q,rfl⟩
 have H1:=K7 h1
 have H2:=K7 h2
 clear HC h1 h2
 go_wp2
 exact bodyPost_ret (v:=.tuple #[.string t,.string u,.bool b]) (by simp[results,Tryz.results143,go_sem]) rfl ⟨_,_,rfl,H1.out,H2.out,al (Below.refl _ _) _⟩
theorem iJ (s:ByteArray):Lib.hasPrefix s.data.toList [45]=decide ((chs s).getD 0 0=45)∧chs (ByteArray.mk (Lib.trimPrefix s.data.toList [45]).toArray)=aE (chs s):=by
 unfold chs aE Lib.trimPrefix Lib.hasPrefix
 generalize s.data.toList=l
 cases l with
 | nil=>simp
 | cons b l=>
  have hb:(45==b)=decide (b.toNat=45):=by
   by_cases h:b=45
   ·subst h;rfl
   ·have h2:¬b.toNat=45:=fun h2=>h (UInt8.toNat_inj.1 h2)
    rw[decide_eq_false h2,beq_eq_false_iff_ne];exact fun h3=>h h3.symm
  by_cases h:b.toNat=45
  ·rw[decide_eq_true h] at hb
   simp[List.isPrefixOf,hb,h]
  ·rw[decide_eq_false h] at hb
   simp[List.isPrefixOf,hb,h]
theorem ud (s:ByteArray) (w:World) :
  Calls Tryz.prog 144 #[.string s,.string (ByteArray.mk #[45])] w fun e w'=>∃ t:ByteArray,e=.returned (.string t)∧chs t=aE (chs s)∧w'=w:=by
 refine (Go.Proofs.Tryz.strings_TrimPrefix s (ByteArray.mk #[45]) w).mono ?_
 rintro e w' ⟨rfl,rfl⟩
 exact⟨_,rfl,(iJ s).2,rfl⟩
theorem qZ (s:ByteArray) (w:World) :
  Calls Tryz.prog 206 #[.string s,.string (ByteArray.mk #[45])] w fun e w'=>∃ t:ByteArray,e=.returned (.tuple #[.string t,.bool (decide ((chs s).getD 0 0=45))])∧chs t=aE (chs s)∧w'=w:=by
 refine (Go.Proofs.Tryz.strings_CutPrefix s (ByteArray.mk #[45]) w).mono ?_
 rintro e w' ⟨rfl,rfl⟩
 exact⟨_,by rw[←(iJ s).1],(iJ s).2,rfl⟩
theorem cE (s:ByteArray) (l:List UInt8):(s.toList==l)=decide (chs s=l.map UInt8.toNat):=by
 rw[Go.ByteArray.toList_eq]
 unfold chs
 by_cases h:s.data.toList=l
 ·subst h;simp
 ·have h2:¬s.data.toList.map UInt8.toNat=l.map UInt8.toNat:=fun h3=>h (List.map_inj_right (f:=UInt8.toNat) (fun x y hxy=>UInt8.toNat_inj.1 hxy) |>.1 h3)
  rw[decide_eq_false h2,beq_eq_false_iff_ne];exact h
theorem gF (s:ByteArray) (w:World) (hs:s.size≤1099511627776) :
  Calls Tryz.prog 145 #[.string s] w fun e w'=>e=.returned (.bool (bG (chs s)))∧Kept w w':=by
 have hl:=ah s
 have he:=DigNum.uA (chs s)
 have hnil:=cE s []
 by_cases h0:s.size=0
 ·have R:=K7 (show bG (chs s)=false by rw[he,show decide (1≤(chs s).length)=false from decide_eq_false (by omega)];rfl)
  rw[List.length_eq_zero_iff.1 (by omega:(chs s).length=0)] at hnil
  rw[show decide (([]:List Nat)=List.map UInt8.toNat [])=true from rfl] at hnil
  clear he
  go_enter Tryz.func145,Tryz.ntmps145
  go_wp2
  go_ret
  exact⟨congrArg (fun b=>Ending.returned (Value.bool b)) R.out.symm,al (Below.refl _ _) 0⟩
 have hp:0<s.size:=by omega
 have hg:=bP hp
 rw[show decide (chs s=List.map UInt8.toNat [])=false from decide_eq_false fun h=>by rw[h] at hl;simp at hl;omega] at hnil
 rw[show decide (1≤(chs s).length)=true from decide_eq_true (by omega),hg,Bool.true_and] at he
 by_cases h48:1<s.size∧s[0].toNat=48
 ·have hb:((s[0].toNat:Int)==48)=true:=by simp[h48.2]
  have R:=K7 (show bG (chs s)=false by rw[he,show decide (1<(chs s).length)=true from decide_eq_true (by omega),h48.2];rfl)
  have h1:=h48.1
  clear he h48 hg
  go_enter Tryz.func145,Tryz.ntmps145
  go_wp2
  go_ret
  exact⟨congrArg (fun b=>Ending.returned (Value.bool b)) R.out.symm,al (Below.refl _ _) 0⟩
 have R:=K7 (show bG (chs s)=jt (chs s) by
  rw[he,show (decide (1<(chs s).length)&&s[0].toNat==48)=false from by
   rw[Bool.and_eq_false_iff,decide_eq_false_iff_not,beq_eq_false_iff_ne]
   by_cases h:1<s.size
   ·exact .inr fun h2=>h48 ⟨h,h2⟩
   ·exact .inl (by omega)]
  rfl)
 have HT:=K7 (@DigNum.rQ (chs s))
 have HF:=K7 fun i h1 h2=>@DigNum.pj (chs s) i h1 h2
 have hcase:((s[0].toNat:Int)==48)=false∨(((s[0].toNat:Int)==48)=true∧¬1<s.size):=by
  by_cases h:s[0].toNat=48
  ·exact .inr ⟨by simp[h],fun h2=>h48 ⟨h2,h⟩⟩
  ·exact .inl (by rw[beq_eq_false_iff_ne];omega)
 clear he h48 hg
 rcases hcase with hb|⟨hb,hb1⟩
 all_goals
  go_enter Tryz.func145,Tryz.ntmps145
  go_wp2
  go_loopw [18] (fun i wr=>∃ k:Nat,i=.int .i64 k∧k≤s.size∧Hid (∀ i,i<k→48≤(chs s).getD i 0∧(chs s).getD i 0≤57)∧∃ q,wr=w.drewN q) (fun i _=>s.size-(intOf i).toNat)
  case atStart=>exact⟨0,rfl,Nat.zero_le _,K7 fun i h=>absurd h (Nat.not_lt_zero i),0,rfl⟩
  case round=>
   obtain⟨k,rfl,hk,hno,q,rfl⟩:=hrel
   by_cases hlt:k<s.size
   ·have hg:=bP hlt
    by_cases h1:s[k].toNat<48
    ·have hb:(s[k].toNat:Int)<48:=by omega
     have hend:=K7 (R.out.trans (HF.out k (by omega) (by rw[hg];omega)))
     clear HT HF hno hg h1 R
     go_wp2
     go_ret
     exact⟨congrArg (fun b=>Ending.returned (Value.bool b)) hend.out.symm,al (Below.refl _ _) _⟩
    ·have hb:¬(s[k].toNat:Int)<48:=by omega
     by_cases h2:57<s[k].toNat
     ·have hb2:(57:Int)<(s[k].toNat:Int):=by omega
      have hend:=K7 (R.out.trans (HF.out k (by omega) (by rw[hg];omega)))
      clear HT HF hno hg h1 h2 R
      go_wp2
      go_ret
      exact⟨congrArg (fun b=>Ending.returned (Value.bool b)) hend.out.symm,al (Below.refl _ _) _⟩
     ·have hb2:¬(57:Int)<(s[k].toNat:Int):=by omega
      have hno2:=K7 (show ∀ i,i<k+1→48≤(chs s).getD i 0∧(chs s).getD i 0≤57 from fun i hi=>by
       rcases Nat.lt_or_ge i k with h|h
       ·exact hno.out i h
       ·obtain rfl:i=k:=by omega
        rw[hg];omega)
      clear HT HF hno hg h1 h2 R
      go_wp2
      go_roundw
      case rel=>exact⟨k+1,by go_num,by omega,hno2,q,rfl⟩
      case measure=>simp[intOf];omega
   ·obtain rfl:k=s.size:=by omega
    have hend:=K7 (R.out.trans (HT.out fun i hi=>hno.out i (by omega)))
    clear HT HF hno R
    go_wp2
    go_ret
    exact⟨congrArg (fun b=>Ending.returned (Value.bool b)) hend.out.symm,al (Below.refl _ _) _⟩
end Go.Proofs.YtjbcmmaniphkkaaGreatDoor.E
namespace Go.Proofs.YtjbcmmaniphkkaaGreatDoor.E
open Go.RowKit LimbNum
open DigNum (chs ah bP aH aC aq aE bG jt bB bh aN aL jx tA pR xu pQ pP Dec)
theorem BB {n k:Nat} (h:n<10^k) (hk:k≤1000000):size n≤1073741824:=Nat.le_trans (aX h) (by omega)
theorem qD {s:ByteArray} {n:Int} (h:aN s n):aE (chs s)=bh n.natAbs∧decide ((chs s).getD 0 0=45)=decide (n<0)∧decide (chs s=[45,48])=false:=by
 have h1:chs s=bB n:=h
 obtain⟨h2,h3⟩:=DigNum.ur n []
 rw[List.append_nil,List.append_nil] at h2
 rw[List.append_nil] at h3
 rw[h1]
 refine ⟨h2,by simp only[h3],?_⟩
 rw[decide_eq_false_iff_not]
 intro h4
 have h5:n<0:=h3.1 (by rw[h4];rfl)
 rw[h4] at h2
 have h6:bh n.natAbs=bh 0:=by rw[←h2,DigNum.dS];rfl
 have:=DigNum.eW h6
 omega
theorem rJ (s:ByteArray) (n:Int) (w:World) (h:aN s n) (hs:s.size≤1000000) :
  Calls Tryz.prog 146 #[.string s] w fun e w'=>∃ v,e=.returned (.tuple #[v,.bool true])∧Whole w' v n∧Kept w w':=by
 obtain⟨h1,h2,h3⟩:=qD h
 have HC:=K7 fun w'=>qZ s w'
 rw[h1,h2] at HC
 have hm0:(s.toList==[45,48])=false:=by rw[cE];exact h3
 have hnd:(bh n.natAbs).length≤s.size:=by rw[h.size,DigNum.bw,DigNum.aD];omega
 have hnp:1≤(bh n.natAbs).length:=by rw[DigNum.aD];exact DigNum.gL _
 have hdc:=DigNum.db n.natAbs
 have hval:=DigNum.dt n.natAbs
 have hform:bG (bh n.natAbs)=true:=DigNum.du.2 (by rw[hval])
 have hws:az (decide (n<0)) n.natAbs=n:=by
  unfold az
  by_cases h:n<0<;>simp[h]<;>omega
 have hnb:=DigNum.dx n.natAbs
 rw[DigNum.aD] at hnd
 have HSg:=K7 fun l w' h=>bm (decide (n<0)) l n.natAbs w' h (Nat.le_trans (aX hnb) (by omega))
 rw[hws] at HSg
 rw[←DigNum.aD] at hnd
 have hk0:=ak w (.cells dI.toArray 95)
 have hB:=aJ w 95 dI
 generalize bh n.natAbs=cs at *
 generalize decide (n<0)=sg at *
 clear h h1 h2 h3 hws hnb
 have HN:=K7 hval
 clear hval
 go_enter Tryz.func146,Tryz.ntmps146
 go_wp2_with fail
 refine (HC.out _).mono ?_
 rintro e w2 ⟨t,rfl,ht,rfl⟩
 subst ht
 rw[ah] at hnd hnp
 have HD:=K7 fun w'=>gF t w' (by omega)
 rw[hform] at HD
 clear HC hform
 go_wp2_with fail
 have hk:=K7 hk0
 generalize w.alloc (.cells dI.toArray _)=w2 at *
 refine (HD.out _).mono ?_
 rintro e w3 ⟨rfl,hk3⟩
 have hk:=K7 (Kept.comp _ _ _ hk.out hk3)
 have hB:=hB.kept hk3
 clear HD hk0 hk3
 have Hdec:=K7 hdc
 clear hdc
 go_wp2
 obtain⟨w4,hw4⟩:∃ w4:World,w4=w3:=⟨_,rfl⟩
 have HB:=K7 (show Blk w4 w.heap.size 95 dI by rw[hw4];exact hB)
 have Hk0:=K7 (show Kept w w4 by rw[hw4];exact hk.out)
 have hkk:Kept w4 w3:=by rw[hw4];exact Kept.rfl' _
 clear hB hk hw4
 have HM:Hid (∀ (x m:Nat),x<10^t.size→∀ va w',Lim w' va x→m<10000000000000000000→Calls Tryz.prog 207 #[va,.int .u64 10000000000000000000,.int .u64 m] w' fun e w2=>∃ v,e=.returned v∧Lim w2 v (x*10000000000000000000+m)∧Kept w' w2):=K7 fun x m hx va w' h hm=>fh va x 10000000000000000000 m w' h (BB hx (by omega)) (by decide) (Nat.lt_trans hm (by decide))
 go_loopw [6,7,8,9,10] (fun l b _ _ _ wr=>∃ (st:Nat) (v:Value),l=v∧b=.int .i64 st∧st≤t.size∧Hid (st=0∨(t.size-st)%19=0)∧Lim wr v (aL ((chs t).take st))∧Kept w4 wr) (fun _ b _ _ _ _=>t.size-(intOf b).toNat)
 case atStart=>exact⟨0,_,rfl,rfl,Nat.zero_le _,K7 (.inl rfl),Lim.fe _,hkk⟩
 case round=>
  obtain⟨st,v,rfl,rfl,hst,hmod,hL,hkr⟩:=hrel
  by_cases hlt:st<t.size
  ·have hx:aL ((chs t).take st)<10^t.size:=Nat.lt_of_lt_of_le (DigNum.gh Hdec.out st (by rw[ah];exact hst)) (Nat.pow_le_pow_right (by decide) hst)
   have HM:=K7 fun m va w' h hm=>HM.out (aL ((chs t).take st)) m hx va w' h hm
   have Hend:=K7 hmod.out
   clear hx hmod HSg HB
   by_cases h0:st=0
   ·have hen1:(t.size-1)%19+1≤t.size:=by have:=Nat.mod_le (t.size-1) 19;omega
    have hen2:=Nat.mod_lt (t.size-1) (show 19>0 by decide)
    have Hnext:=K7 (show (t.size-1)%19+1=0∨(t.size-((t.size-1)%19+1))%19=0 from .inr (by omega))
    have x1:IntKind.i64.wrap ((t.size:Int)-1)=((t.size-1:Nat):Int):=by rw[IntWalk.i64_in _ (by omega)];omega
    have x2:(((t.size-1:Nat):Int)).tmod 19=(((t.size-1)%19:Nat):Int):=(Int.ofNat_tmod _ _).symm
    have x3:IntKind.i64.wrap ((((t.size-1)%19:Nat):Int)+1)=(((t.size-1)%19+1:Nat):Int):=by rw[IntWalk.i64_in _ (by omega)];omega
    obtain⟨en,hen⟩:∃ en,(t.size-1)%19+1=en:=⟨_,rfl⟩
    rw[hen] at hen1 Hnext x3
    have hen3:1≤en∧en≤19:=by omega
    generalize (t.size-1)%19=e1 at *
    generalize t.size-1=l1 at *
    clear hen hen2
    have Hjoin:=K7 (pP (cs:=chs t) (i:=st) (j:=en) (by omega) (by rw[ah];exact hen1) (.inr h0))
    have hse:st<en∧en-st≤19:=by omega
    have h0i:((st:Int)=0):=by omega
    have h0b:((st:Int)==0)=true:=by rw[beq_iff_eq];exact h0i
    have H0:=K7 h0
    clear h0
    go_wp2
    obtain⟨wo,hwo⟩:∃ wo:World,wo=wr:=⟨_,rfl⟩
    subst hwo
    have Hk:=K7 hkr
    clear hkr x1 x2 x3 h0i h0b
    go_loopw [9,10] (fun v i wr=>∃ j:Nat,st≤j∧j≤en∧i=.int .i64 j∧v=.int .u64 ((jx (chs t) st j:Nat):Int)∧∃ q,wr=wo.drewN q) (fun _ i _=>en-(intOf i).toNat)
    case atStart=>exact⟨st,K6 _,by omega,rfl,by rw[tA];rfl,0,rfl⟩
    case round=>
     obtain⟨j,hj1,hj2,rfl,rfl,q,rfl⟩:=hrel
     by_cases hlj:j<en
     ·have hjt:j<t.size:=by omega
      have hg:=bP hjt
      have hstep:=pR (cs:=chs t) (i:=st) (j:=j) hj1 (by rw[ah];exact hjt)
      have hrange:=Hdec.out.get (k:=j) (by rw[ah];exact hjt)
      have hmb:=xu Hdec.out (i:=st) (j:=j) hj1 (by rw[ah];omega) (by omega)
      rw[hg] at hstep hrange
      have Hstep:=K7 hstep
      clear hstep hg
      generalize jx (chs t) st j=m at *
      generalize hc:t[j].toNat=c at *
      have x1:IntKind.u64.wrap (10*(m:Int))=10*(m:Int):=IntWalk.u64_in _ (by omega)
      have x2:IntKind.u8.wrap ((c:Int)-48)=((c-48:Nat):Int):=by rw[IntWalk.u8_in _ (by omega)];omega
      have x3:IntKind.u64.wrap ((c-48:Nat):Int)=((c-48:Nat):Int):=IntWalk.u64_in _ (by omega)
      have x4:IntKind.u64.wrap (10*(m:Int)+((c-48:Nat):Int))=((10*m+(c-48):Nat):Int):=by rw[IntWalk.u64_in _ (by omega)];omega
      have x5:IntKind.i64.wrap ((j:Int)+1)=((j+1:Nat):Int):=by rw[IntWalk.i64_in _ (by omega)];omega
      generalize c-48=c2 at *
      clear HN Hend hrange hmb
      go_wp2
      go_roundw
      case rel=>exact⟨j+1,by omega,by omega,by go_num,congrArg (fun n:Nat=>Value.int .u64 (n:Int)) Hstep.out.symm,_,rfl⟩
      case measure=>simp[intOf];omega
     ·obtain rfl:j=en:=by omega
      have hk2:=Kept.comp _ _ _ Hk.out (al (Below.refl _ wo) q)
      have hL2:=hL.kept (al (Below.refl _ wo) q)
      have hHM:=K7 (HM.out _ _ _ hL2 (pQ Hdec.out (i:=st) (j:=j) (by omega) (by rw[ah];omega) (by omega)))
      rw[←Hjoin.out] at hHM
      clear HM hL2
      generalize jx (chs t) st j=m at *
      clear HN Hend Hk
      go_wp2_with fail
      refine hHM.out.mono ?_
      rintro e wn ⟨vn,rfl,hvn,hkn⟩
      have hk2:=Kept.comp _ _ _ hk2 hkn
      clear hHM hkn hL
      go_wp2
      go_roundw
      case rel=>exact⟨j,vn,rfl,rfl,by omega,Hnext.out,hvn,hk2⟩
      case measure=>simp[intOf];omega
   ·have h19:st+19≤t.size∧(t.size-(st+19))%19=0:=by
     rcases Hend.out with h|h
     ·exact absurd h h0
     ·omega
    obtain⟨en,hen⟩:∃ en,st+19=en:=⟨_,rfl⟩
    have Hnext:=K7 (show en=0∨(t.size-en)%19=0 from .inr (by rw[←hen];exact h19.2))
    have hen1:en≤t.size:=by omega
    have x1:IntKind.i64.wrap ((st:Int)+19)=(en:Int):=by rw[IntWalk.i64_in _ (by omega)];omega
    have Hjoin:=K7 (pP (cs:=chs t) (i:=st) (j:=en) (by omega) (by rw[ah];exact hen1) (.inl (by omega)))
    have hse:st<en∧en-st≤19:=by omega
    have h0i:¬((st:Int)=0):=by omega
    have h0b:((st:Int)==0)=false:=by rw[beq_eq_false_iff_ne];exact h0i
    clear h0 h19 hen
    go_wp2
    obtain⟨wo,hwo⟩:∃ wo:World,wo=wr:=⟨_,rfl⟩
    subst hwo
    have Hk:=K7 hkr
    clear hkr x1 h0i h0b
    go_loopw [9,10] (fun v i wr=>∃ j:Nat,st≤j∧j≤en∧i=.int .i64 j∧v=.int .u64 ((jx (chs t) st j:Nat):Int)∧∃ q,wr=wo.drewN q) (fun _ i _=>en-(intOf i).toNat)
    case atStart=>exact⟨st,K6 _,by omega,rfl,by rw[tA];rfl,0,rfl⟩
    case round=>
     obtain⟨j,hj1,hj2,rfl,rfl,q,rfl⟩:=hrel
     by_cases hlj:j<en
     ·have hjt:j<t.size:=by omega
      have hg:=bP hjt
      have hstep:=pR (cs:=chs t) (i:=st) (j:=j) hj1 (by rw[ah];exact hjt)
      have hrange:=Hdec.out.get (k:=j) (by rw[ah];exact hjt)
      have hmb:=xu Hdec.out (i:=st) (j:=j) hj1 (by rw[ah];omega) (by omega)
      rw[hg] at hstep hrange
      have Hstep:=K7 hstep
      clear hstep hg
      generalize jx (chs t) st j=m at *
      generalize hc:t[j].toNat=c at *
      have x1:IntKind.u64.wrap (10*(m:Int))=10*(m:Int):=IntWalk.u64_in _ (by omega)
      have x2:IntKind.u8.wrap ((c:Int)-48)=((c-48:Nat):Int):=by rw[IntWalk.u8_in _ (by omega)];omega
      have x3:IntKind.u64.wrap ((c-48:Nat):Int)=((c-48:Nat):Int):=IntWalk.u64_in _ (by omega)
      have x4:IntKind.u64.wrap (10*(m:Int)+((c-48:Nat):Int))=((10*m+(c-48):Nat):Int):=by rw[IntWalk.u64_in _ (by omega)];omega
      have x5:IntKind.i64.wrap ((j:Int)+1)=((j+1:Nat):Int):=by rw[IntWalk.i64_in _ (by omega)];omega
      generalize c-48=c2 at *
      clear HN Hend hrange hmb
      go_wp2
      go_roundw
      case rel=>exact⟨j+1,by omega,by omega,by go_num,congrArg (fun n:Nat=>Value.int .u64 (n:Int)) Hstep.out.symm,_,rfl⟩
      case measure=>simp[intOf];omega
     ·obtain rfl:j=en:=by omega
      have hk2:=Kept.comp _ _ _ Hk.out (al (Below.refl _ wo) q)
      have hL2:=hL.kept (al (Below.refl _ wo) q)
      have hHM:=K7 (HM.out _ _ _ hL2 (pQ Hdec.out (i:=st) (j:=j) (by omega) (by rw[ah];omega) (by omega)))
      rw[←Hjoin.out] at hHM
      clear HM hL2
      generalize jx (chs t) st j=m at *
      clear HN Hend Hk
      go_wp2_with fail
      refine hHM.out.mono ?_
      rintro e wn ⟨vn,rfl,hvn,hkn⟩
      have hk2:=Kept.comp _ _ _ hk2 hkn
      clear hHM hkn hL
      go_wp2
      go_roundw
      case rel=>exact⟨j,vn,rfl,rfl,by omega,Hnext.out,hvn,hk2⟩
      case measure=>simp[intOf];omega
  ·obtain rfl:st=t.size:=by omega
   have e1:(chs t).take t.size=chs t:=List.take_of_length_le (by rw[ah];omega)
   rw[e1,HN.out] at hL
   have HS:=K7 (HSg.out _ _ hL)
   have hB:=HB.out.kept hkr
   have hk:=Kept.comp _ _ _ Hk0.out hkr
   clear HSg HB Hk0 e1 HM hmod hkr
   go_wp2_with fail
   refine HS.out.mono ?_
   rintro e w5 ⟨v5,rfl,hv,hk5⟩
   have hB:=hB.kept hk5
   have hk:=Kept.comp _ _ _ hk hk5
   obtain⟨s1,a1,n1,c1,rfl⟩:=aO hv
   have r0:=hB.cell 0 rfl
   have r1:=hB.cell 1 rfl
   have f0:=hB.free 0
   have f1:=hB.free 1
   clear HS hk5 hL HN
   go_wp2
   obtain⟨rB,rv,rk⟩:=tK (w:=w) hB (by omega) hk hv
   have p0:=rB.cell 0 rfl
   have p1:=rB.cell 1 rfl
   exact bodyPost_ret (v:=.tuple #[.agg #[.bool s1,.slice a1 n1 c1],.bool true]) (by simp[results,Tryz.results146,go_sem,p0,p1]) rfl ⟨_,rfl,rv,rk⟩
end Go.Proofs.YtjbcmmaniphkkaaGreatDoor.E
