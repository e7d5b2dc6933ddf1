import Derived.Test.YtjbcmmaniphkkaaGreatDoorRe
set_option linter.unusedSectionVars false
set_option linter.unusedVariables false
set_option linter.unusedSimpArgs false
set_option maxRecDepth 100000
set_option maxHeartbeats 1000000
namespace Go.Proofs.YtjbcmmaniphkkaaGreatDoor.D
open Go.RowKit DigNum
theorem cE (s:ByteArray) (l:List UInt8):(s.toList==l)=decide (chs s=l.map UInt8.toNat):=by
 rw[Go.ByteArray.toList_eq]
 unfold chs
 by_cases h:s.data.toList=l
 ·subst h;simp
 ·have h2:¬s.data.toList.map UInt8.toNat=l.map UInt8.toNat:=fun h3=>h (List.map_inj_right (f:=UInt8.toNat) (fun x y hxy=>UInt8.toNat_inj.1 hxy) |>.1 h3)
  rw[decide_eq_false h2,beq_eq_false_iff_ne];exact h
theorem bZ (s:ByteArray) (x:Rat) (w:World) (h:aG s x) :
  Calls Tryz.prog 12 #[.string s] w fun e w'=>e=.returned (.int .i64 x.num.sign)∧w'=w:=by
 have hz:=h.zero
 have hp:=h.pos
 have hh:=h.head hp
 clear h
 by_cases h0:x=0
 ·obtain rfl:=hz.2 h0
  rw[Rat.num_eq_zero.2 h0]
  clear hz h0 hh hp
  go_enter Tryz.func12,Tryz.ntmps12
  go_wp2
  go_ret
  exact⟨rfl,rfl⟩
 ·have hs:¬s=ByteArray.mk #[48]:=fun h=>h0 (hz.1 h)
  have hb:(s.toList==[48])=false:=by rw[cE];exact decide_eq_false fun h=>hs (iF (h.trans rfl))
  have hn:x.num≠0:=fun h=>h0 (Rat.num_eq_zero.1 h)
  clear hz h0
  by_cases hl:x.num<0
  ·rw[Int.sign_eq_neg_one_of_neg hl]
   rw[decide_eq_true hl] at hh
   clear hl hn
   go_enter Tryz.func12,Tryz.ntmps12
   go_wp2
   go_ret
   exact⟨rfl,rfl⟩
  ·rw[Int.sign_eq_one_of_pos (by omega)]
   rw[decide_eq_false hl] at hh
   clear hl hn
   go_enter Tryz.func12,Tryz.ntmps12
   go_wp2
   go_ret
   exact⟨rfl,rfl⟩
theorem BS (s:ByteArray) (x:Rat) (w:World) (h:aG s x) (hm:s.size≤1099511627776) :
  Calls Tryz.prog 118 #[.string s] w fun e w'=>∃ t,e=.returned (.string t)∧aG t (-x)∧w'=w:=by
 have hp:=h.pos
 have hS:=K7 fun w'=>bZ s x w' h
 by_cases hl:x.num<0
 ·rw[Int.sign_eq_neg_one_of_neg hl] at hS
  have R:=K7 (h.tail hl)
  clear hl h
  go_enter Tryz.func118,Tryz.ntmps118
  go_wp2_with fail
  refine (hS.out _).mono ?_
  rintro e w2 ⟨rfl,rfl⟩
  go_wp2
  go_ret
  exact⟨_,rfl,R.out,rfl⟩
 ·by_cases h0:x.num=0
  ·have hx:=Rat.num_eq_zero.1 h0
   subst hx
   rw[show (0:Rat).num.sign=0 from rfl] at hS
   have R:=K7 (show aG s (-0) by rw[Rat.neg_zero];exact h)
   clear hl h0 h
   go_enter Tryz.func118,Tryz.ntmps118
   go_wp2_with fail
   refine (hS.out _).mono ?_
   rintro e w2 ⟨rfl,rfl⟩
   go_wp2_with fail
   refine (hS.out _).mono ?_
   rintro e w2 ⟨rfl,rfl⟩
   go_wp2
   go_ret
   exact⟨_,rfl,R.out,rfl⟩
  ·rw[Int.sign_eq_one_of_pos (by omega)] at hS
   have R:=K7 (h.minus (by omega) h0)
   clear hl h0 h
   go_enter Tryz.func118,Tryz.ntmps118
   go_wp2_with fail
   refine (hS.out _).mono ?_
   rintro e w2 ⟨rfl,rfl⟩
   go_wp2_with fail
   refine (hS.out _).mono ?_
   rintro e w2 ⟨rfl,rfl⟩
   go_wp2
   go_ret
   exact⟨_,rfl,R.out,rfl⟩
def gR (x:Rat):Rat:=if x.num<0 then -x else x
theorem oF (s:ByteArray) (x:Rat) (w:World) (h:aG s x) :
  Calls Tryz.prog 46 #[.string s] w fun e w'=>∃ t,e=.returned (.string t)∧aG t (gR x)∧w'=w:=by
 have hp:=h.pos
 have hS:=K7 fun w'=>bZ s x w' h
 by_cases hl:x.num<0
 ·rw[Int.sign_eq_neg_one_of_neg hl] at hS
  have R:=K7 (show aG _ (gR x) by unfold gR;rw[if_pos hl];exact h.tail hl)
  clear hl h
  go_enter Tryz.func46,Tryz.ntmps46
  go_wp2_with fail
  refine (hS.out _).mono ?_
  rintro e w2 ⟨rfl,rfl⟩
  go_wp2
  go_ret
  exact⟨_,rfl,R.out,rfl⟩
 ·have R:=K7 (show aG _ (gR x) by unfold gR;rw[if_neg hl];exact h)
  have hg:¬x.num.sign<0:=by have:=Int.sign_nonneg_iff (x:=x.num);omega
  generalize x.num.sign=g at *
  clear hl h
  go_enter Tryz.func46,Tryz.ntmps46
  go_wp2_with fail
  refine (hS.out _).mono ?_
  rintro e w2 ⟨rfl,rfl⟩
  go_wp2
  go_ret
  exact⟨_,rfl,R.out,rfl⟩
theorem Fo (s:ByteArray) (x:Rat) (w:World) (h:aG s x) (hm:s.size≤1099511627776) :
  Calls Tryz.prog 90 #[.string s] w fun e w'=>∃ t,e=.returned (.string t)∧aN t x.num∧∃ q,w'=w.drewN q:=by
 have hS:=K7 fun w'=>dz s w' hm
 rw[h.vY] at hS
 have R:=K7 h.num
 have hle:(bB x.num).length≤s.size:=by rw[h.size,bz];omega
 generalize (bB x.num).length=k at *
 clear h
 go_enter Tryz.func90,Tryz.ntmps90
 go_wp2_with fail
 refine (hS.out _).mono ?_
 rintro e w2 ⟨rfl,q,rfl⟩
 clear hS
 go_wp2
 go_ret
 exact⟨_,rfl,R.out,q,rfl⟩
theorem Fm (s:ByteArray) (x:Rat) (w:World) (h:aG s x) (hm:s.size≤1099511627776) :
  Calls Tryz.prog 91 #[.string s] w fun e w'=>∃ t,e=.returned (.string t)∧aN t x.den∧∃ q,w'=w.drewN q:=by
 have hS:=K7 fun w'=>dz s w' hm
 rw[h.vY] at hS
 have hw:=h.whole
 by_cases hd:x.den=1
 ·have R:=K7 (show aN (ByteArray.mk #[49]) x.den by rw[hd];show chs _=_;rw[di,bh,jz (by decide)];rfl)
  rw[hw.2 hd] at hS
  clear h hw hd
  go_enter Tryz.func91,Tryz.ntmps91
  go_wp2_with fail
  refine (hS.out _).mono ?_
  rintro e w2 ⟨rfl,q,rfl⟩
  clear hS
  go_wp2
  go_ret
  exact⟨_,rfl,R.out,q,rfl⟩
 ·have R:=K7 (h.den hd)
  have hle:(bB x.num).length+1≤s.size:=by rw[h.size,bz,if_neg hd];omega
  generalize (bB x.num).length=k at *
  have hne:¬((k:Int)=(s.size:Int)):=by omega
  have hne2:((k:Int)==(s.size:Int))=false:=by rw[beq_eq_false_iff_ne];omega
  clear h hw hd
  go_enter Tryz.func91,Tryz.ntmps91
  go_wp2_with fail
  refine (hS.out _).mono ?_
  rintro e w2 ⟨rfl,q,rfl⟩
  clear hS
  have x1:IntKind.i64.wrap ((k:Int)+1)=((k+1:Nat):Int):=by rw[IntWalk.i64_in _ (by omega)];omega
  go_wp2
  go_ret
  exact⟨_,rfl,R.out,q,rfl⟩
theorem wD (s:ByteArray) (w:World) (hs:s.size≤1099511627776) :
  Calls Tryz.prog 162 #[.string s] w fun e w'=>e=.returned (.bool (jt (chs s)))∧∃ q,w'=w.drewN q:=by
 have hl:=ah s
 have HT:=K7 (@rQ (chs s))
 have HF:=K7 fun i h1 h2=>@pj (chs s) i h1 h2
 go_enter Tryz.func162,Tryz.ntmps162
 go_wp2
 go_loopw [3] (fun i wr=>∃ k:Nat,i=.int .i64 k∧k≤s.size∧Hid (∀ i,i<k→48≤(chs s).getD i 0∧(chs s).getD i 0≤57)∧∃ q,wr=w.drewN q) (fun i _=>s.size-(intOf i).toNat)
 case atStart=>exact⟨0,rfl,Nat.zero_le _,K7 fun i h=>absurd h (Nat.not_lt_zero i),0,rfl⟩
 case round=>
  obtain⟨k,rfl,hk,hno,q,rfl⟩:=hrel
  by_cases hlt:k<s.size
  ·have hg:=bP hlt
   by_cases h1:s[k].toNat<48
   ·have hb:(s[k].toNat:Int)<48:=by omega
    have hend:=K7 (HF.out k (by omega) (by rw[hg];omega))
    clear HT HF hno hg h1
    go_wp2
    go_ret
    exact⟨congrArg (fun b=>Ending.returned (Value.bool b)) hend.out.symm,q,rfl⟩
   ·have hb:¬(s[k].toNat:Int)<48:=by omega
    by_cases h2:57<s[k].toNat
    ·have hb2:(57:Int)<(s[k].toNat:Int):=by omega
     have hend:=K7 (HF.out k (by omega) (by rw[hg];omega))
     clear HT HF hno hg h1 h2
     go_wp2
     go_ret
     exact⟨congrArg (fun b=>Ending.returned (Value.bool b)) hend.out.symm,q,rfl⟩
    ·have hb2:¬(57:Int)<(s[k].toNat:Int):=by omega
     have hno2:=K7 (show ∀ i,i<k+1→48≤(chs s).getD i 0∧(chs s).getD i 0≤57 from fun i hi=>by
      rcases Nat.lt_or_ge i k with h|h
      ·exact hno.out i h
      ·obtain rfl:i=k:=by omega
       rw[hg];omega)
     clear HT HF hno hg h1 h2
     go_wp2
     go_roundw
     case rel=>exact⟨k+1,by go_num,by omega,hno2,q,rfl⟩
     case measure=>simp[intOf];omega
  ·obtain rfl:k=s.size:=by omega
   have hend:=K7 (HT.out fun i hi=>hno.out i (by omega))
   clear HT HF hno
   go_wp2
   go_ret
   exact⟨congrArg (fun b=>Ending.returned (Value.bool b)) hend.out.symm,q,rfl⟩
theorem cS (s:ByteArray) (w:World) (hs:s.size≤1099511627776) :
  Calls Tryz.prog 84 #[.string s] w fun e w'=>e=.returned (.bool (bG (chs s)))∧∃ q,w'=w.drewN q:=by
 have hl:=ah s
 have hS:=K7 fun w'=>wD s w' hs
 have he:=uA (chs s)
 by_cases h0:s.size=0
 ·have R:=K7 (show bG (chs s)=false by rw[he,show decide (1≤(chs s).length)=false from decide_eq_false (by omega)];rfl)
  clear he
  go_enter Tryz.func84,Tryz.ntmps84
  go_wp2
  go_ret
  exact⟨congrArg (fun b=>Ending.returned (Value.bool b)) R.out.symm,0,rfl⟩
 ·have hp:0<s.size:=by omega
  have hg:=bP hp
  rw[show decide (1≤(chs s).length)=true from decide_eq_true (by omega),hg,Bool.true_and] at he
  by_cases h48:1<s.size∧s[0].toNat=48
  ·have hb:((s[0].toNat:Int)==48)=true:=by simp[h48.2]
   have R:=K7 (show bG (chs s)=false by rw[he,show decide (1<(chs s).length)=true from decide_eq_true (by omega),h48.2];rfl)
   have h1:=h48.1
   clear he h48 hg
   go_enter Tryz.func84,Tryz.ntmps84
   go_wp2
   go_ret
   exact⟨congrArg (fun b=>Ending.returned (Value.bool b)) R.out.symm,0,rfl⟩
  ·have R:=K7 (show bG (chs s)=jt (chs s) by
    rw[he,show (decide (1<(chs s).length)&&s[0].toNat==48)=false from by
     rw[Bool.and_eq_false_iff,decide_eq_false_iff_not,beq_eq_false_iff_ne]
     by_cases h:1<s.size
     ·exact .inr fun h2=>h48 ⟨h,h2⟩
     ·exact .inl (by omega)]
    rfl)
   by_cases h1:1<s.size
   ·have hb:((s[0].toNat:Int)==48)=false:=by rw[beq_eq_false_iff_ne];have:¬s[0].toNat=48:=fun h=>h48 ⟨h1,h⟩;omega
    clear he h48 hg
    go_enter Tryz.func84,Tryz.ntmps84
    go_wp2_with fail
    refine (hS.out _).mono ?_
    rintro e w2 ⟨rfl,q,rfl⟩
    clear hS
    go_wp2
    go_ret
    exact⟨congrArg (fun b=>Ending.returned (Value.bool b)) R.out.symm,q,rfl⟩
   ·clear he h48 hg
    go_enter Tryz.func84,Tryz.ntmps84
    go_wp2_with fail
    refine (hS.out _).mono ?_
    rintro e w2 ⟨rfl,q,rfl⟩
    clear hS
    go_wp2
    go_ret
    exact⟨congrArg (fun b=>Ending.returned (Value.bool b)) R.out.symm,q,rfl⟩
end Go.Proofs.YtjbcmmaniphkkaaGreatDoor.D
