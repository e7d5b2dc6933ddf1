import Derived.Test.YtjbcmmaniphkkaaGreatDoorProg
import Derived.WalkKit
import Derived.WalkSpells
import Derived.WalkLawsBesides
import Derived.Lib.Hide
import Derived.Laws.OwnMore
import Derived.Laws.Externs
import Derived.Laws.Bits64b
import Derived.Lib.BitFns
import Derived.Deep.QuietTactic
import Derived.BigQuiet
import Derived.Test.YtjbcmmaniphkkaaGreatDoorNum
set_option linter.unusedSectionVars false
set_option linter.unusedVariables false
set_option linter.unusedSimpArgs false
set_option maxHeartbeats 2000000
set_option maxRecDepth 100000
theorem K7 {p : Prop} (h : p) : Go.RowKit.Hid p := h
namespace Go.Proofs.YtjbcmmaniphkkaaGreatDoor
open Go.RowKit LimbNum
def u64 (n:Nat):Value:=.int .u64 (n:Int)
abbrev Kept (w w':World):Prop:=Below w.heap.size w w'
def cQ (w:World) (a:Option Addr) (xs:List Nat):Prop:=
 (a=none∧xs=[])∨∃ b off,a=some ⟨b,off,none⟩∧b<w.heap.size∧∀ i,i<xs.length→w.cell? ⟨b,off+i,none⟩=some (.int .u64 ((xs.getD i 0:Nat):Int))
theorem cQ.kept {w w':World} {a:Option Addr} {xs:List Nat} (h:cQ w a xs) (k:Kept w w'):cQ w' a xs:=by
 rcases h with h|⟨b,off,rfl,hb,hc⟩
 ·exact .inl h
 ·exact .inr ⟨b,off,rfl,Nat.lt_of_lt_of_le hb k.size,fun i hi=>(k.cell (p:=⟨b,off+i,none⟩) hb).trans (hc i hi)⟩
theorem cQ.below {w w':World} {a:Option Addr} {xs:List Nat} {N:Nat} (h:cQ w a xs) (hn:w.heap.size≤N) (k:Below N w w'):cQ w' a xs:=h.kept (k.mono hn)
def Lim (w:World) (v:Value) (n:Nat):Prop:=
 ∃ a c,v=.slice a (size n) c∧size n≤c∧cQ w a (ai n)
theorem Lim.kept {w w':World} {v:Value} {n:Nat} (h:Lim w v n) (k:Kept w w'):Lim w' v n:=by
 obtain⟨a,c,rfl,hc,hr⟩:=h
 exact⟨a,c,rfl,hc,hr.kept k⟩
theorem Lim.fe (w:World):Lim w (.slice none 0 0) 0:=⟨none,0,rfl,K6 _,.inl ⟨rfl,bc⟩⟩
def cellsOf (xs:List Nat):List Value:=xs.map fun (x:Nat)=>Value.int .u64 (x:Int)
theorem cA (xs:List Nat):(cellsOf xs).length=xs.length:=by simp[cellsOf]
theorem eV {xs:List Nat} {i:Nat} (h:i<xs.length):(cellsOf xs)[i]?=some (.int .u64 ((xs.getD i 0:Nat):Int)):=by
 simp[cellsOf,h]
theorem jk (xs:List Nat) (i v:Nat):(cellsOf xs).set i (.int .u64 (v:Int))=cellsOf (xs.set i v):=by
 simp[cellsOf,List.map_set]
theorem aQ (n:Nat):(madeCells (Value.int .u64 0).cells (n*1)).toList=cellsOf (List.replicate n 0):=by
 rw[Nat.mul_one]
 have:=toList_madeCells_one (.int .u64 0) n
 rw[show (Value.int .u64 0).cells = #[Value.int .u64 0] from rfl,this]
 simp[cellsOf]
def Own (w:World) (B:Nat) (g n:Nat) (xs:List Nat):Prop:=
 xs.length=n∧w.ownsRow B 232 1 (.slice (some ⟨g,0,none⟩) n n) n (cellsOf xs)
theorem Own.cell {w:World} {B g n:Nat} {xs:List Nat} (h:Own w B g n xs) {i:Nat} (hi:i<n):w.cell? ⟨g,i,none⟩=some (.int .u64 ((xs.getD i 0:Nat):Int)):=by
 rw[h.2.cellAt i (by omega),eV (by rw[h.1];exact hi)]
theorem Own.free {w:World} {B g n:Nat} {xs:List Nat} (h:Own w B g n xs) (i:Nat):w.frozen? ⟨g,i,none⟩=false:=h.2.frozenAt i
theorem Own.set {w:World} {B g n:Nat} {xs:List Nat} (h:Own w B g n xs) (i v:Nat):Own (w.setCell ⟨g,i,none⟩ (.int .u64 (v:Int))) B g n (xs.set i v):=by
 refine ⟨by simp[h.1],?_⟩
 have:=(h.2.stored i (.int .u64 (v:Int))).1
 rwa [jk] at this
theorem Own.lt {w:World} {B g n:Nat} {xs:List Nat} (h:Own w B g n xs):g<w.heap.size∧B≤g:=by
 rcases h.2.2 with ⟨h',_⟩|⟨g',cap',cur,h',hb,hg,_⟩
 ·simp at h'
 ·simp only[Value.slice.injEq,K5,Addr.mk.injEq,and_true,true_and] at h'
  obtain⟨rfl,rfl⟩:=h'
  exact⟨by rcases Nat.lt_or_ge g w.heap.size with h|h;exact h;simp[h] at hg,hb⟩
theorem Own.row {w:World} {B g n:Nat} {xs:List Nat} (h:Own w B g n xs):cQ w (some ⟨g,0,none⟩) xs:=
 .inr ⟨g,0,rfl,h.lt.1,fun i hi=>by rw[Nat.zero_add];exact h.cell (by rw[←h.1];exact hi)⟩
theorem aZ {w:World} {a:Option Addr} {xs:List Nat} {c:Nat} (h:cQ w a xs) (hf:Fit xs) (hc:xs.length≤c):Lim w (.slice a (bn xs) c) (val xs):=by
 have ht:=eh xs
 have he:=mw hf
 refine ⟨a,c,by rw[qP hf],by rw[←qP hf];omega,?_⟩
 rcases h with ⟨rfl,rfl⟩|⟨b,off,rfl,hb,hcell⟩
 ·exact .inl ⟨rfl,rfl⟩
 ·refine .inr ⟨b,off,rfl,hb,fun i hi=>?_⟩
  rw[←he,List.length_take] at hi
  have e:(xs.take (bn xs)).getD i 0=xs.getD i 0:=by
   rw[bf (by rw[List.length_take];exact hi),bf (by omega),List.getElem_take]
  rw[hcell i (by omega),←he,e]
theorem Tryz.cd:(Tryz.prog.info? 232).map (fun i=>(i.zero,i.size,i.bytes))=some (some (.int .u64 0),1,8):=by kernel_rfl
theorem bV (x y c:Nat) (hc:c≤1) (w:World) :
  (callFunc 217 #[.int .u64 x,.int .u64 y,.int .u64 c]).run Tryz.prog w =
   .ok (.value (.tuple #[.int .u64 (((x+y+c)%LimbNum.B:Nat):Int),.int .u64 (((x+y+c)/LimbNum.B:Nat):Int)])) w:=by
 rw[run_callFunc_extern Tryz.func217 (by kernel_rfl) (by kernel_rfl) (by kernel_rfl) (e:=add64Entry) (by kernel_rfl),run_add64 x y c (by omega) (by omega) (by omega) (by omega)]
 simp only[Result.andThen,LimbNum.B]
 congr 5<;>omega
def qN:Array Value→Sem Value:=fun args=>do
 let (x, y, b) ← Extern.MathBitsCarry.three "Sub64" args
 pure (Extern.MathBitsCarry.pair ((x+Extern.MathBitsCarry.m64-y-b)%Extern.MathBitsCarry.m64) (if x<y+b then 1 else 0))
theorem Bi (x y b:Nat) (hb:b≤1) (w:World) :
  (qN #[.int .u64 x,.int .u64 y,.int .u64 b]).run Tryz.prog w =
   .ok (.tuple #[.int .u64 (((x+18446744073709551616-y-b)%18446744073709551616:Nat):Int),.int .u64 ((if x<y+b then 1 else 0:Nat):Int)]) w:=by
 have:b=0∨b=1:=by omega
 rcases this with rfl|rfl<;>rfl
theorem ig (x y b:Nat) (hb:b≤1) (w:World) :
  (callFunc 247 #[.int .u64 x,.int .u64 y,.int .u64 b]).run Tryz.prog w =
   .ok (.value (.tuple #[.int .u64 (((x+LimbNum.B-(y+b))%LimbNum.B:Nat):Int),.int .u64 ((if x<y+b then 1 else 0:Nat):Int)])) w:=by
 rw[run_callFunc_extern Tryz.func247 (by kernel_rfl) (by kernel_rfl) (by kernel_rfl) (e:=qN) (by kernel_rfl),Bi x y b hb,Nat.sub_sub]
 rfl
theorem aU (b off n c:Nat) (xs:List Nat) (w:World) (hn:xs.length=n) (hm:n≤1099511627776) (hnc:n≤c)
  (hc:∀ i,i<n→w.cell? ⟨b,off+i,none⟩=some (.int .u64 ((xs.getD i 0:Nat):Int))) :
  Calls Tryz.prog 218 #[.slice (some ⟨b,off,none⟩) n c] w fun e w'=>e=.returned (.slice (some ⟨b,off,none⟩) (bn xs) c)∧w=w':=by
 have ht:=eh xs
 rw[hn] at ht
 have Hn:=K7 hn
 clear hn
 go_enter Tryz.func218,Tryz.ntmps218
 go_wp2
 go_loop [3] (fun v=>∃ k:Nat,k≤n∧bn xs≤k∧v=.int .i64 k) (fun v=>(intOf v).toNat)
 case atStart=>exact⟨n,K6 _,ht,rfl⟩
 case round=>
  obtain⟨k,hk,htk,rfl⟩:=hrel
  by_cases hk0:k=0
  ·subst hk0
   have h0:bn xs=0:=by omega
   rw[h0]
   go_wp2
   go_ret
   exact⟨rfl,rfl⟩
  ·have hcell:=hc (k-1) (by omega)
   by_cases hy:xs.getD (k-1) 0=0
   ·rw[hy] at hcell
    have hs:=ld (by omega) (by rw[Hn.out];omega) hy htk
    have H:=K7 hy
    clear hy hc
    go_wp2
    go_round
    case rel=>exact⟨k-1,by omega,hs,by go_num⟩
    case measure=>simp[intOf];omega
   ·have hs:=lh (by omega) (by rw[Hn.out];omega) hy htk
    have hb:((((xs.getD (k-1) 0:Nat):Int))==0)=false:=by rw[beq_eq_false_iff_ne];omega
    generalize xs.getD (k-1) 0=y at *
    have Hs:=K7 hs
    clear hy hc hs
    go_wp2
    go_ret
    rw[Hs.out]
    exact⟨rfl,rfl⟩
theorem lz (a:Nat) (ha:a<18446744073709551616):bits .and .u64 (a:Int) 4294967295=((a%4294967296:Nat):Int):=by
 have h:=bits_and_u64_nat a 4294967295 ha (by omega)
 rw[show a &&& 4294967295=a%4294967296 from Nat.and_two_pow_sub_one_eq_mod a 32] at h
 exact h
theorem ug (a:Int) (h0:0≤a) (ha:a<18446744073709551616):bits .and .u64 a 4294967295=a%4294967296:=by
 obtain⟨n,rfl⟩:=Int.eq_ofNat_of_zero_le h0
 rw[lz n (by omega)];omega
theorem xB (x1 x0 y1 y0 K:Nat):(x1*K+x0)*(y1*K+y0)=x1*y1*(K*K)+(x1*y0+x0*y1)*K+x0*y0:=by
 rw[Nat.add_mul,Nat.mul_add,Nat.mul_add,Nat.mul_mul_mul_comm,Nat.mul_right_comm x1 K y0,←Nat.mul_assoc x0 y1 K,Nat.add_mul]
 omega
theorem jM (x y:Nat) (hx:x<LimbNum.B) (hy:y<LimbNum.B) (w:World) :
  Calls Tryz.prog 216 #[.int .u64 x,.int .u64 y] w fun e w'=>e=.returned (.tuple #[.int .u64 ((x*y/LimbNum.B:Nat):Int),.int .u64 ((x*y%LimbNum.B:Nat):Int)])∧w=w':=by
 unfold LimbNum.B at *
 obtain⟨x1,hx1⟩:∃ a,a=x/4294967296:=⟨_,rfl⟩
 obtain⟨x0,hx0⟩:∃ a,a=x%4294967296:=⟨_,rfl⟩
 obtain⟨y1,hy1⟩:∃ a,a=y/4294967296:=⟨_,rfl⟩
 obtain⟨y0,hy0⟩:∃ a,a=y%4294967296:=⟨_,rfl⟩
 have e1:(x:Int)/4294967296=(x1:Int):=by omega
 have e2:bits .and .u64 (x:Int) 4294967295=(x0:Int):=by rw[lz x hx];omega
 have e3:(y:Int)/4294967296=(y1:Int):=by omega
 have e4:bits .and .u64 (y:Int) 4294967295=(y0:Int):=by rw[lz y hy];omega
 have b1:x1≤4294967295:=by omega
 have b0:x0≤4294967295:=by omega
 have c1:y1≤4294967295:=by omega
 have c0:y0≤4294967295:=by omega
 have p11:x1*y1≤4294967295*4294967295:=Nat.mul_le_mul b1 c1
 have p10:x1*y0≤4294967295*4294967295:=Nat.mul_le_mul b1 c0
 have p01:x0*y1≤4294967295*4294967295:=Nat.mul_le_mul b0 c1
 have p00:x0*y0≤4294967295*4294967295:=Nat.mul_le_mul b0 c0
 have exy:x*y=x1*y1*(4294967296*4294967296)+(x1*y0+x0*y1)*4294967296+x0*y0:=by
  rw[←xB];congr 1<;>omega
 have hhi:((x1*y1+(x1*y0+x0*y0/4294967296)/4294967296+((x1*y0+x0*y0/4294967296)%4294967296+x0*y1)/4294967296:Nat):Int)=((x*y/18446744073709551616:Nat):Int):=by
  congr 1;rw[exy];omega
 have hlo:IntKind.u64.wrap ((x:Int)*y)=((x*y%18446744073709551616:Nat):Int):=by
  rw[←Int.natCast_mul,IntKind.wrap_u64];omega
 have q11:(x1:Int)*y1=((x1*y1:Nat):Int):=(Int.natCast_mul _ _).symm
 have q10:(x1:Int)*y0=((x1*y0:Nat):Int):=(Int.natCast_mul _ _).symm
 have q01:(x0:Int)*y1=((x0*y1:Nat):Int):=(Int.natCast_mul _ _).symm
 have q00:(x0:Int)*y0=((x0*y0:Nat):Int):=(Int.natCast_mul _ _).symm
 have Hhi:=K7 hhi
 have Hlo:=K7 hlo
 generalize x1*y1=P11 at *
 generalize x1*y0=P10 at *
 generalize x0*y1=P01 at *
 generalize x0*y0=P00 at *
 clear exy hhi hlo hx1 hx0 hy1 hy0 b1 b0 c1 c0
 have ht:bits .and .u64 ((P10:Int)+P00/4294967296) 4294967295=(P10+P00/4294967296)%4294967296:=ug _ (by omega) (by omega)
 go_enter Tryz.func216,Tryz.ntmps216
 go_wp2
 rw[Hlo.out]
 go_ret2
 refine ⟨?_,rfl⟩
 rw[←Hhi.out]
 simp
theorem eZ:({ data:=(([0,1,2,2,3,3,3,3,4,4,4,4,4,4,4,4,5,5,5,5,5,5,5,5,5,5,5,5,5,5,5,5,6,6,6,6,6,6,6,6,6,6,6,6,6,6,6,6,6,6,6,6,6,6,6,6,6,6,6,6,6,6,6,6].append [7,7,7,7,7,7,7,7,7,7,7,7,7,7,7,7,7,7,7,7,7,7,7,7,7,7,7,7,7,7,7,7,7,7,7,7,7,7,7,7,7,7,7,7,7,7,7,7,7,7,7,7,7,7,7,7,7,7,7,7,7,7,7,7]).append ([8,8,8,8,8,8,8,8,8,8,8,8,8,8,8,8,8,8,8,8,8,8,8,8,8,8,8,8,8,8,8,8,8,8,8,8,8,8,8,8,8,8,8,8,8,8,8,8,8,8,8,8,8,8,8,8,8,8,8,8,8,8,8,8].append [8,8,8,8,8,8,8,8,8,8,8,8,8,8,8,8,8,8,8,8,8,8,8,8,8,8,8,8,8,8,8,8,8,8,8,8,8,8,8,8,8,8,8,8,8,8,8,8,8,8,8,8,8,8,8,8,8,8,8,8,8,8,8,8])).toArray }:ByteArray)=Lib.len8tab:=by kernel_rfl
theorem AP (x:Int) (w:World) (h0:0≤x) (h1:x≤18446744073709551615) (c0:4294967296≤x) (c1:65536≤x/4294967296) (c2:256≤x/4294967296/65536) :
  Calls Tryz.prog 213 #[.int .u64 x] w fun e w'=>e=.returned (.int .i64 (Lib.bitLen x.toNat))∧w=w':=by
 have _:=And.intro c0 (And.intro c1 c2)
 have hidx:=Lib.run_index_len8tab (P:=Tryz.prog) w 9 .u8 (x/4294967296/65536/256) Tryz.underlying9 (by omega) (by omega)
 rw[Lib.len8_of _ (by omega) (by omega)] at hidx
 have l:=Lib.bitLen_le8' (x/4294967296/65536/256) (by omega) (by omega)
 have s:=Lib.bitLen_shift56 x.toNat (by omega) (by omega)
 have e:(x/4294967296/65536/256).toNat=x.toNat/72057594037927936:=by omega
 rw[e] at l
 rw[e] at hidx
 have fin:∀ m:Nat,m=56+Lib.bitLen (x.toNat/72057594037927936)→m=Lib.bitLen x.toNat:=by
  intro m hm
  omega
 have Fin:=K7 fin
 clear fin e s
 generalize Lib.bitLen (x.toNat/72057594037927936)=m at *
 go_enter Tryz.func213,Tryz.ntmps213
 rw[eZ]
 go_wp2
 go_ret
 refine ⟨?_,rfl⟩
 rw[←Fin.out (56+m) rfl]
 rfl
theorem AO (x:Int) (w:World) (h0:0≤x) (h1:x≤18446744073709551615) (c0:4294967296≤x) (c1:65536≤x/4294967296) (c2:x/4294967296/65536<256) :
  Calls Tryz.prog 213 #[.int .u64 x] w fun e w'=>e=.returned (.int .i64 (Lib.bitLen x.toNat))∧w=w':=by
 have _:=And.intro c0 (And.intro c1 c2)
 have hidx:=Lib.run_index_len8tab (P:=Tryz.prog) w 9 .u8 (x/4294967296/65536) Tryz.underlying9 (by omega) (by omega)
 rw[Lib.len8_of _ (by omega) (by omega)] at hidx
 have l:=Lib.bitLen_le8' (x/4294967296/65536) (by omega) (by omega)
 have s:=Lib.bitLen_shift48 x.toNat (by omega) (by omega)
 have e:(x/4294967296/65536).toNat=x.toNat/281474976710656:=by omega
 rw[e] at l
 rw[e] at hidx
 have fin:∀ m:Nat,m=48+Lib.bitLen (x.toNat/281474976710656)→m=Lib.bitLen x.toNat:=by
  intro m hm
  omega
 have Fin:=K7 fin
 clear fin e s
 generalize Lib.bitLen (x.toNat/281474976710656)=m at *
 go_enter Tryz.func213,Tryz.ntmps213
 rw[eZ]
 go_wp2
 go_ret
 refine ⟨?_,rfl⟩
 rw[←Fin.out (48+m) rfl]
 rfl
theorem AN (x:Int) (w:World) (h0:0≤x) (h1:x≤18446744073709551615) (c0:4294967296≤x) (c1:x/4294967296<65536) (c2:256≤x/4294967296) :
  Calls Tryz.prog 213 #[.int .u64 x] w fun e w'=>e=.returned (.int .i64 (Lib.bitLen x.toNat))∧w=w':=by
 have _:=And.intro c0 (And.intro c1 c2)
 have hidx:=Lib.run_index_len8tab (P:=Tryz.prog) w 9 .u8 (x/4294967296/256) Tryz.underlying9 (by omega) (by omega)
 rw[Lib.len8_of _ (by omega) (by omega)] at hidx
 have l:=Lib.bitLen_le8' (x/4294967296/256) (by omega) (by omega)
 have s:=Lib.bitLen_shift40 x.toNat (by omega) (by omega)
 have e:(x/4294967296/256).toNat=x.toNat/1099511627776:=by omega
 rw[e] at l
 rw[e] at hidx
 have fin:∀ m:Nat,m=40+Lib.bitLen (x.toNat/1099511627776)→m=Lib.bitLen x.toNat:=by
  intro m hm
  omega
 have Fin:=K7 fin
 clear fin e s
 generalize Lib.bitLen (x.toNat/1099511627776)=m at *
 go_enter Tryz.func213,Tryz.ntmps213
 rw[eZ]
 go_wp2
 go_ret
 refine ⟨?_,rfl⟩
 rw[←Fin.out (40+m) rfl]
 rfl
theorem AM (x:Int) (w:World) (h0:0≤x) (h1:x≤18446744073709551615) (c0:4294967296≤x) (c1:x/4294967296<65536) (c2:x/4294967296<256) :
  Calls Tryz.prog 213 #[.int .u64 x] w fun e w'=>e=.returned (.int .i64 (Lib.bitLen x.toNat))∧w=w':=by
 have _:=And.intro c0 (And.intro c1 c2)
 have hidx:=Lib.run_index_len8tab (P:=Tryz.prog) w 9 .u8 (x/4294967296) Tryz.underlying9 (by omega) (by omega)
 rw[Lib.len8_of _ (by omega) (by omega)] at hidx
 have l:=Lib.bitLen_le8' (x/4294967296) (by omega) (by omega)
 have s:=Lib.bitLen_shift32 x.toNat (by omega) (by omega)
 have e:(x/4294967296).toNat=x.toNat/4294967296:=by omega
 rw[e] at l
 rw[e] at hidx
 have fin:∀ m:Nat,m=32+Lib.bitLen (x.toNat/4294967296)→m=Lib.bitLen x.toNat:=by
  intro m hm
  omega
 have Fin:=K7 fin
 clear fin e s
 generalize Lib.bitLen (x.toNat/4294967296)=m at *
 go_enter Tryz.func213,Tryz.ntmps213
 rw[eZ]
 go_wp2
 go_ret
 refine ⟨?_,rfl⟩
 rw[←Fin.out (32+m) rfl]
 rfl
theorem AL (x:Int) (w:World) (h0:0≤x) (h1:x≤18446744073709551615) (c0:x<4294967296) (c1:65536≤x) (c2:256≤x/65536) :
  Calls Tryz.prog 213 #[.int .u64 x] w fun e w'=>e=.returned (.int .i64 (Lib.bitLen x.toNat))∧w=w':=by
 have _:=And.intro c0 (And.intro c1 c2)
 have hidx:=Lib.run_index_len8tab (P:=Tryz.prog) w 9 .u8 (x/65536/256) Tryz.underlying9 (by omega) (by omega)
 rw[Lib.len8_of _ (by omega) (by omega)] at hidx
 have l:=Lib.bitLen_le8' (x/65536/256) (by omega) (by omega)
 have s:=Lib.bitLen_shift24 x.toNat (by omega) (by omega)
 have e:(x/65536/256).toNat=x.toNat/16777216:=by omega
 rw[e] at l
 rw[e] at hidx
 have fin:∀ m:Nat,m=24+Lib.bitLen (x.toNat/16777216)→m=Lib.bitLen x.toNat:=by
  intro m hm
  omega
 have Fin:=K7 fin
 clear fin e s
 generalize Lib.bitLen (x.toNat/16777216)=m at *
 go_enter Tryz.func213,Tryz.ntmps213
 rw[eZ]
 go_wp2
 go_ret
 refine ⟨?_,rfl⟩
 rw[←Fin.out (24+m) rfl]
 rfl
theorem AK (x:Int) (w:World) (h0:0≤x) (h1:x≤18446744073709551615) (c0:x<4294967296) (c1:65536≤x) (c2:x/65536<256) :
  Calls Tryz.prog 213 #[.int .u64 x] w fun e w'=>e=.returned (.int .i64 (Lib.bitLen x.toNat))∧w=w':=by
 have _:=And.intro c0 (And.intro c1 c2)
 have hidx:=Lib.run_index_len8tab (P:=Tryz.prog) w 9 .u8 (x/65536) Tryz.underlying9 (by omega) (by omega)
 rw[Lib.len8_of _ (by omega) (by omega)] at hidx
 have l:=Lib.bitLen_le8' (x/65536) (by omega) (by omega)
 have s:=Lib.bitLen_shift16 x.toNat (by omega) (by omega)
 have e:(x/65536).toNat=x.toNat/65536:=by omega
 rw[e] at l
 rw[e] at hidx
 have fin:∀ m:Nat,m=16+Lib.bitLen (x.toNat/65536)→m=Lib.bitLen x.toNat:=by
  intro m hm
  omega
 have Fin:=K7 fin
 clear fin e s
 generalize Lib.bitLen (x.toNat/65536)=m at *
 go_enter Tryz.func213,Tryz.ntmps213
 rw[eZ]
 go_wp2
 go_ret
 refine ⟨?_,rfl⟩
 rw[←Fin.out (16+m) rfl]
 rfl
theorem AJ (x:Int) (w:World) (h0:0≤x) (h1:x≤18446744073709551615) (c0:x<4294967296) (c1:x<65536) (c2:256≤x) :
  Calls Tryz.prog 213 #[.int .u64 x] w fun e w'=>e=.returned (.int .i64 (Lib.bitLen x.toNat))∧w=w':=by
 have _:=And.intro c0 (And.intro c1 c2)
 have hidx:=Lib.run_index_len8tab (P:=Tryz.prog) w 9 .u8 (x/256) Tryz.underlying9 (by omega) (by omega)
 rw[Lib.len8_of _ (by omega) (by omega)] at hidx
 have l:=Lib.bitLen_le8' (x/256) (by omega) (by omega)
 have s:=Lib.bitLen_shift8 x.toNat (by omega) (by omega)
 have e:(x/256).toNat=x.toNat/256:=by omega
 rw[e] at l
 rw[e] at hidx
 have fin:∀ m:Nat,m=8+Lib.bitLen (x.toNat/256)→m=Lib.bitLen x.toNat:=by
  intro m hm
  omega
 have Fin:=K7 fin
 clear fin e s
 generalize Lib.bitLen (x.toNat/256)=m at *
 go_enter Tryz.func213,Tryz.ntmps213
 rw[eZ]
 go_wp2
 go_ret
 refine ⟨?_,rfl⟩
 rw[←Fin.out (8+m) rfl]
 rfl
theorem AI (x:Int) (w:World) (h0:0≤x) (h1:x≤18446744073709551615) (c0:x<4294967296) (c1:x<65536) (c2:x<256) :
  Calls Tryz.prog 213 #[.int .u64 x] w fun e w'=>e=.returned (.int .i64 (Lib.bitLen x.toNat))∧w=w':=by
 have _:=And.intro c0 (And.intro c1 c2)
 have hidx:=Lib.run_index_len8tab (P:=Tryz.prog) w 9 .u8 (x) Tryz.underlying9 (by omega) (by omega)
 rw[Lib.len8_of _ (by omega) (by omega)] at hidx
 have l:=Lib.bitLen_le8' (x) (by omega) (by omega)
 skip
 skip
 have fin:∀ m:Nat,m=Lib.bitLen (x.toNat)→m=Lib.bitLen x.toNat:=by
  intro m hm
  exact hm
 have Fin:=K7 fin
 clear fin
 generalize Lib.bitLen (x.toNat)=m at *
 go_enter Tryz.func213,Tryz.ntmps213
 rw[eZ]
 go_wp2
 go_ret
 refine ⟨?_,rfl⟩
 rw[←Fin.out (m) rfl]
 rfl
theorem rZ (x:Nat) (hx:x<LimbNum.B) (w:World) :
  Calls Tryz.prog 213 #[.int .u64 x] w fun e w'=>e=.returned (.int .i64 (Lib.bitLen x))∧w=w':=by
 unfold LimbNum.B at hx
 have h0:(0:Int)≤(x:Int):=by omega
 have h1:(x:Int)≤18446744073709551615:=by omega
 have e:(x:Int).toNat=x:=by omega
 have g:Calls Tryz.prog 213 #[.int .u64 x] w fun e w'=>e=.returned (.int .i64 (Lib.bitLen (x:Int).toNat))∧w=w':=by
  by_cases c0:4294967296≤(x:Int)
  ·by_cases c1:65536≤(x:Int)/4294967296
   ·by_cases c2:256≤(x:Int)/4294967296/65536
    ·exact AP _ w h0 h1 c0 c1 c2
    ·exact AO _ w h0 h1 c0 c1 (by omega)
   ·by_cases c2:256≤(x:Int)/4294967296
    ·exact AN _ w h0 h1 c0 (by omega) c2
    ·exact AM _ w h0 h1 c0 (by omega) (by omega)
  ·by_cases c1:65536≤(x:Int)
   ·by_cases c2:256≤(x:Int)/65536
    ·exact AL _ w h0 h1 (by omega) c1 c2
    ·exact AK _ w h0 h1 (by omega) c1 (by omega)
   ·by_cases c2:256≤(x:Int)
    ·exact AJ _ w h0 h1 (by omega) (by omega) c2
    ·exact AI _ w h0 h1 (by omega) (by omega) (by omega)
 rwa [e] at g
theorem fy {x:Nat} (hx:x<LimbNum.B):Lib.bitLen x≤64:=Lib.bitLen_le x 64 (K6 _) (by unfold LimbNum.B at hx;omega)
theorem jF (x:Nat) (hx:x<LimbNum.B) (w:World) :
  Calls Tryz.prog 248 #[.int .u64 x] w fun e w'=>e=.returned (.int .i64 (64-(Lib.bitLen x:Int)))∧w=w':=by
 have hl:=fy hx
 have hc:=K7 (rZ x hx)
 generalize Lib.bitLen x=l at *
 clear hx
 go_enter Tryz.func248,Tryz.ntmps248
 go_wp2_with (go_at_call 213;refine (hc.out _).mono ?_;rintro e w' ⟨rfl,rfl⟩)
 go_ret
 exact⟨rfl,rfl⟩
theorem kh {p c h l o d:Nat} (hh:h=p/LimbNum.B) (hl:l=p%LimbNum.B) (ho:o=(l+c+0)/LimbNum.B) (hd:d=(l+c+0)%LimbNum.B) :
  (p+c)%LimbNum.B=d∧(p+c)/LimbNum.B=h+o:=by
 have e:p+c=d+LimbNum.B*(h+o):=by
  have h1:=Nat.mod_add_div p LimbNum.B
  have h2:=Nat.mod_add_div (l+c+0) LimbNum.B
  rw[←hh,←hl] at h1
  rw[←ho,←hd] at h2
  rw[Nat.mul_add];omega
 have hlt:d<LimbNum.B:=by rw[hd];exact Nat.mod_lt _ aA
 rw[e]
 constructor
 ·rw[Nat.add_mul_mod_self_left,Nat.mod_eq_of_lt hlt]
 ·rw[Nat.add_mul_div_left _ _ aA,Nat.div_eq_of_lt hlt,Nat.zero_add]
theorem nj (b1 o1 ca la f s:Nat) (xs:List Nat) (w:World) (hla:xs.length=la) (hm:la≤1073741824)
  (hfx:Fit xs) (hf:f<LimbNum.B) (hs:s<LimbNum.B) (hb1:b1<w.heap.size)
  (hca:∀ i,i<la→w.cell? ⟨b1,o1+i,none⟩=some (.int .u64 ((xs.getD i 0:Nat):Int))) :
  Calls Tryz.prog 207 #[.slice (some ⟨b1,o1,none⟩) la ca,.int .u64 f,.int .u64 s] w fun e w'=>∃ v,e=.returned v∧Lim w' v (val xs*f+s)∧Kept w w':=by
 obtain⟨i0,hi,hz0,hz1,hz2⟩:=info_parts Tryz.cd
 have hall:=yU xs f s
 have hfit:Fit (fill (dZ xs f s xs.length) (xs.length+1) (xs.length+1)):=eX fun i _=>yT hfx hf hs _ i
 rw[hla] at hall hfit
 have Hall:=K7 hall
 clear hall hla
 go_enter Tryz.func207,Tryz.ntmps207
 go_wp2_with (at_make;go_loud (refine wpList_make_full _ rfl _ _ 93 rfl w.heap.size 232 i0 (.int .u64 0) 1 Tryz.underlying93 hi hz0 hz1 .i64 .i64 _ _ (la+1) rfl rfl (by omega) (by omega) (by rw[hz2];omega) (by unfold maxLen;omega) (K6 _) ?_);intro w1 hown1 hgrow1)
 rw[aQ,←ew (dZ xs f s la)] at hown1
 have hO:Own w1 w.heap.size w.heap.size (la+1) (fill (dZ xs f s la) 0 (la+1)):=⟨aS _ _ _,hown1⟩
 have hB:Below w.heap.size w w1:=(Below.refl _ _).grown hgrow1 (K6 _) (by intro k h;cases h)
 clear hown1 hgrow1 hi hz0 hz1 hz2
 generalize hg:w.heap.size=G at *
 have hG:=K7 hg
 clear hg
 go_wp2
 go_loopw [8,21] (fun c i wr=>∃ k:Nat,k≤la∧i=.int .i64 k∧c=.int .u64 ((mulC xs f s k:Nat):Int)∧Own wr G G (la+1) (fill (dZ xs f s la) k (la+1))∧Below G w wr) (fun _ i _=>la-(intOf i).toNat)
 case atStart=>exact⟨0,Nat.zero_le _,rfl,rfl,hO,hB⟩
 case round=>
  clear hO hB
  obtain⟨k,hk,rfl,rfl,hown,hbel⟩:=hrel
  by_cases hlt:k<la
  ·have hmul:=fun w=>jM (xs.getD k 0) f (hfx.get k) hf w
   have hadd:=bV (xs.getD k 0*f%LimbNum.B) (mulC xs f s k) 0 (by omega)
   obtain⟨p1,p2⟩:=kh (p:=xs.getD k 0*f) (c:=mulC xs f s k) rfl rfl rfl rfl
   have hc2:=yS hfx hf hs (k+1)
   rw[←p1] at hadd
   rw[show (xs.getD k 0*f+mulC xs f s k)%LimbNum.B=dZ xs f s la k by simp[dZ,hlt]] at hadd
   rw[show (xs.getD k 0*f+mulC xs f s k)/LimbNum.B=mulC xs f s (k+1) from rfl] at p2
   rw[show ((0:Nat):Int)=0 from rfl] at hadd
   have hset:=hown.set k (dZ xs f s la k)
   rw[cB] at hset
   have hfree:=hown.free k
   have hcell:=(hbel.cell (p:=⟨b1,o1+k,none⟩) hb1).trans (hca k hlt)
   have hold:=hown.cell (i:=k) (by omega)
   clear p1
   generalize (xs.getD k 0*f%LimbNum.B+mulC xs f s k+0)/LimbNum.B=o at *
   generalize xs.getD k 0*f%LimbNum.B=l at *
   generalize xs.getD k 0*f/LimbNum.B=h at *
   generalize xs.getD k 0=x at *
   generalize (fill (dZ xs f s la) k (la+1)).getD k 0=z at *
   have hb:h+o<18446744073709551616:=by rw[←p2];exact hc2
   have P2:=K7 p2
   have Hmul:=K7 hmul
   clear p2 hmul hc2
   go_wp2_with (go_at_call 216;refine (Hmul.out _).mono ?_;rintro e w' ⟨rfl,rfl⟩)
   go_roundw
   case rel=>exact⟨k+1,by omega,by go_num,by rw[P2.out];go_num,hset,hbel.setCell (K6 _) _⟩
   case measure=>simp[intOf];omega
  ·obtain rfl:k=la:=by omega
   have hset:=hown.set k (dZ xs f s k k)
   rw[cB] at hset
   rw[show dZ xs f s k k=mulC xs f s k by simp[dZ]] at hset
   have hfree:=hown.free k
   have hold:=hown.cell (i:=k) (by omega)
   generalize (fill (dZ xs f s k) k (k+1)).getD k 0=z at *
   go_wp2_with fail
   have hbel2:=hbel.setCell (K6 G) (p:=⟨G,k,none⟩) (.int .u64 ((mulC xs f s k:Nat):Int))
   have hrow:=hset.row
   generalize (wr.setCell ⟨G,k,none⟩ (.int .u64 ((mulC xs f s k:Nat):Int)))=w2 at *
   refine (aU G 0 (k+1) (k+1) (fill (dZ xs f s k) (k+1) (k+1)) w2 (aS _ _ _) (by omega) (K6 _) (fun i hi=>by rw[Nat.zero_add];exact hset.cell hi)).mono ?_
   rintro e w' ⟨rfl,rfl⟩
   go_wp2
   go_ret
   refine ⟨_,rfl,?_,by unfold Kept;rw[hG.out];exact hbel2⟩
   rw[←Hall.out]
   exact aZ hrow hfit (by rw[aS];exact K6 _)
theorem oB (ca f s:Nat) (w:World) (hs:s<LimbNum.B) :
  Calls Tryz.prog 207 #[.slice none 0 ca,.int .u64 f,.int .u64 s] w fun e w'=>∃ v,e=.returned v∧Lim w' v s∧Kept w w':=by
 obtain⟨i0,hi,hz0,hz1,hz2⟩:=info_parts Tryz.cd
 go_enter Tryz.func207,Tryz.ntmps207
 go_wp2_with (at_make;go_loud (refine wpList_make_full _ rfl _ _ 93 rfl w.heap.size 232 i0 (.int .u64 0) 1 Tryz.underlying93 hi hz0 hz1 .i64 .i64 _ _ 1 rfl rfl (by omega) (by omega) (by rw[hz2];omega) (by unfold maxLen;omega) (K6 _) ?_);intro w1 hown1 hgrow1)
 rw[aQ] at hown1
 have hO:Own w1 w.heap.size w.heap.size 1 [0]:=⟨rfl,hown1⟩
 have hB:Below w.heap.size w w1:=(Below.refl _ _).grown hgrow1 (K6 _) (by intro k h;cases h)
 clear hown1 hgrow1 hi hz0 hz1 hz2
 generalize hg:w.heap.size=G at *
 have hG:=K7 hg
 clear hg
 go_wp2
 go_loopw [8,21] (fun c i wr=>i=.int .i64 0∧c=.int .u64 s∧Own wr G G 1 [0]∧Below G w wr) (fun _ i _=>0)
 case atStart=>exact⟨rfl,rfl,hO,hB⟩
 case round=>
  clear hO hB
  obtain⟨rfl,rfl,hown,hbel⟩:=hrel
  have hset:=hown.set 0 s
  have hfree:=hown.free 0
  have hold:=hown.cell (i:=0) (by omega)
  go_wp2_with fail
  have hbel2:=hbel.setCell (K6 G) (p:=⟨G,0,none⟩) (.int .u64 ((s:Nat):Int))
  have hrow:=hset.row
  generalize (wr.setCell ⟨G,0,none⟩ (.int .u64 s))=w2 at *
  refine (aU G 0 1 1 [s] w2 rfl (by omega) (K6 _) (fun i hi=>by rw[Nat.zero_add];exact hset.cell hi)).mono ?_
  rintro e w' ⟨rfl,rfl⟩
  go_wp2
  go_ret
  refine ⟨_,rfl,?_,by unfold Kept;rw[hG.out];exact hbel2⟩
  have:=aZ hrow (Fit.cons hs Fit.nil) (K6 _)
  simpa [val] using this
theorem fh (va:Value) (x f s:Nat) (w:World) (ha:Lim w va x) (hx:size x≤1073741824) (hf:f<LimbNum.B) (hs:s<LimbNum.B) :
  Calls Tryz.prog 207 #[va,.int .u64 f,.int .u64 s] w fun e w'=>∃ v,e=.returned v∧Lim w' v (x*f+s)∧Kept w w':=by
 obtain⟨a1,c1,rfl,_,hr1⟩:=ha
 have e:=au x
 rcases hr1 with ⟨rfl,h1⟩|⟨b1,o1,rfl,hb1,hc1⟩
 ·obtain rfl:x=0:=aF.1 h1
  rw[Nat.zero_mul,Nat.zero_add]
  exact oB c1 f s w hs
 ·have:=nj b1 o1 c1 (size x) f s (ai x) w rfl hx (ao _) hf hs hb1 hc1
  rwa [e] at this
theorem tP {n:Nat} (h:size n=0):n=0:=by
 by_cases h0:n=0
 ·exact h0
 ·have:=size_pos.2 h0;omega
theorem kQ (va vb:Option Addr) (la lb ca cb:Nat) (w:World) (h:la=0∨lb=0) :
  Calls Tryz.prog 159 #[.slice va la ca,.slice vb lb cb] w fun e w'=>e=.returned (.slice none 0 0)∧w=w':=by
 by_cases h0:la=0
 ·subst h0
  go_enter Tryz.func159,Tryz.ntmps159
  go_wp2
  go_ret
  exact⟨rfl,rfl⟩
 ·have hb:lb=0:=by omega
  subst hb
  have hne:((la:Int)==0)=false:=by rw[beq_eq_false_iff_ne];omega
  have hpos:(0:Int)<la:=by omega
  clear h h0
  go_enter Tryz.func159,Tryz.ntmps159
  go_wp2
  go_ret
  exact⟨rfl,rfl⟩
theorem kR (b1 o1 ca la b2 o2 cb lb:Nat) (xs ys:List Nat) (w:World) (hla:xs.length=la) (hlb:ys.length=lb) (hma:la≤1073741824) (hmb:lb≤1073741824) (hpa:0<la) (hpb:0<lb)
  (hfx:Fit xs) (hfy:Fit ys) (hb1:b1<w.heap.size) (hb2:b2<w.heap.size)
  (hca:∀ i,i<la→w.cell? ⟨b1,o1+i,none⟩=some (.int .u64 ((xs.getD i 0:Nat):Int)))
  (hcb:∀ i,i<lb→w.cell? ⟨b2,o2+i,none⟩=some (.int .u64 ((ys.getD i 0:Nat):Int))) :
  Calls Tryz.prog 159 #[.slice (some ⟨b1,o1,none⟩) la ca,.slice (some ⟨b2,o2,none⟩) lb cb] w fun e w'=>∃ v,e=.returned v∧Lim w' v (val xs*val ys)∧Kept w w':=by
 obtain⟨i0,hi,hz0,hz1,hz2⟩:=info_parts Tryz.cd
 have hall:=xv xs ys
 have hmo0:mo xs ys 0=List.replicate (la+lb) 0:=by simp[mo,hla,hlb]
 have hlen:∀ i,(mo xs ys i).length=la+lb:=fun i=>by rw[hE,hla,hlb]
 rw[hla] at hall
 have Hall:=K7 hall
 have Hlen:=K7 hlen
 have Hlb:=K7 hlb
 clear hall hla hlen hlb
 have hne:((la:Int)==0)=false:=by rw[beq_eq_false_iff_ne];omega
 have hne2:((lb:Int)==0)=false:=by rw[beq_eq_false_iff_ne];omega
 go_enter Tryz.func159,Tryz.ntmps159
 go_wp2_with (at_make;go_loud (refine wpList_make_full _ rfl _ _ 93 rfl w.heap.size 232 i0 (.int .u64 0) 1 Tryz.underlying93 hi hz0 hz1 .i64 .i64 _ _ (la+lb) rfl rfl (by omega) (by omega) (by rw[hz2];omega) (by unfold maxLen;omega) (K6 _) ?_);intro w1 hown1 hgrow1)
 rw[aQ,←hmo0] at hown1
 have hO:Own w1 w.heap.size w.heap.size (la+lb) (mo xs ys 0):=⟨Hlen.out _,hown1⟩
 have hB:Below w.heap.size w w1:=(Below.refl _ _).grown hgrow1 (K6 _) (by intro k h;cases h)
 clear hown1 hgrow1 hi hz0 hz1 hz2 hmo0
 generalize hg:w.heap.size=G at *
 have hG:=K7 hg
 clear hg
 go_wp2
 go_loopw [31] (fun i wr=>∃ k:Nat,k≤la∧i=.int .i64 k∧Own wr G G (la+lb) (mo xs ys k)∧Below G w wr) (fun i _=>la-(intOf i).toNat)
 case atStart=>exact⟨0,Nat.zero_le _,rfl,hO,hB⟩
 case round=>
  clear hO hB
  obtain⟨k,hk,rfl,hown,hbel⟩:=hrel
  by_cases hlt:k<la
  ·have hcell:=(hbel.cell (p:=⟨b1,o1+k,none⟩) hb1).trans (hca k hlt)
   have hfp:Fit (mo xs ys k):=pS hfx hfy k
   have hx:=hfx.get k
   have hend:(mr (mo xs ys k) k (xs.getD k 0) ys lb).1.set (k+lb) (mr (mo xs ys k) k (xs.getD k 0) ys lb).2=mo xs ys (k+1):=by simp only[mo,Hlb.out]
   have Hend:=K7 hend
   have hplen:=Hlen.out k
   have Hplen:=K7 hplen
   clear hend hplen
   generalize xs.getD k 0=x at *
   obtain⟨p,hp⟩:∃ p,mo xs ys k=p:=⟨_,rfl⟩
   rw[hp] at hown hfp Hend Hplen
   clear hp
   have hmr0:mr p k x ys 0=(p,0):=rfl
   go_wp2
   obtain⟨wo,hwo⟩:∃ wo:World,wo=wr:=⟨_,rfl⟩
   subst hwo
   go_loopw [9,46] (fun c i wr=>∃ j:Nat,j≤lb∧i=.int .i64 j∧c=.int .u64 (((mr p k x ys j).2:Nat):Int)∧Own wr G G (la+lb) (mr p k x ys j).1∧Below G w wr) (fun _ i _=>lb-(intOf i).toNat)
   case atStart=>exact⟨0,Nat.zero_le _,rfl,rfl,hown,hbel⟩
   case round=>
    clear hown hbel hcell hca
    obtain⟨j,hj,rfl,rfl,hown,hbel⟩:=hrel
    by_cases hlj:j<lb
    ·have hcell:=(hbel.cell (p:=⟨b2,o2+j,none⟩) hb2).trans (hcb j hlj)
     obtain⟨hf1,hf2⟩:=nh (i:=k) hfp hx hfy j
     have hold:=hown.cell (i:=k+j) (by omega)
     have hfree:=hown.free (k+j)
     have hstep:mr p k x ys (j+1)=((mr p k x ys j).1.set (k+j) ((x*ys.getD j 0+(mr p k x ys j).1.getD (k+j) 0+(mr p k x ys j).2)%LimbNum.B),(x*ys.getD j 0+(mr p k x ys j).1.getD (k+j) 0+(mr p k x ys j).2)/LimbNum.B):=rfl
     have hbig:=jN hx (hfy.get j) (hf1.get (k+j)) hf2
     have hmul:=fun w=>jM x (ys.getD j 0) hx (hfy.get j) w
     have hadd1:=bV (x*ys.getD j 0%LimbNum.B) ((mr p k x ys j).1.getD (k+j) 0) 0 (by omega)
     have hadd2:=bV ((x*ys.getD j 0%LimbNum.B+(mr p k x ys j).1.getD (k+j) 0+0)%LimbNum.B) (mr p k x ys j).2 0 (by omega)
     have m0:=Nat.mod_add_div (x*ys.getD j 0) LimbNum.B
     have m1:=Nat.mod_add_div (x*ys.getD j 0%LimbNum.B+(mr p k x ys j).1.getD (k+j) 0+0) LimbNum.B
     have m2:=Nat.mod_add_div ((x*ys.getD j 0%LimbNum.B+(mr p k x ys j).1.getD (k+j) 0+0)%LimbNum.B+(mr p k x ys j).2+0) LimbNum.B
     have hl2:((x*ys.getD j 0%LimbNum.B+(mr p k x ys j).1.getD (k+j) 0+0)%LimbNum.B+(mr p k x ys j).2+0)%LimbNum.B<LimbNum.B:=Nat.mod_lt _ aA
     have Hstep:=K7 hstep
     clear hstep
     generalize hq:mr p k x ys j=q at *
     have Hq:=K7 hq
     clear hq
     generalize (x*ys.getD j 0%LimbNum.B+q.1.getD (k+j) 0+0)/LimbNum.B=o1' at *
     generalize ((x*ys.getD j 0%LimbNum.B+q.1.getD (k+j) 0+0)%LimbNum.B+q.2+0)/LimbNum.B=o2' at *
     generalize ((x*ys.getD j 0%LimbNum.B+q.1.getD (k+j) 0+0)%LimbNum.B+q.2+0)%LimbNum.B=d2 at *
     generalize (x*ys.getD j 0%LimbNum.B+q.1.getD (k+j) 0+0)%LimbNum.B=d1 at *
     generalize x*ys.getD j 0%LimbNum.B=l at *
     generalize x*ys.getD j 0/LimbNum.B=h at *
     obtain⟨p1,p2⟩:=AT (x:=x) (y:=ys.getD j 0) (p:=q.1.getD (k+j) 0) (c:=q.2) (h:=h) (l:=l) (o1:=o1') (o2:=o2') (l1:=d1) (l2:=d2) (by rw[Nat.mul_comm h];omega) (by omega) (by omega) hl2
     rw[p2] at hbig
     have hbig2:h+o1'+o2'<18446744073709551616:=hbig
     have hset:=hown.set (k+j) d2
     rw[←p1] at hset
     have hS:=hset
     have e1:=Hstep.out
     rw[p2,p1] at e1
     rw[p1] at hS
     have E1:=K7 e1
     have Hmul:=K7 hmul
     rw[show ((0:Nat):Int)=0 from rfl] at hadd1 hadd2
     clear m0 m1 m2 hl2 p1 p2 e1 hbig hset hmul hf1 hf2
     generalize ys.getD j 0=y at *
     generalize q.1.getD (k+j) 0=z at *
     generalize hc0:q.2=c0 at *
     generalize hq0:q.1=q1 at *
     clear hc0 hq0
     go_wp2_with (go_at_call 216;refine (Hmul.out _).mono ?_;rintro e w' ⟨rfl,rfl⟩)
     go_roundw
     case rel=>exact⟨j+1,by omega,by go_num,by rw[E1.out];go_num,by rw[E1.out];exact hS,hbel.setCell (K6 _) _⟩
     case measure=>simp[intOf];omega
    ·obtain rfl:j=lb:=by omega
     have hset:=hown.set (k+j) (mr p k x ys j).2
     rw[Hend.out] at hset
     have hold:=hown.cell (i:=k+j) (by omega)
     have hfree:=hown.free (k+j)
     have hbel2:=hbel.setCell (K6 G) (p:=⟨G,k+j,none⟩) (.int .u64 (((mr p k x ys j).2:Nat):Int))
     generalize (mr p k x ys j).1.getD (k+j) 0=z at *
     generalize (mr p k x ys j).2=c0 at *
     go_wp2
     go_roundw
     case rel=>exact⟨k+1,by omega,by go_num,hset,hbel2⟩
     case measure=>simp[intOf];omega
  ·obtain rfl:k=la:=by omega
   have hrow:=hown.row
   have hfp:Fit (mo xs ys k):=pS hfx hfy k
   have ht:=aU G 0 (k+lb) (k+lb) (mo xs ys k) wr hown.1 (by omega) (K6 _) (fun i hi=>by rw[Nat.zero_add];exact hown.cell hi)
   have Ht:=K7 ht
   clear ht
   go_wp2_with fail
   refine (Ht.out).mono ?_
   rintro e w' ⟨rfl,rfl⟩
   go_wp2
   go_ret
   refine ⟨_,rfl,?_,by unfold Kept;rw[hG.out];exact hbel⟩
   rw[←Hall.out]
   exact aZ hrow hfp (by rw[hown.1];exact K6 _)
theorem ec (va vb:Value) (x y:Nat) (w:World) (ha:Lim w va x) (hb:Lim w vb y) (hx:size x≤1073741824) (hy:size y≤1073741824) :
  Calls Tryz.prog 159 #[va,vb] w fun e w'=>∃ v,e=.returned v∧Lim w' v (x*y)∧Kept w w':=by
 obtain⟨a1,c1,rfl,_,hr1⟩:=ha
 obtain⟨a2,c2,rfl,_,hr2⟩:=hb
 by_cases h0:size x=0∨size y=0
 ·refine (kQ a1 a2 (size x) (size y) c1 c2 w h0).mono ?_
  rintro e w' ⟨rfl,rfl⟩
  have:x*y=0:=by rcases h0 with h|h<;>rw[tP h]<;>simp
  rw[this]
  exact⟨_,rfl,Lim.fe _,Below.refl _ _⟩
 ·have e:=au x
  have e2:=au y
  rcases hr1 with ⟨rfl,h1⟩|⟨b1,o1,rfl,hb1,hc1⟩
  ·exfalso;apply h0;left;unfold size;rw[h1];rfl
  ·rcases hr2 with ⟨rfl,h2⟩|⟨b2,o2,rfl,hb2,hc2⟩
   ·exfalso;apply h0;right;unfold size;rw[h2];rfl
   ·have:=kR b1 o1 c1 (size x) b2 o2 c2 (size y) (ai x) (ai y) w rfl rfl hx hy (by omega) (by omega) (ao _) (ao _) hb1 hb2 hc1 hc2
    rwa [e,e2] at this
def ord (x y:Nat):Int:=if x<y then -1 else if y<x then 1 else 0
theorem lH (va vb:Option Addr) (la lb ca cb:Nat) (w:World) (hne:la≠lb) :
  Calls Tryz.prog 208 #[.slice va la ca,.slice vb lb cb] w fun e w'=>e=.returned (.int .i64 (ord la lb))∧w=w':=by
 by_cases hlt:la<lb
 ·have hs:ord la lb = -1:=by simp[ord,hlt]
  rw[hs]
  clear hs
  go_enter Tryz.func208,Tryz.ntmps208
  go_wp2
  go_ret
  exact⟨rfl,rfl⟩
 ·have hs:ord la lb=1:=by simp[ord,hlt];omega
  rw[hs]
  clear hs
  have hgt:lb<la:=by omega
  go_enter Tryz.func208,Tryz.ntmps208
  go_wp2
  go_ret
  exact⟨rfl,rfl⟩
theorem qi {xs ys:List Nat} (hx:Fit xs) (hy:Fit ys) (hl:xs.length=ys.length) {k:Nat} (hk:k<xs.length) (he:∀ t,k<t→t<xs.length→xs.getD t 0=ys.getD t 0) :
  (xs.getD k 0<ys.getD k 0→ord (val xs) (val ys) = -1)∧(ys.getD k 0<xs.getD k 0→ord (val xs) (val ys)=1):=by
 constructor
 ·intro h
  have:=jn hx hl hk he h
  simp[ord,this]
 ·intro h
  have:=jn hy hl.symm (by omega) (fun t h1 h2=>(he t h1 (by omega)).symm) h
  simp[ord,this];omega
theorem lI (b1 o1 b2 o2 n ca cb:Nat) (xs ys:List Nat) (w:World) (hlx:xs.length=n) (hly:ys.length=n) (hm:n≤1073741824) (hfx:Fit xs) (hfy:Fit ys)
  (hca:∀ i,i<n→w.cell? ⟨b1,o1+i,none⟩=some (.int .u64 ((xs.getD i 0:Nat):Int)))
  (hcb:∀ i,i<n→w.cell? ⟨b2,o2+i,none⟩=some (.int .u64 ((ys.getD i 0:Nat):Int))) :
  Calls Tryz.prog 208 #[.slice (some ⟨b1,o1,none⟩) n ca,.slice (some ⟨b2,o2,none⟩) n cb] w fun e w'=>e=.returned (.int .i64 (ord (val xs) (val ys)))∧∃ q,w'=w.drewN q:=by
 go_enter Tryz.func208,Tryz.ntmps208
 go_wp2
 go_loopw [5] (fun i wr=>∃ k:Nat,k≤n∧i=.int .i64 ((k:Int)-1)∧(∀ t,k≤t→t<n→xs.getD t 0=ys.getD t 0)∧∃ q,wr=w.drewN q) (fun i _=>(intOf i+1).toNat)
 case atStart=>exact⟨n,K6 _,rfl,fun t h1 h2=>by omega,0,rfl⟩
 case round=>
  obtain⟨k,hk,rfl,hsame,q,rfl⟩:=hrel
  by_cases hk0:k=0
  ·subst hk0
   have Hs:=K7 hsame
   clear hsame hca hcb
   rw[show ((0:Nat):Int)-1 = -1 from rfl]
   go_wp2
   go_ret
   refine ⟨?_,q,rfl⟩
   have e:xs=ys:=by
    apply List.ext_getElem
    ·rw[hlx,hly]
    ·intro t h1 h2
     have:=Hs.out t (Nat.zero_le _) (by omega)
     rwa [bf h1,bf h2] at this
   rw[e,show ord (val ys) (val ys)=0 by simp[ord]]
   rfl
  ·obtain⟨j,rfl⟩:∃ j,k=j+1:=⟨k-1,by omega⟩
   rw[show ((j+1:Nat):Int)-1=(j:Int) by omega]
   have ca:=hca j (by omega)
   have cb':=hcb j (by omega)
   have ho:=qi hfx hfy (by omega) (k:=j) (by omega) (fun t h1 h2=>hsame t (by omega) (by omega))
   have hs2:xs.getD j 0=ys.getD j 0→∀ t,j≤t→t<n→xs.getD t 0=ys.getD t 0:=by
    intro h t h1 h2
    by_cases e:t=j
    ·subst e;exact h
    ·exact hsame t (by omega) h2
   clear hsame hca hcb hlx hly
   generalize xs.getD j 0=x at *
   generalize ys.getD j 0=y at *
   rcases Nat.lt_trichotomy x y with hxy|hxy|hxy
   ·have Ho:=K7 (ho.1 hxy)
    clear ho hs2
    go_wp2
    go_quiet (fail)
    go_wp2
    go_ret
    rw[Ho.out]
    simp only[World.drewN_drewN]
    exact⟨rfl,_,rfl⟩
   ·have Hs:=K7 (hs2 hxy)
    clear ho hs2
    subst hxy
    have hirr:¬x<x:=Nat.lt_irrefl x
    go_wp2
    go_quiet (fail)
    go_wp2
    go_quiet (fail)
    go_wp2
    go_roundw
    case rel=>exact⟨j,by omega,by go_num,Hs.out,by first|exact⟨_,rfl⟩|(simp only[World.drewN_drewN];exact⟨_,rfl⟩)⟩
    case measure=>simp[intOf]
   ·have Ho:=K7 (ho.2 hxy)
    clear ho hs2
    have hnlt:¬x<y:=by omega
    go_wp2
    go_quiet (fail)
    go_wp2
    go_quiet (fail)
    go_wp2
    go_ret
    rw[Ho.out]
    simp only[World.drewN_drewN]
    exact⟨rfl,_,rfl⟩
theorem qj {x y:Nat} (h:size x≠size y):ord (size x) (size y)=ord x y:=by
 unfold ord
 rcases Nat.lt_or_ge (size x) (size y) with h1|h1
 ·rw[if_pos h1,if_pos (lF h1)]
 ·have h2:size y<size x:=by omega
  have h3:=lF h2
  rw[if_neg (by omega),if_pos h2,if_neg (by omega),if_pos h3]
theorem gg (va vb:Option Addr) (ca cb:Nat) (w:World) :
  Calls Tryz.prog 208 #[.slice va 0 ca,.slice vb 0 cb] w fun e w'=>e=.returned (.int .i64 0)∧w=w':=by
 go_enter Tryz.func208,Tryz.ntmps208
 go_wp2
 go_loop [5] (fun i=>i=.int .i64 (-1)) (fun _=>0)
 case atStart=>exact rfl
 case round=>
  obtain rfl:=hrel
  go_wp2
  go_ret
  exact⟨rfl,rfl⟩
theorem aV (va vb:Value) (x y:Nat) (w:World) (ha:Lim w va x) (hb:Lim w vb y) (hx:size x≤1073741824) :
  Calls Tryz.prog 208 #[va,vb] w fun e w'=>e=.returned (.int .i64 (ord x y))∧∃ q,w'=w.drewN q:=by
 obtain⟨a1,c1,rfl,_,hr1⟩:=ha
 obtain⟨a2,c2,rfl,_,hr2⟩:=hb
 by_cases hs:size x=size y
 ·rcases hr1 with ⟨rfl,h1⟩|⟨b1,o1,rfl,hb1,hc1⟩
  ·obtain rfl:x=0:=aF.1 h1
   obtain rfl:y=0:=by
    have:=bW
    by_cases h0:y=0
    ·exact h0
    ·have:=size_pos.2 h0;omega
   refine (gg none a2 c1 c2 w).mono ?_
   rintro e w' ⟨rfl,rfl⟩
   exact⟨rfl,0,rfl⟩
  ·rcases hr2 with ⟨rfl,h2⟩|⟨b2,o2,rfl,hb2,hc2⟩
   ·obtain rfl:y=0:=aF.1 h2
    obtain rfl:x=0:=by
     have:=bW
     by_cases h0:x=0
     ·exact h0
     ·have:=size_pos.2 h0;omega
    refine (gg _ none c1 c2 w).mono ?_
    rintro e w' ⟨rfl,rfl⟩
    exact⟨rfl,0,rfl⟩
   ·have:=lI b1 o1 b2 o2 (size x) c1 c2 (ai x) (ai y) w rfl hs.symm hx (ao _) (ao _) hc1 (fun i hi=>hc2 i (by rw[show (ai y).length=(ai x).length from hs.symm];exact hi))
    rw[au,au] at this
    rw[←hs]
    exact this
 ·refine (lH a1 a2 (size x) (size y) c1 c2 w hs).mono ?_
  rintro e w' ⟨rfl,rfl⟩
  exact⟨by rw[qj hs],0,rfl⟩
theorem ue (b1 o1 ca la lb cb:Nat) (vb:Option Addr) (xs ys:List Nat) (w:World) (hla:xs.length=la) (hlb:ys.length=lb) (hle:lb≤la) (hm:la≤1073741824)
  (hfx:Fit xs) (hfy:Fit ys) (hb1:b1<w.heap.size)
  (hca:∀ i,i<la→w.cell? ⟨b1,o1+i,none⟩=some (.int .u64 ((xs.getD i 0:Nat):Int)))
  (hvb:(vb=none∧lb=0)∨∃ b2 o2,vb=some ⟨b2,o2,none⟩∧b2<w.heap.size∧∀ i,i<lb→w.cell? ⟨b2,o2+i,none⟩=some (.int .u64 ((ys.getD i 0:Nat):Int))) :
  Calls Tryz.prog 214 #[.slice (some ⟨b1,o1,none⟩) la ca,.slice vb lb cb] w fun e w'=>∃ v,e=.returned v∧Lim w' v (val xs+val ys)∧Kept w w':=by
 obtain⟨i0,hi,hz0,hz1,hz2⟩:=info_parts Tryz.cd
 have hall:=yo (xs:=xs) (ys:=ys) (by omega)
 have hfit:Fit (fill (bA xs ys xs.length) (xs.length+1) (xs.length+1)):=eX fun i _=>yn hfx hfy _ i
 rw[hla] at hall hfit
 have Hall:=K7 hall
 clear hall
 have hnlt:decide ((la:Int)<lb)=false:=by simp;omega
 clear hla
 rcases hvb with ⟨rfl,rfl⟩|⟨b2,o2,rfl,hb2,hcb⟩
 ·have hlb':ys.length≤0:=by omega
  clear hlb
  go_enter Tryz.func214,Tryz.ntmps214
  go_wp2_with (at_make;go_loud (refine wpList_make_full _ rfl _ _ 93 rfl w.heap.size 232 i0 (.int .u64 0) 1 Tryz.underlying93 hi hz0 hz1 .i64 .i64 _ _ (la+1) rfl rfl (by omega) (by omega) (by rw[hz2];omega) (by unfold maxLen;omega) (K6 _) ?_);intro w1 hown1 hgrow1)
  rw[aQ,←ew (bA xs ys la)] at hown1
  have hO:Own w1 w.heap.size w.heap.size (la+1) (fill (bA xs ys la) 0 (la+1)):=⟨aS _ _ _,hown1⟩
  have hB:Below w.heap.size w w1:=(Below.refl _ _).grown hgrow1 (K6 _) (by intro k h;cases h)
  clear hown1 hgrow1 hi hz0 hz1 hz2
  generalize hg:w.heap.size=G at *
  have hG:=K7 hg
  clear hg
  go_wp2
  go_loopw [6,23] (fun c i wr=>∃ k:Nat,k≤la∧i=.int .i64 k∧c=.int .u64 ((bq xs ys k:Nat):Int)∧Own wr G G (la+1) (fill (bA xs ys la) k (la+1))∧Below G w wr) (fun _ i _=>la-(intOf i).toNat)
  case atStart=>exact⟨0,Nat.zero_le _,rfl,rfl,hO,hB⟩
  case round=>
   clear hO hB
   obtain⟨k,hk,rfl,rfl,hown,hbel⟩:=hrel
   by_cases hlt:k<la
   ·have hy0:ys.getD k 0=0:=by rw[bD (by omega)]
    have hadd:=bV (xs.getD k 0) (ys.getD k 0) (bq xs ys k) (eO hfx hfy k)
    have eD:(xs.getD k 0+ys.getD k 0+bq xs ys k)%LimbNum.B=bA xs ys la k:=by simp[bA,hlt]
    have eC:(xs.getD k 0+ys.getD k 0+bq xs ys k)/LimbNum.B=bq xs ys (k+1):=rfl
    rw[eD,eC] at hadd
    have hset:=hown.set k (bA xs ys la k)
    rw[cB] at hset
    have hfree:=hown.free k
    have hcell:=(hbel.cell (p:=⟨b1,o1+k,none⟩) hb1).trans (hca k hlt)
    have hold:=hown.cell (i:=k) (by omega)
    rw[hy0,show ((0:Nat):Int)=0 from rfl] at hadd
    clear eD eC
    generalize xs.getD k 0=x at *
    generalize ys.getD k 0=y at *
    generalize (fill (bA xs ys la) k (la+1)).getD k 0=z at *
    go_wp2
    go_roundw
    case rel=>exact⟨k+1,by omega,by go_num,rfl,hset,hbel.setCell (K6 _) _⟩
    case measure=>simp[intOf];omega
   ·obtain rfl:k=la:=by omega
    have hset:=hown.set k (bA xs ys k k)
    rw[cB] at hset
    rw[show bA xs ys k k=bq xs ys k by simp[bA]] at hset
    have hfree:=hown.free k
    have hold:=hown.cell (i:=k) (by omega)
    generalize (fill (bA xs ys k) k (k+1)).getD k 0=z at *
    go_wp2_with fail
    have hbel2:=hbel.setCell (K6 G) (p:=⟨G,k,none⟩) (.int .u64 ((bq xs ys k:Nat):Int))
    have hrow:=hset.row
    generalize (wr.setCell ⟨G,k,none⟩ (.int .u64 ((bq xs ys k:Nat):Int)))=w2 at *
    refine (aU G 0 (k+1) (k+1) (fill (bA xs ys k) (k+1) (k+1)) w2 (aS _ _ _) (by omega) (K6 _) (fun i hi=>by rw[Nat.zero_add];exact hset.cell hi)).mono ?_
    rintro e w' ⟨rfl,rfl⟩
    go_wp2
    go_ret
    refine ⟨_,rfl,?_,by unfold Kept;rw[hG.out];exact hbel2⟩
    rw[←Hall.out]
    exact aZ hrow hfit (by rw[aS];exact K6 _)
 ·have hlb':ys.length≤lb:=by omega
  clear hlb
  go_enter Tryz.func214,Tryz.ntmps214
  go_wp2_with (at_make;go_loud (refine wpList_make_full _ rfl _ _ 93 rfl w.heap.size 232 i0 (.int .u64 0) 1 Tryz.underlying93 hi hz0 hz1 .i64 .i64 _ _ (la+1) rfl rfl (by omega) (by omega) (by rw[hz2];omega) (by unfold maxLen;omega) (K6 _) ?_);intro w1 hown1 hgrow1)
  rw[aQ,←ew (bA xs ys la)] at hown1
  have hO:Own w1 w.heap.size w.heap.size (la+1) (fill (bA xs ys la) 0 (la+1)):=⟨aS _ _ _,hown1⟩
  have hB:Below w.heap.size w w1:=(Below.refl _ _).grown hgrow1 (K6 _) (by intro k h;cases h)
  clear hown1 hgrow1 hi hz0 hz1 hz2
  generalize hg:w.heap.size=G at *
  have hG:=K7 hg
  clear hg
  go_wp2
  go_loopw [6,23] (fun c i wr=>∃ k:Nat,k≤la∧i=.int .i64 k∧c=.int .u64 ((bq xs ys k:Nat):Int)∧Own wr G G (la+1) (fill (bA xs ys la) k (la+1))∧Below G w wr) (fun _ i _=>la-(intOf i).toNat)
  case atStart=>exact⟨0,Nat.zero_le _,rfl,rfl,hO,hB⟩
  case round=>
   clear hO hB
   obtain⟨k,hk,rfl,rfl,hown,hbel⟩:=hrel
   by_cases hlt:k<la
   ·
    by_cases hk2:k<lb
    ·skip
     have hadd:=bV (xs.getD k 0) (ys.getD k 0) (bq xs ys k) (eO hfx hfy k)
     have eD:(xs.getD k 0+ys.getD k 0+bq xs ys k)%LimbNum.B=bA xs ys la k:=by simp[bA,hlt]
     have eC:(xs.getD k 0+ys.getD k 0+bq xs ys k)/LimbNum.B=bq xs ys (k+1):=rfl
     rw[eD,eC] at hadd
     have hset:=hown.set k (bA xs ys la k)
     rw[cB] at hset
     have hfree:=hown.free k
     have hcell:=(hbel.cell (p:=⟨b1,o1+k,none⟩) hb1).trans (hca k hlt)
     have hold:=hown.cell (i:=k) (by omega)
     have hcell2:=(hbel.cell (p:=⟨b2,o2+k,none⟩) hb2).trans (hcb k hk2)
     clear eD eC
     generalize xs.getD k 0=x at *
     generalize ys.getD k 0=y at *
     generalize (fill (bA xs ys la) k (la+1)).getD k 0=z at *
     go_wp2
     go_roundw
     case rel=>exact⟨k+1,by omega,by go_num,rfl,hset,hbel.setCell (K6 _) _⟩
     case measure=>simp[intOf];omega
    ·have hy0:ys.getD k 0=0:=by rw[bD (by omega)]
     have hadd:=bV (xs.getD k 0) (ys.getD k 0) (bq xs ys k) (eO hfx hfy k)
     have eD:(xs.getD k 0+ys.getD k 0+bq xs ys k)%LimbNum.B=bA xs ys la k:=by simp[bA,hlt]
     have eC:(xs.getD k 0+ys.getD k 0+bq xs ys k)/LimbNum.B=bq xs ys (k+1):=rfl
     rw[eD,eC] at hadd
     have hset:=hown.set k (bA xs ys la k)
     rw[cB] at hset
     have hfree:=hown.free k
     have hcell:=(hbel.cell (p:=⟨b1,o1+k,none⟩) hb1).trans (hca k hlt)
     have hold:=hown.cell (i:=k) (by omega)
     rw[hy0,show ((0:Nat):Int)=0 from rfl] at hadd
     clear eD eC
     generalize xs.getD k 0=x at *
     generalize ys.getD k 0=y at *
     generalize (fill (bA xs ys la) k (la+1)).getD k 0=z at *
     go_wp2
     go_roundw
     case rel=>exact⟨k+1,by omega,by go_num,rfl,hset,hbel.setCell (K6 _) _⟩
     case measure=>simp[intOf];omega
   ·obtain rfl:k=la:=by omega
    have hset:=hown.set k (bA xs ys k k)
    rw[cB] at hset
    rw[show bA xs ys k k=bq xs ys k by simp[bA]] at hset
    have hfree:=hown.free k
    have hold:=hown.cell (i:=k) (by omega)
    generalize (fill (bA xs ys k) k (k+1)).getD k 0=z at *
    go_wp2_with fail
    have hbel2:=hbel.setCell (K6 G) (p:=⟨G,k,none⟩) (.int .u64 ((bq xs ys k:Nat):Int))
    have hrow:=hset.row
    generalize (wr.setCell ⟨G,k,none⟩ (.int .u64 ((bq xs ys k:Nat):Int)))=w2 at *
    refine (aU G 0 (k+1) (k+1) (fill (bA xs ys k) (k+1) (k+1)) w2 (aS _ _ _) (by omega) (K6 _) (fun i hi=>by rw[Nat.zero_add];exact hset.cell hi)).mono ?_
    rintro e w' ⟨rfl,rfl⟩
    go_wp2
    go_ret
    refine ⟨_,rfl,?_,by unfold Kept;rw[hG.out];exact hbel2⟩
    rw[←Hall.out]
    exact aZ hrow hfit (by rw[aS];exact K6 _)
theorem nI (b1 o1 ca la lb cb:Nat) (vb:Option Addr) (xs ys:List Nat) (w:World) (hla:xs.length=la) (hlb:ys.length=lb) (hle:lb<la) (hm:la≤1073741824)
  (hfx:Fit xs) (hfy:Fit ys) (hb1:b1<w.heap.size)
  (hca:∀ i,i<la→w.cell? ⟨b1,o1+i,none⟩=some (.int .u64 ((xs.getD i 0:Nat):Int)))
  (hvb:(vb=none∧lb=0)∨∃ b2 o2,vb=some ⟨b2,o2,none⟩∧b2<w.heap.size∧∀ i,i<lb→w.cell? ⟨b2,o2+i,none⟩=some (.int .u64 ((ys.getD i 0:Nat):Int))) :
  Calls Tryz.prog 214 #[.slice vb lb cb,.slice (some ⟨b1,o1,none⟩) la ca] w fun e w'=>∃ v,e=.returned v∧Lim w' v (val xs+val ys)∧Kept w w':=by
 obtain⟨i0,hi,hz0,hz1,hz2⟩:=info_parts Tryz.cd
 have hall:=yo (xs:=xs) (ys:=ys) (by omega)
 have hfit:Fit (fill (bA xs ys xs.length) (xs.length+1) (xs.length+1)):=eX fun i _=>yn hfx hfy _ i
 rw[hla] at hall hfit
 have Hall:=K7 hall
 clear hall
 have hnlt:decide ((lb:Int)<la)=true:=by simp;omega
 clear hla
 rcases hvb with ⟨rfl,rfl⟩|⟨b2,o2,rfl,hb2,hcb⟩
 ·have hlb':ys.length≤0:=by omega
  clear hlb
  go_enter Tryz.func214,Tryz.ntmps214
  go_wp2_with (at_make;go_loud (refine wpList_make_full _ rfl _ _ 93 rfl w.heap.size 232 i0 (.int .u64 0) 1 Tryz.underlying93 hi hz0 hz1 .i64 .i64 _ _ (la+1) rfl rfl (by omega) (by omega) (by rw[hz2];omega) (by unfold maxLen;omega) (K6 _) ?_);intro w1 hown1 hgrow1)
  rw[aQ,←ew (bA xs ys la)] at hown1
  have hO:Own w1 w.heap.size w.heap.size (la+1) (fill (bA xs ys la) 0 (la+1)):=⟨aS _ _ _,hown1⟩
  have hB:Below w.heap.size w w1:=(Below.refl _ _).grown hgrow1 (K6 _) (by intro k h;cases h)
  clear hown1 hgrow1 hi hz0 hz1 hz2
  generalize hg:w.heap.size=G at *
  have hG:=K7 hg
  clear hg
  go_wp2
  go_loopw [6,23] (fun c i wr=>∃ k:Nat,k≤la∧i=.int .i64 k∧c=.int .u64 ((bq xs ys k:Nat):Int)∧Own wr G G (la+1) (fill (bA xs ys la) k (la+1))∧Below G w wr) (fun _ i _=>la-(intOf i).toNat)
  case atStart=>exact⟨0,Nat.zero_le _,rfl,rfl,hO,hB⟩
  case round=>
   clear hO hB
   obtain⟨k,hk,rfl,rfl,hown,hbel⟩:=hrel
   by_cases hlt:k<la
   ·have hy0:ys.getD k 0=0:=by rw[bD (by omega)]
    have hadd:=bV (xs.getD k 0) (ys.getD k 0) (bq xs ys k) (eO hfx hfy k)
    have eD:(xs.getD k 0+ys.getD k 0+bq xs ys k)%LimbNum.B=bA xs ys la k:=by simp[bA,hlt]
    have eC:(xs.getD k 0+ys.getD k 0+bq xs ys k)/LimbNum.B=bq xs ys (k+1):=rfl
    rw[eD,eC] at hadd
    have hset:=hown.set k (bA xs ys la k)
    rw[cB] at hset
    have hfree:=hown.free k
    have hcell:=(hbel.cell (p:=⟨b1,o1+k,none⟩) hb1).trans (hca k hlt)
    have hold:=hown.cell (i:=k) (by omega)
    rw[hy0,show ((0:Nat):Int)=0 from rfl] at hadd
    clear eD eC
    generalize xs.getD k 0=x at *
    generalize ys.getD k 0=y at *
    generalize (fill (bA xs ys la) k (la+1)).getD k 0=z at *
    go_wp2
    go_roundw
    case rel=>exact⟨k+1,by omega,by go_num,rfl,hset,hbel.setCell (K6 _) _⟩
    case measure=>simp[intOf];omega
   ·obtain rfl:k=la:=by omega
    have hset:=hown.set k (bA xs ys k k)
    rw[cB] at hset
    rw[show bA xs ys k k=bq xs ys k by simp[bA]] at hset
    have hfree:=hown.free k
    have hold:=hown.cell (i:=k) (by omega)
    generalize (fill (bA xs ys k) k (k+1)).getD k 0=z at *
    go_wp2_with fail
    have hbel2:=hbel.setCell (K6 G) (p:=⟨G,k,none⟩) (.int .u64 ((bq xs ys k:Nat):Int))
    have hrow:=hset.row
    generalize (wr.setCell ⟨G,k,none⟩ (.int .u64 ((bq xs ys k:Nat):Int)))=w2 at *
    refine (aU G 0 (k+1) (k+1) (fill (bA xs ys k) (k+1) (k+1)) w2 (aS _ _ _) (by omega) (K6 _) (fun i hi=>by rw[Nat.zero_add];exact hset.cell hi)).mono ?_
    rintro e w' ⟨rfl,rfl⟩
    go_wp2
    go_ret
    refine ⟨_,rfl,?_,by unfold Kept;rw[hG.out];exact hbel2⟩
    rw[←Hall.out]
    exact aZ hrow hfit (by rw[aS];exact K6 _)
 ·have hlb':ys.length≤lb:=by omega
  clear hlb
  go_enter Tryz.func214,Tryz.ntmps214
  go_wp2_with (at_make;go_loud (refine wpList_make_full _ rfl _ _ 93 rfl w.heap.size 232 i0 (.int .u64 0) 1 Tryz.underlying93 hi hz0 hz1 .i64 .i64 _ _ (la+1) rfl rfl (by omega) (by omega) (by rw[hz2];omega) (by unfold maxLen;omega) (K6 _) ?_);intro w1 hown1 hgrow1)
  rw[aQ,←ew (bA xs ys la)] at hown1
  have hO:Own w1 w.heap.size w.heap.size (la+1) (fill (bA xs ys la) 0 (la+1)):=⟨aS _ _ _,hown1⟩
  have hB:Below w.heap.size w w1:=(Below.refl _ _).grown hgrow1 (K6 _) (by intro k h;cases h)
  clear hown1 hgrow1 hi hz0 hz1 hz2
  generalize hg:w.heap.size=G at *
  have hG:=K7 hg
  clear hg
  go_wp2
  go_loopw [6,23] (fun c i wr=>∃ k:Nat,k≤la∧i=.int .i64 k∧c=.int .u64 ((bq xs ys k:Nat):Int)∧Own wr G G (la+1) (fill (bA xs ys la) k (la+1))∧Below G w wr) (fun _ i _=>la-(intOf i).toNat)
  case atStart=>exact⟨0,Nat.zero_le _,rfl,rfl,hO,hB⟩
  case round=>
   clear hO hB
   obtain⟨k,hk,rfl,rfl,hown,hbel⟩:=hrel
   by_cases hlt:k<la
   ·
    by_cases hk2:k<lb
    ·skip
     have hadd:=bV (xs.getD k 0) (ys.getD k 0) (bq xs ys k) (eO hfx hfy k)
     have eD:(xs.getD k 0+ys.getD k 0+bq xs ys k)%LimbNum.B=bA xs ys la k:=by simp[bA,hlt]
     have eC:(xs.getD k 0+ys.getD k 0+bq xs ys k)/LimbNum.B=bq xs ys (k+1):=rfl
     rw[eD,eC] at hadd
     have hset:=hown.set k (bA xs ys la k)
     rw[cB] at hset
     have hfree:=hown.free k
     have hcell:=(hbel.cell (p:=⟨b1,o1+k,none⟩) hb1).trans (hca k hlt)
     have hold:=hown.cell (i:=k) (by omega)
     have hcell2:=(hbel.cell (p:=⟨b2,o2+k,none⟩) hb2).trans (hcb k hk2)
     clear eD eC
     generalize xs.getD k 0=x at *
     generalize ys.getD k 0=y at *
     generalize (fill (bA xs ys la) k (la+1)).getD k 0=z at *
     go_wp2
     go_roundw
     case rel=>exact⟨k+1,by omega,by go_num,rfl,hset,hbel.setCell (K6 _) _⟩
     case measure=>simp[intOf];omega
    ·have hy0:ys.getD k 0=0:=by rw[bD (by omega)]
     have hadd:=bV (xs.getD k 0) (ys.getD k 0) (bq xs ys k) (eO hfx hfy k)
     have eD:(xs.getD k 0+ys.getD k 0+bq xs ys k)%LimbNum.B=bA xs ys la k:=by simp[bA,hlt]
     have eC:(xs.getD k 0+ys.getD k 0+bq xs ys k)/LimbNum.B=bq xs ys (k+1):=rfl
     rw[eD,eC] at hadd
     have hset:=hown.set k (bA xs ys la k)
     rw[cB] at hset
     have hfree:=hown.free k
     have hcell:=(hbel.cell (p:=⟨b1,o1+k,none⟩) hb1).trans (hca k hlt)
     have hold:=hown.cell (i:=k) (by omega)
     rw[hy0,show ((0:Nat):Int)=0 from rfl] at hadd
     clear eD eC
     generalize xs.getD k 0=x at *
     generalize ys.getD k 0=y at *
     generalize (fill (bA xs ys la) k (la+1)).getD k 0=z at *
     go_wp2
     go_roundw
     case rel=>exact⟨k+1,by omega,by go_num,rfl,hset,hbel.setCell (K6 _) _⟩
     case measure=>simp[intOf];omega
   ·obtain rfl:k=la:=by omega
    have hset:=hown.set k (bA xs ys k k)
    rw[cB] at hset
    rw[show bA xs ys k k=bq xs ys k by simp[bA]] at hset
    have hfree:=hown.free k
    have hold:=hown.cell (i:=k) (by omega)
    generalize (fill (bA xs ys k) k (k+1)).getD k 0=z at *
    go_wp2_with fail
    have hbel2:=hbel.setCell (K6 G) (p:=⟨G,k,none⟩) (.int .u64 ((bq xs ys k:Nat):Int))
    have hrow:=hset.row
    generalize (wr.setCell ⟨G,k,none⟩ (.int .u64 ((bq xs ys k:Nat):Int)))=w2 at *
    refine (aU G 0 (k+1) (k+1) (fill (bA xs ys k) (k+1) (k+1)) w2 (aS _ _ _) (by omega) (K6 _) (fun i hi=>by rw[Nat.zero_add];exact hset.cell hi)).mono ?_
    rintro e w' ⟨rfl,rfl⟩
    go_wp2
    go_ret
    refine ⟨_,rfl,?_,by unfold Kept;rw[hG.out];exact hbel2⟩
    rw[←Hall.out]
    exact aZ hrow hfit (by rw[aS];exact K6 _)
theorem lx (ca cb:Nat) (vb:Option Addr) (w:World) :
  Calls Tryz.prog 214 #[.slice none 0 ca,.slice vb 0 cb] w fun e w'=>∃ v,e=.returned v∧Lim w' v 0∧Kept w w':=by
 obtain⟨i0,hi,hz0,hz1,hz2⟩:=info_parts Tryz.cd
 go_enter Tryz.func214,Tryz.ntmps214
 go_wp2_with (at_make;go_loud (refine wpList_make_full _ rfl _ _ 93 rfl w.heap.size 232 i0 (.int .u64 0) 1 Tryz.underlying93 hi hz0 hz1 .i64 .i64 _ _ 1 rfl rfl (by omega) (by omega) (by rw[hz2];omega) (by unfold maxLen;omega) (K6 _) ?_);intro w1 hown1 hgrow1)
 rw[aQ] at hown1
 have hO:Own w1 w.heap.size w.heap.size 1 [0]:=⟨rfl,hown1⟩
 have hB:Below w.heap.size w w1:=(Below.refl _ _).grown hgrow1 (K6 _) (by intro k h;cases h)
 clear hown1 hgrow1 hi hz0 hz1 hz2
 generalize hg:w.heap.size=G at *
 have hG:=K7 hg
 clear hg
 go_wp2
 go_loopw [6,23] (fun c i wr=>i=.int .i64 0∧c=.int .u64 0∧Own wr G G 1 [0]∧Below G w wr) (fun _ i _=>0)
 case atStart=>exact⟨rfl,rfl,hO,hB⟩
 case round=>
  clear hO hB
  obtain⟨rfl,rfl,hown,hbel⟩:=hrel
  have hset:=hown.set 0 0
  have hfree:=hown.free 0
  have hold:=hown.cell (i:=0) (by omega)
  go_wp2_with fail
  have hbel2:=hbel.setCell (K6 G) (p:=⟨G,0,none⟩) (.int .u64 ((0:Nat):Int))
  have hrow:=hset.row
  rw[show ((0:Nat):Int)=0 from rfl] at hset hbel2 hrow
  generalize (wr.setCell ⟨G,0,none⟩ (.int .u64 0))=w2 at *
  refine (aU G 0 1 1 [0] w2 rfl (by omega) (K6 _) (fun i hi=>by rw[Nat.zero_add];exact hset.cell hi)).mono ?_
  rintro e w' ⟨rfl,rfl⟩
  go_wp2
  go_ret
  refine ⟨_,rfl,?_,by unfold Kept;rw[hG.out];exact hbel2⟩
  exact aZ hrow (Fit.cons aA Fit.nil) (K6 _)
theorem iB (va vb:Value) (x y:Nat) (w:World) (ha:Lim w va x) (hb:Lim w vb y) (hx:size x≤1073741824) (hy:size y≤1073741824) :
  Calls Tryz.prog 214 #[va,vb] w fun e w'=>∃ v,e=.returned v∧Lim w' v (x+y)∧Kept w w':=by
 obtain⟨a1,c1,rfl,_,hr1⟩:=ha
 obtain⟨a2,c2,rfl,_,hr2⟩:=hb
 have e:=au x
 have e2:=au y
 rcases hr1 with ⟨rfl,h1⟩|⟨b1,o1,rfl,hb1,hc1⟩
 ·obtain rfl:x=0:=aF.1 h1
  rcases hr2 with ⟨rfl,h2⟩|⟨b2,o2,rfl,hb2,hc2⟩
  ·obtain rfl:y=0:=aF.1 h2
   exact lx c1 c2 none w
  ·by_cases hy0:y=0
   ·subst hy0;exact lx c1 c2 _ w
   ·have:=nI b2 o2 c2 (size y) 0 c1 none (ai y) (ai 0) w rfl rfl (size_pos.2 hy0) hy (ao _) (ao _) hb2 hc2 (.inl ⟨rfl,rfl⟩)
    rw[e2,e,Nat.add_zero] at this
    rw[Nat.zero_add]
    exact this
 ·by_cases hle:size y≤size x
  ·have:=ue b1 o1 c1 (size x) (size y) c2 a2 (ai x) (ai y) w rfl rfl hle hx (ao _) (ao _) hb1 hc1 (hr2.imp (fun h=>⟨h.1,by unfold size;rw[h.2];rfl⟩) fun h=>h)
   rwa [e,e2] at this
  ·rcases hr2 with ⟨rfl,h2⟩|⟨b2,o2,rfl,hb2,hc2⟩
   ·exfalso;apply hle;unfold size;rw[h2];exact Nat.zero_le _
   ·have:=nI b2 o2 c2 (size y) (size x) c1 _ (ai y) (ai x) w rfl rfl (by omega) hy (ao _) (ao _) hb2 hc2 (.inr ⟨b1,o1,rfl,hb1,hc1⟩)
    rwa [e,e2,Nat.add_comm] at this
theorem tS {xs ys:List Nat} (hx:Fit xs) (hy:Fit ys) (k:Nat):(xs.getD k 0+LimbNum.B-(ys.getD k 0+bJ xs ys k))%LimbNum.B=cY xs ys k:=by
 have h1:=hx.get k;have h2:=hy.get k;have h3:=dM xs ys k
 unfold cY
 split
 ·rw[Nat.mod_eq_of_lt (by omega)]
 ·rw[show xs.getD k 0+LimbNum.B-(ys.getD k 0+bJ xs ys k)=(xs.getD k 0-(ys.getD k 0+bJ xs ys k))+LimbNum.B by omega,Nat.add_mod_right,Nat.mod_eq_of_lt (by omega)]
theorem kZ (b1 o1 ca la lb cb:Nat) (vb:Option Addr) (xs ys:List Nat) (w:World) (hla:xs.length=la) (hlb:ys.length=lb) (hle:val ys≤val xs) (hl:lb≤la) (hm:la≤1073741824)
  (hfx:Fit xs) (hfy:Fit ys) (hb1:b1<w.heap.size)
  (hca:∀ i,i<la→w.cell? ⟨b1,o1+i,none⟩=some (.int .u64 ((xs.getD i 0:Nat):Int)))
  (hvb:(vb=none∧lb=0)∨∃ b2 o2,vb=some ⟨b2,o2,none⟩∧b2<w.heap.size∧∀ i,i<lb→w.cell? ⟨b2,o2+i,none⟩=some (.int .u64 ((ys.getD i 0:Nat):Int))) :
  Calls Tryz.prog 215 #[.slice (some ⟨b1,o1,none⟩) la ca,.slice vb lb cb] w fun e w'=>∃ v,e=.returned v∧Lim w' v (val xs-val ys)∧Kept w w':=by
 obtain⟨i0,hi,hz0,hz1,hz2⟩:=info_parts Tryz.cd
 have hall:=tT hfx hfy (by omega) hle
 have hfit:Fit (fill (cY xs ys) xs.length xs.length):=eX fun i _=>mj hfx hfy i
 rw[hla] at hall hfit
 have Hall:=K7 hall
 clear hall hla hle
 rcases hvb with ⟨rfl,rfl⟩|⟨b2,o2,rfl,hb2,hcb⟩
 ·have hlb':ys.length≤0:=by omega
  clear hlb
  go_enter Tryz.func215,Tryz.ntmps215
  go_wp2_with (at_make;go_loud (refine wpList_make_full _ rfl _ _ 93 rfl w.heap.size 232 i0 (.int .u64 0) 1 Tryz.underlying93 hi hz0 hz1 .i64 .i64 _ _ la rfl rfl (by omega) (by omega) (by rw[hz2];omega) (by unfold maxLen;omega) (K6 _) ?_);intro w1 hown1 hgrow1)
  rw[aQ,←ew (cY xs ys)] at hown1
  have hO:Own w1 w.heap.size w.heap.size la (fill (cY xs ys) 0 la):=⟨aS _ _ _,hown1⟩
  have hB:Below w.heap.size w w1:=(Below.refl _ _).grown hgrow1 (K6 _) (by intro k h;cases h)
  clear hown1 hgrow1 hi hz0 hz1 hz2
  generalize hg:w.heap.size=G at *
  have hG:=K7 hg
  clear hg
  go_wp2
  go_loopw [6,15] (fun c i wr=>∃ k:Nat,k≤la∧i=.int .i64 k∧c=.int .u64 ((bJ xs ys k:Nat):Int)∧Own wr G G la (fill (cY xs ys) k la)∧Below G w wr) (fun _ i _=>la-(intOf i).toNat)
  case atStart=>exact⟨0,Nat.zero_le _,rfl,rfl,hO,hB⟩
  case round=>
   clear hO hB
   obtain⟨k,hk,rfl,rfl,hown,hbel⟩:=hrel
   by_cases hlt:k<la
   ·skip
    have hy0:ys.getD k 0=0:=by rw[bD (by omega)]
    have hsub:=ig (xs.getD k 0) (ys.getD k 0) (bJ xs ys k) (dM xs ys k)
    have eC:(if xs.getD k 0<ys.getD k 0+bJ xs ys k then 1 else 0)=bJ xs ys (k+1):=rfl
    rw[tS hfx hfy k,eC] at hsub
    have hset:=hown.set k (cY xs ys k)
    rw[cB] at hset
    have hfree:=hown.free k
    have hcell:=(hbel.cell (p:=⟨b1,o1+k,none⟩) hb1).trans (hca k hlt)
    have hold:=hown.cell (i:=k) (by omega)
    rw[hy0,show ((0:Nat):Int)=0 from rfl] at hsub
    clear eC
    generalize xs.getD k 0=x at *
    generalize ys.getD k 0=y at *
    generalize (fill (cY xs ys) k la).getD k 0=z at *
    go_wp2
    go_roundw
    case rel=>exact⟨k+1,by omega,by go_num,rfl,hset,hbel.setCell (K6 _) _⟩
    case measure=>simp[intOf];omega
   ·obtain rfl:k=la:=by omega
    go_wp2_with fail
    have hrow:=hown.row
    refine (aU G 0 k k (fill (cY xs ys) k k) wr (aS _ _ _) (by omega) (K6 _) (fun i hi=>by rw[Nat.zero_add];exact hown.cell hi)).mono ?_
    rintro e w' ⟨rfl,rfl⟩
    go_wp2
    go_ret
    refine ⟨_,rfl,?_,by unfold Kept;rw[hG.out];exact hbel⟩
    rw[←Hall.out]
    exact aZ hrow hfit (by rw[aS];exact K6 _)
 ·have hlb':ys.length≤lb:=by omega
  clear hlb
  go_enter Tryz.func215,Tryz.ntmps215
  go_wp2_with (at_make;go_loud (refine wpList_make_full _ rfl _ _ 93 rfl w.heap.size 232 i0 (.int .u64 0) 1 Tryz.underlying93 hi hz0 hz1 .i64 .i64 _ _ la rfl rfl (by omega) (by omega) (by rw[hz2];omega) (by unfold maxLen;omega) (K6 _) ?_);intro w1 hown1 hgrow1)
  rw[aQ,←ew (cY xs ys)] at hown1
  have hO:Own w1 w.heap.size w.heap.size la (fill (cY xs ys) 0 la):=⟨aS _ _ _,hown1⟩
  have hB:Below w.heap.size w w1:=(Below.refl _ _).grown hgrow1 (K6 _) (by intro k h;cases h)
  clear hown1 hgrow1 hi hz0 hz1 hz2
  generalize hg:w.heap.size=G at *
  have hG:=K7 hg
  clear hg
  go_wp2
  go_loopw [6,15] (fun c i wr=>∃ k:Nat,k≤la∧i=.int .i64 k∧c=.int .u64 ((bJ xs ys k:Nat):Int)∧Own wr G G la (fill (cY xs ys) k la)∧Below G w wr) (fun _ i _=>la-(intOf i).toNat)
  case atStart=>exact⟨0,Nat.zero_le _,rfl,rfl,hO,hB⟩
  case round=>
   clear hO hB
   obtain⟨k,hk,rfl,rfl,hown,hbel⟩:=hrel
   by_cases hlt:k<la
   ·skip
    by_cases hk2:k<lb
    ·skip
     have hsub:=ig (xs.getD k 0) (ys.getD k 0) (bJ xs ys k) (dM xs ys k)
     have eC:(if xs.getD k 0<ys.getD k 0+bJ xs ys k then 1 else 0)=bJ xs ys (k+1):=rfl
     rw[tS hfx hfy k,eC] at hsub
     have hset:=hown.set k (cY xs ys k)
     rw[cB] at hset
     have hfree:=hown.free k
     have hcell:=(hbel.cell (p:=⟨b1,o1+k,none⟩) hb1).trans (hca k hlt)
     have hold:=hown.cell (i:=k) (by omega)
     have hcell2:=(hbel.cell (p:=⟨b2,o2+k,none⟩) hb2).trans (hcb k hk2)
     clear eC
     generalize xs.getD k 0=x at *
     generalize ys.getD k 0=y at *
     generalize (fill (cY xs ys) k la).getD k 0=z at *
     go_wp2
     go_roundw
     case rel=>exact⟨k+1,by omega,by go_num,rfl,hset,hbel.setCell (K6 _) _⟩
     case measure=>simp[intOf];omega
    ·have hy0:ys.getD k 0=0:=by rw[bD (by omega)]
     have hsub:=ig (xs.getD k 0) (ys.getD k 0) (bJ xs ys k) (dM xs ys k)
     have eC:(if xs.getD k 0<ys.getD k 0+bJ xs ys k then 1 else 0)=bJ xs ys (k+1):=rfl
     rw[tS hfx hfy k,eC] at hsub
     have hset:=hown.set k (cY xs ys k)
     rw[cB] at hset
     have hfree:=hown.free k
     have hcell:=(hbel.cell (p:=⟨b1,o1+k,none⟩) hb1).trans (hca k hlt)
     have hold:=hown.cell (i:=k) (by omega)
     rw[hy0,show ((0:Nat):Int)=0 from rfl] at hsub
     clear eC
     generalize xs.getD k 0=x at *
     generalize ys.getD k 0=y at *
     generalize (fill (cY xs ys) k la).getD k 0=z at *
     go_wp2
     go_roundw
     case rel=>exact⟨k+1,by omega,by go_num,rfl,hset,hbel.setCell (K6 _) _⟩
     case measure=>simp[intOf];omega
   ·obtain rfl:k=la:=by omega
    go_wp2_with fail
    have hrow:=hown.row
    refine (aU G 0 k k (fill (cY xs ys) k k) wr (aS _ _ _) (by omega) (K6 _) (fun i hi=>by rw[Nat.zero_add];exact hown.cell hi)).mono ?_
    rintro e w' ⟨rfl,rfl⟩
    go_wp2
    go_ret
    refine ⟨_,rfl,?_,by unfold Kept;rw[hG.out];exact hbel⟩
    rw[←Hall.out]
    exact aZ hrow hfit (by rw[aS];exact K6 _)
theorem ml (ca cb:Nat) (vb:Option Addr) (w:World) :
  Calls Tryz.prog 215 #[.slice none 0 ca,.slice vb 0 cb] w fun e w'=>∃ v,e=.returned v∧Lim w' v 0∧Kept w w':=by
 obtain⟨i0,hi,hz0,hz1,hz2⟩:=info_parts Tryz.cd
 go_enter Tryz.func215,Tryz.ntmps215
 go_wp2_with (at_make;go_loud (refine wpList_make_full _ rfl _ _ 93 rfl w.heap.size 232 i0 (.int .u64 0) 1 Tryz.underlying93 hi hz0 hz1 .i64 .i64 _ _ 0 rfl rfl (by omega) (by omega) (by rw[hz2];omega) (by unfold maxLen;omega) (K6 _) ?_);intro w1 hown1 hgrow1)
 rw[aQ] at hown1
 have hO:Own w1 w.heap.size w.heap.size 0 []:=⟨rfl,hown1⟩
 have hB:Below w.heap.size w w1:=(Below.refl _ _).grown hgrow1 (K6 _) (by intro k h;cases h)
 clear hown1 hgrow1 hi hz0 hz1 hz2
 generalize hg:w.heap.size=G at *
 have hG:=K7 hg
 clear hg
 go_wp2
 go_loopw [6,15] (fun c i wr=>i=.int .i64 0∧c=.int .u64 0∧Own wr G G 0 []∧Below G w wr) (fun _ i _=>0)
 case atStart=>exact⟨rfl,rfl,hO,hB⟩
 case round=>
  clear hO hB
  obtain⟨rfl,rfl,hown,hbel⟩:=hrel
  go_wp2_with fail
  have hrow:=hown.row
  refine (aU G 0 0 0 [] wr rfl (by omega) (K6 _) (fun i hi=>by omega)).mono ?_
  rintro e w' ⟨rfl,rfl⟩
  go_wp2
  go_ret
  refine ⟨_,rfl,?_,by unfold Kept;rw[hG.out];exact hbel⟩
  exact aZ hrow Fit.nil (K6 _)
theorem bM (va vb:Value) (x y:Nat) (w:World) (ha:Lim w va x) (hb:Lim w vb y) (hx:size x≤1073741824) (hle:y≤x) :
  Calls Tryz.prog 215 #[va,vb] w fun e w'=>∃ v,e=.returned v∧Lim w' v (x-y)∧Kept w w':=by
 obtain⟨a1,c1,rfl,_,hr1⟩:=ha
 obtain⟨a2,c2,rfl,_,hr2⟩:=hb
 have e:=au x
 have e2:=au y
 rcases hr1 with ⟨rfl,h1⟩|⟨b1,o1,rfl,hb1,hc1⟩
 ·obtain rfl:x=0:=aF.1 h1
  obtain rfl:y=0:=by omega
  exact ml c1 c2 a2 w
 ·have:=kZ b1 o1 c1 (size x) (size y) c2 a2 (ai x) (ai y) w rfl rfl (by rw[e,e2];exact hle) (aK hle) hx (ao _) (ao _) hb1 hc1 (hr2.imp (fun h=>⟨h.1,by unfold size;rw[h.2];rfl⟩) fun h=>h)
  rwa [e,e2] at this
end Go.Proofs.YtjbcmmaniphkkaaGreatDoor
