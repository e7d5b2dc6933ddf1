import Derived.Test.YtnjcdpfibmckmaaGreatDoorEd
set_option linter.unusedSectionVars false
set_option linter.unusedVariables false
set_option linter.unusedSimpArgs false
namespace Go.Proofs.YtnjcdpfibmckmaaGreatDoor.E
open Go.RowKit LimbNum
theorem AY (v1 v2:Value) (x y:Rat) (k l:Nat) (w:World) (hx:Ex w v1 x) (hy:Ex w v2 y) (bx:DigNum.Bd x k) (bl:DigNum.Bd y l) (hkk:k≤1000000) (hll:l≤1000000) (h0:y≠0) :
  Calls Tryz.prog 151 #[v1,v2] w fun e w'=>∃ v,e=.returned v∧Ex w' v (x/y)∧Kept w w':=by
 rcases Int.lt_trichotomy y.num 0 with h|h|h
 ·exact AZ v1 v2 x y k l w hx hy bx bl hkk hll (Int.sign_eq_neg_one_of_neg h)
 ·exact absurd (Rat.num_eq_zero.1 h) h0
 ·exact B0 v1 v2 x y k l w hx hy bx bl hkk hll (Int.sign_eq_one_of_pos h)
theorem AL (v1 v2:Value) (x y:Rat) (k l:Nat) (w:World) (hx:Ex w v1 x) (hy:Ex w v2 y) (bx:DigNum.Bd x k) (bl:DigNum.Bd y l) (hkk:k≤1000000) (hll:l≤1000000) :
  Calls Tryz.prog 82 #[v1,v2] w fun e w'=>e=.returned (.int .i64 (x-y).num.sign)∧Kept w w':=by
 have:=rZ v1 v2 x y k l w hx hy bx bl hkk hll
 rwa [show oK (x.num*y.den) (y.num*x.den)=(x-y).num.sign from DigNum.DR x y] at this
end Go.Proofs.YtnjcdpfibmckmaaGreatDoor.E
