import Derived.Test.YtiohhcljhadgcaaGreatDoorMemo
import Derived.Test.YtiohhcljhadgcaaGreatDoorSeat
import Derived.Test.YtiohhcljhadgcaaGreatDoorPrS
set_option linter.unusedSectionVars false
set_option linter.unusedVariables false
set_option linter.unusedSimpArgs false
namespace Go.Sx.Seat
open Go Go.Proofs
theorem mixed:Tryz.prog.follows .mixedOrders=true:=by kernel_rfl
theorem dQ:∀ t ti,E.ty.get t=some ti→TyOK Tryz.prog t ti:=Bc C0
theorem dN:vP Tryz.prog E nB:=Am Bw
theorem bo12:∀ fn,Tryz.prog.funcs[12]?=some fn→fn.body.isNone=false:=fun fn h=>by rw[Tryz.func12] at h;cases h;kernel_rfl
theorem bo29:∀ fn,Tryz.prog.funcs[29]?=some fn→fn.body.isNone=false:=fun fn h=>by rw[Tryz.func29] at h;cases h;kernel_rfl
theorem bo30:∀ fn,Tryz.prog.funcs[30]?=some fn→fn.body.isNone=false:=fun fn h=>by rw[Tryz.func30] at h;cases h;kernel_rfl
theorem bo36:∀ fn,Tryz.prog.funcs[36]?=some fn→fn.body.isNone=false:=fun fn h=>by rw[Tryz.func36] at h;cases h;kernel_rfl
theorem bo42:∀ fn,Tryz.prog.funcs[42]?=some fn→fn.body.isNone=false:=fun fn h=>by rw[Tryz.func42] at h;cases h;kernel_rfl
theorem bo48:∀ fn,Tryz.prog.funcs[48]?=some fn→fn.body.isNone=false:=fun fn h=>by rw[Tryz.func48] at h;cases h;kernel_rfl
theorem bo49:∀ fn,Tryz.prog.funcs[49]?=some fn→fn.body.isNone=false:=fun fn h=>by rw[Tryz.func49] at h;cases h;kernel_rfl
theorem C5:∀ fn,Tryz.prog.funcs[50]?=some fn→fn.body.isNone=false:=fun fn h=>by rw[Tryz.func50] at h;cases h;kernel_rfl
theorem bo59:∀ fn,Tryz.prog.funcs[59]?=some fn→fn.body.isNone=false:=fun fn h=>by rw[Tryz.func59] at h;cases h;kernel_rfl
theorem bo60:∀ fn,Tryz.prog.funcs[60]?=some fn→fn.body.isNone=false:=fun fn h=>by rw[Tryz.func60] at h;cases h;kernel_rfl
theorem bo62:∀ fn,Tryz.prog.funcs[62]?=some fn→fn.body.isNone=false:=fun fn h=>by rw[Tryz.func62] at h;cases h;kernel_rfl
theorem C6:∀ fn,Tryz.prog.funcs[83]?=some fn→fn.body.isNone=false:=fun fn h=>by rw[Tryz.func83] at h;cases h;kernel_rfl
theorem bo84:∀ fn,Tryz.prog.funcs[84]?=some fn→fn.body.isNone=false:=fun fn h=>by rw[Tryz.func84] at h;cases h;kernel_rfl
theorem bo85:∀ fn,Tryz.prog.funcs[85]?=some fn→fn.body.isNone=false:=fun fn h=>by rw[Tryz.func85] at h;cases h;kernel_rfl
theorem C7:∀ fn,Tryz.prog.funcs[89]?=some fn→fn.body.isNone=false:=fun fn h=>by rw[Tryz.func89] at h;cases h;kernel_rfl
theorem bo90:∀ fn,Tryz.prog.funcs[90]?=some fn→fn.body.isNone=false:=fun fn h=>by rw[Tryz.func90] at h;cases h;kernel_rfl
theorem yO:∀ x∈known,Ran Tryz.prog x:=by
 unfold known
 simp only[List.forall_mem_cons]
 exact⟨Ran.of mixed dQ dN bY bo29 r0,Ran.of mixed dQ dN bY bo30 r1,Ran.of mixed dQ dN bY bo48 r2,Ran.of mixed dQ dN bY bo49 r3,Ran.of mixed dQ dN bY bo42 r4,Ran.of mixed dQ dN bY C5 r5,Ran.of mixed dQ dN bY C5 r6,Ran.of mixed dQ dN bY bo36 r7,Ran.of mixed dQ dN bY C6 r8,Ran.of mixed dQ dN bY C6 r9,Ran.of mixed dQ dN bY bo84 r10,Ran.of mixed dQ dN bY bo85 r11,Ran.of mixed dQ dN bY bo62 r12,Ran.of mixed dQ dN bY bo59 r13,Ran.of mixed dQ dN bY bo60 r14,Ran.of mixed dQ dN bY C7 r15,Ran.of mixed dQ dN bY bo90 r16,Ran.of mixed dQ dN bY C7 r17,fun x h=>by cases h⟩
theorem yh:Ran Tryz.prog (12,[],.bool true):=Ran.of (E:=vH E known) mixed dQ dN (zN bY yO) bo12 aw
end Go.Sx.Seat
