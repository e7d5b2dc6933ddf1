import Derived.Test.YtnjcdpfibmckmaaGreatDoorSy3
import Derived.Test.YtnjcdpfibmckmaaGreatDoorMemo
set_option linter.unusedSectionVars false
set_option linter.unusedVariables false
set_option linter.unusedSimpArgs false
namespace Go.Sx.Seat
open Go Go.Proofs
variable [Unk]
theorem bo6:∀ fn,Tryz.prog.funcs[6]?=some fn→fn.body.isNone=false:=fun fn h=>by rw[Tryz.func6] at h;cases h;kernel_rfl
theorem bo7:∀ fn,Tryz.prog.funcs[7]?=some fn→fn.body.isNone=false:=fun fn h=>by rw[Tryz.func7] at h;cases h;kernel_rfl
theorem bo8:∀ fn,Tryz.prog.funcs[8]?=some fn→fn.body.isNone=false:=fun fn h=>by rw[Tryz.func8] at h;cases h;kernel_rfl
theorem bo19:∀ fn,Tryz.prog.funcs[19]?=some fn→fn.body.isNone=false:=fun fn h=>by rw[Tryz.func19] at h;cases h;kernel_rfl
theorem Hw:∀ fn,Tryz.prog.funcs[25]?=some fn→fn.body.isNone=false:=fun fn h=>by rw[Tryz.func25] at h;cases h;kernel_rfl
theorem bo27:∀ fn,Tryz.prog.funcs[27]?=some fn→fn.body.isNone=false:=fun fn h=>by rw[Tryz.func27] at h;cases h;kernel_rfl
theorem bo31:∀ fn,Tryz.prog.funcs[31]?=some fn→fn.body.isNone=false:=fun fn h=>by rw[Tryz.func31] at h;cases h;kernel_rfl
theorem bo32:∀ fn,Tryz.prog.funcs[32]?=some fn→fn.body.isNone=false:=fun fn h=>by rw[Tryz.func32] at h;cases h;kernel_rfl
theorem bo33:∀ fn,Tryz.prog.funcs[33]?=some fn→fn.body.isNone=false:=fun fn h=>by rw[Tryz.func33] at h;cases h;kernel_rfl
theorem bo39:∀ fn,Tryz.prog.funcs[39]?=some fn→fn.body.isNone=false:=fun fn h=>by rw[Tryz.func39] at h;cases h;kernel_rfl
theorem bo40:∀ fn,Tryz.prog.funcs[40]?=some fn→fn.body.isNone=false:=fun fn h=>by rw[Tryz.func40] at h;cases h;kernel_rfl
theorem Hy:∀ fn,Tryz.prog.funcs[41]?=some fn→fn.body.isNone=false:=fun fn h=>by rw[Tryz.func41] at h;cases h;kernel_rfl
theorem bo42:∀ fn,Tryz.prog.funcs[42]?=some fn→fn.body.isNone=false:=fun fn h=>by rw[Tryz.func42] at h;cases h;kernel_rfl
theorem bo43:∀ fn,Tryz.prog.funcs[43]?=some fn→fn.body.isNone=false:=fun fn h=>by rw[Tryz.func43] at h;cases h;kernel_rfl
theorem HK:∀ fn,Tryz.prog.funcs[47]?=some fn→fn.body.isNone=false:=fun fn h=>by rw[Tryz.func47] at h;cases h;kernel_rfl
theorem bo48:∀ fn,Tryz.prog.funcs[48]?=some fn→fn.body.isNone=false:=fun fn h=>by rw[Tryz.func48] at h;cases h;kernel_rfl
theorem C9:∀ x∈known,Ran Tryz.prog x:=by
 unfold known
 simp only[List.forall_mem_cons]
 exact⟨Ran.of mixed dJ dC bN bo7 r0,Ran.of mixed dJ dC bN bo8 r1,Ran.of mixed dJ dC bN bo19 r2,Ran.of mixed dJ dC bN bo27 r3,Ran.of mixed dJ dC bN bo39 r4,Ran.of mixed dJ dC bN Hw r5,Ran.of mixed dJ dC bN Hw r6,Ran.of mixed dJ dC bN bo40 r7,Ran.of mixed dJ dC bN Hy r8,Ran.of mixed dJ dC bN Hy r9,Ran.of mixed dJ dC bN bo42 r10,Ran.of mixed dJ dC bN bo43 r11,Ran.of mixed dJ dC bN bo31 r12,Ran.of mixed dJ dC bN bo32 r13,Ran.of mixed dJ dC bN bo33 r14,Ran.of mixed dJ dC bN HK r15,Ran.of mixed dJ dC bN bo48 r16,Ran.of mixed dJ dC bN HK r17,fun x h=>by cases h⟩
theorem Br:Ran Tryz.prog (6,[],.bool true):=Ran.of (E:=yW E known) mixed dJ dC (Dt bN C9) bo6 aw
end Go.Sx.Seat
