import Derived.Test.YtjbcmmaniphkkaaGreatDoorSy3
import Derived.Test.YtjbcmmaniphkkaaGreatDoorMemo
set_option linter.unusedSectionVars false
set_option linter.unusedVariables false
set_option linter.unusedSimpArgs false
namespace Go.Sx.Seat
open Go Go.Proofs
variable [Unk]
theorem bo6:∀ fn,Tryz.prog.funcs[6]?=some fn→fn.body.isNone=false:=fun fn h=>by rw[Tryz.func6] at h;cases h;kernel_rfl
theorem bo8:∀ fn,Tryz.prog.funcs[8]?=some fn→fn.body.isNone=false:=fun fn h=>by rw[Tryz.func8] at h;cases h;kernel_rfl
theorem bo16:∀ fn,Tryz.prog.funcs[16]?=some fn→fn.body.isNone=false:=fun fn h=>by rw[Tryz.func16] at h;cases h;kernel_rfl
theorem bo22:∀ fn,Tryz.prog.funcs[22]?=some fn→fn.body.isNone=false:=fun fn h=>by rw[Tryz.func22] at h;cases h;kernel_rfl
theorem bo23:∀ fn,Tryz.prog.funcs[23]?=some fn→fn.body.isNone=false:=fun fn h=>by rw[Tryz.func23] at h;cases h;kernel_rfl
theorem Kt:∀ fn,Tryz.prog.funcs[24]?=some fn→fn.body.isNone=false:=fun fn h=>by rw[Tryz.func24] at h;cases h;kernel_rfl
theorem bo34:∀ fn,Tryz.prog.funcs[34]?=some fn→fn.body.isNone=false:=fun fn h=>by rw[Tryz.func34] at h;cases h;kernel_rfl
theorem bo35:∀ fn,Tryz.prog.funcs[35]?=some fn→fn.body.isNone=false:=fun fn h=>by rw[Tryz.func35] at h;cases h;kernel_rfl
theorem bo37:∀ fn,Tryz.prog.funcs[37]?=some fn→fn.body.isNone=false:=fun fn h=>by rw[Tryz.func37] at h;cases h;kernel_rfl
theorem bo51:∀ fn,Tryz.prog.funcs[51]?=some fn→fn.body.isNone=false:=fun fn h=>by rw[Tryz.func51] at h;cases h;kernel_rfl
theorem bo52:∀ fn,Tryz.prog.funcs[52]?=some fn→fn.body.isNone=false:=fun fn h=>by rw[Tryz.func52] at h;cases h;kernel_rfl
theorem Ku:∀ fn,Tryz.prog.funcs[53]?=some fn→fn.body.isNone=false:=fun fn h=>by rw[Tryz.func53] at h;cases h;kernel_rfl
theorem bo54:∀ fn,Tryz.prog.funcs[54]?=some fn→fn.body.isNone=false:=fun fn h=>by rw[Tryz.func54] at h;cases h;kernel_rfl
theorem bo55:∀ fn,Tryz.prog.funcs[55]?=some fn→fn.body.isNone=false:=fun fn h=>by rw[Tryz.func55] at h;cases h;kernel_rfl
theorem Kv:∀ fn,Tryz.prog.funcs[59]?=some fn→fn.body.isNone=false:=fun fn h=>by rw[Tryz.func59] at h;cases h;kernel_rfl
theorem bo60:∀ fn,Tryz.prog.funcs[60]?=some fn→fn.body.isNone=false:=fun fn h=>by rw[Tryz.func60] at h;cases h;kernel_rfl
theorem Dh:∀ x∈known,Ran Tryz.prog x:=by
 unfold known
 simp only[List.forall_mem_cons]
 exact⟨Ran.of mixed dB dh bQ bo51 r0,Ran.of mixed dB dh bQ bo52 r1,Ran.of mixed dB dh bQ bo22 r2,Ran.of mixed dB dh bQ bo23 r3,Ran.of mixed dB dh bQ bo16 r4,Ran.of mixed dB dh bQ Kt r5,Ran.of mixed dB dh bQ Kt r6,Ran.of mixed dB dh bQ bo8 r7,Ran.of mixed dB dh bQ Ku r8,Ran.of mixed dB dh bQ Ku r9,Ran.of mixed dB dh bQ bo54 r10,Ran.of mixed dB dh bQ bo55 r11,Ran.of mixed dB dh bQ bo37 r12,Ran.of mixed dB dh bQ bo34 r13,Ran.of mixed dB dh bQ bo35 r14,Ran.of mixed dB dh bQ Kv r15,Ran.of mixed dB dh bQ bo60 r16,Ran.of mixed dB dh bQ Kv r17,fun x h=>by cases h⟩
theorem Cs:Ran Tryz.prog (6,[],.bool true):=Ran.of (E:=zC E known) mixed dB dh (Fe bQ Dh) bo6 aw
end Go.Sx.Seat
