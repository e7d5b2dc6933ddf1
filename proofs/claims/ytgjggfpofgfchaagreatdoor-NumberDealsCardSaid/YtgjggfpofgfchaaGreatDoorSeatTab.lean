import Derived.Test.YtgjggfpofgfchaaGreatDoorProg
import Derived.KernelRfl
import Derived.Test.YtgjggfpofgfchaaGreatDoorPr
import Derived.Test.YtgjggfpofgfchaaGreatDoorGlobTab
set_option linter.unusedSectionVars false
set_option linter.unusedVariables false
set_option linter.unusedSimpArgs false
namespace Go.Sx.Seat
open Go Go.Proofs
noncomputable def t0 : TyI := { agg := false, size := 1, bytes := 0, zero := [.dead], kind := .other, flds := [], elem := 0, len := 0, ik := .i64, fk := .f64, eqok := true }
noncomputable def t1 : TyI := { agg := false, size := 1, bytes := 8, zero := [.nilf], kind := .func, flds := [], elem := 0, len := 0, ik := .i64, fk := .f64, eqok := true }
noncomputable def t2 : TyI := { agg := false, size := 1, bytes := 8, zero := [.int .i64 0], kind := .int, flds := [], elem := 0, len := 0, ik := .i64, fk := .f64, eqok := true }
noncomputable def t3 : TyI := { agg := false, size := 1, bytes := 8, zero := [.int .i64 0], kind := .int, flds := [], elem := 0, len := 0, ik := .i64, fk := .f64, eqok := true }
noncomputable def t4 : TyI := { agg := false, size := 1, bytes := 1, zero := [.bool false], kind := .bool, flds := [], elem := 0, len := 0, ik := .i64, fk := .f64, eqok := true }
noncomputable def t5 : TyI := { agg := false, size := 1, bytes := 1, zero := [.int .u8 0], kind := .int, flds := [], elem := 0, len := 0, ik := .u8, fk := .f64, eqok := true }
noncomputable def t6 : TyI := { agg := false, size := 1, bytes := 1, zero := [.int .u8 0], kind := .int, flds := [], elem := 0, len := 0, ik := .u8, fk := .f64, eqok := true }
noncomputable def t7 : TyI := { agg := true, size := 4, bytes := 24, zero := [.int .i64 0, .int .i64 0, .bool false, .int .u8 0], kind := .struct, flds := [(0, (2, (1, false))), (1, (3, (1, false))), (2, (4, (1, false))), (3, (6, (1, false)))], elem := 0, len := 0, ik := .i64, fk := .f64, eqok := true }
noncomputable def t8 : TyI := { agg := true, size := 4, bytes := 24, zero := [.int .i64 0, .int .i64 0, .bool false, .int .u8 0], kind := .struct, flds := [(0, (2, (1, false))), (1, (3, (1, false))), (2, (4, (1, false))), (3, (6, (1, false)))], elem := 0, len := 0, ik := .i64, fk := .f64, eqok := true }
noncomputable def t9 : TyI := { agg := false, size := 1, bytes := 16, zero := [.str []], kind := .string, flds := [], elem := 0, len := 0, ik := .i64, fk := .f64, eqok := true }
noncomputable def t10 : TyI := { agg := false, size := 1, bytes := 16, zero := [.str []], kind := .string, flds := [], elem := 0, len := 0, ik := .i64, fk := .f64, eqok := true }
noncomputable def t11 : TyI := { agg := false, size := 1, bytes := 16, zero := [.str []], kind := .string, flds := [], elem := 0, len := 0, ik := .i64, fk := .f64, eqok := true }
noncomputable def t12 : TyI := { agg := false, size := 1, bytes := 8, zero := [.int .u64 0], kind := .int, flds := [], elem := 0, len := 0, ik := .u64, fk := .f64, eqok := true }
noncomputable def t13 : TyI := { agg := true, size := 2, bytes := 24, zero := [.str [], .int .u64 0], kind := .struct, flds := [(0, (9, (1, false))), (1, (12, (1, false)))], elem := 0, len := 0, ik := .i64, fk := .f64, eqok := false }
noncomputable def t14 : TyI := { agg := true, size := 2, bytes := 24, zero := [.str [], .int .u64 0], kind := .struct, flds := [(0, (9, (1, false))), (1, (12, (1, false)))], elem := 0, len := 0, ik := .i64, fk := .f64, eqok := false }
noncomputable def t15 : TyI := { agg := false, size := 1, bytes := 8, zero := [.nilp], kind := .pointer, flds := [], elem := 258, len := 0, ik := .i64, fk := .f64, eqok := true }
noncomputable def t16 : TyI := { agg := false, size := 1, bytes := 8, zero := [.nilp], kind := .pointer, flds := [], elem := 261, len := 0, ik := .i64, fk := .f64, eqok := true }
noncomputable def t17 : TyI := { agg := false, size := 1, bytes := 8, zero := [.nilp], kind := .pointer, flds := [], elem := 268, len := 0, ik := .i64, fk := .f64, eqok := true }
noncomputable def t18 : TyI := { agg := true, size := 1, bytes := 8, zero := [.nilp], kind := .struct, flds := [(0, (17, (1, false)))], elem := 0, len := 0, ik := .i64, fk := .f64, eqok := false }
noncomputable def t19 : TyI := { agg := true, size := 1, bytes := 8, zero := [.nilp], kind := .struct, flds := [(0, (17, (1, false)))], elem := 0, len := 0, ik := .i64, fk := .f64, eqok := false }
noncomputable def t20 : TyI := { agg := false, size := 1, bytes := 16, zero := [.dead], kind := .other, flds := [], elem := 0, len := 0, ik := .i64, fk := .f64, eqok := true }
noncomputable def t21 : TyI := { agg := false, size := 1, bytes := 4, zero := [.int .i32 0], kind := .int, flds := [], elem := 0, len := 0, ik := .i32, fk := .f64, eqok := true }
noncomputable def t22 : TyI := { agg := false, size := 1, bytes := 8, zero := [.nilf], kind := .func, flds := [], elem := 0, len := 0, ik := .i64, fk := .f64, eqok := true }
noncomputable def t23 : TyI := { agg := false, size := 1, bytes := 24, zero := [.nils], kind := .slice, flds := [], elem := 3, len := 0, ik := .i64, fk := .f64, eqok := true }
noncomputable def t24 : TyI := { agg := false, size := 1, bytes := 8, zero := [.int .i64 0], kind := .int, flds := [], elem := 0, len := 0, ik := .i64, fk := .f64, eqok := true }
noncomputable def t25 : TyI := { agg := false, size := 1, bytes := 0, zero := [.dead], kind := .other, flds := [], elem := 0, len := 0, ik := .i64, fk := .f64, eqok := true }
noncomputable def t26 : TyI := { agg := false, size := 1, bytes := 8, zero := [.nilf], kind := .func, flds := [], elem := 0, len := 0, ik := .i64, fk := .f64, eqok := true }
noncomputable def t27 : TyI := { agg := false, size := 1, bytes := 8, zero := [.nilf], kind := .func, flds := [], elem := 0, len := 0, ik := .i64, fk := .f64, eqok := true }
noncomputable def t28 : TyI := { agg := false, size := 1, bytes := 8, zero := [.nilf], kind := .func, flds := [], elem := 0, len := 0, ik := .i64, fk := .f64, eqok := true }
noncomputable def t29 : TyI := { agg := false, size := 1, bytes := 8, zero := [.nilf], kind := .func, flds := [], elem := 0, len := 0, ik := .i64, fk := .f64, eqok := true }
noncomputable def t30 : TyI := { agg := false, size := 1, bytes := 8, zero := [.nilf], kind := .func, flds := [], elem := 0, len := 0, ik := .i64, fk := .f64, eqok := true }
noncomputable def t31 : TyI := { agg := false, size := 1, bytes := 8, zero := [.nilf], kind := .func, flds := [], elem := 0, len := 0, ik := .i64, fk := .f64, eqok := true }
noncomputable def t32 : TyI := { agg := false, size := 1, bytes := 16, zero := [.str []], kind := .string, flds := [], elem := 0, len := 0, ik := .i64, fk := .f64, eqok := true }
noncomputable def t33 : TyI := { agg := false, size := 1, bytes := 0, zero := [.dead], kind := .other, flds := [], elem := 0, len := 0, ik := .i64, fk := .f64, eqok := true }
noncomputable def t34 : TyI := { agg := false, size := 1, bytes := 8, zero := [.nilf], kind := .func, flds := [], elem := 0, len := 0, ik := .i64, fk := .f64, eqok := true }
noncomputable def t35 : TyI := { agg := false, size := 1, bytes := 8, zero := [.nilf], kind := .func, flds := [], elem := 0, len := 0, ik := .i64, fk := .f64, eqok := true }
noncomputable def t36 : TyI := { agg := true, size := 2, bytes := 32, zero := [.str [], .str []], kind := .struct, flds := [(0, (32, (1, false))), (1, (32, (1, false)))], elem := 0, len := 0, ik := .i64, fk := .f64, eqok := true }
noncomputable def t37 : TyI := { agg := true, size := 2, bytes := 32, zero := [.str [], .str []], kind := .struct, flds := [(0, (32, (1, false))), (1, (32, (1, false)))], elem := 0, len := 0, ik := .i64, fk := .f64, eqok := true }
noncomputable def t38 : TyI := { agg := false, size := 1, bytes := 0, zero := [.dead], kind := .other, flds := [], elem := 0, len := 0, ik := .i64, fk := .f64, eqok := true }
noncomputable def t39 : TyI := { agg := false, size := 1, bytes := 8, zero := [.nilf], kind := .func, flds := [], elem := 0, len := 0, ik := .i64, fk := .f64, eqok := true }
noncomputable def t40 : TyI := { agg := false, size := 1, bytes := 8, zero := [.nilf], kind := .func, flds := [], elem := 0, len := 0, ik := .i64, fk := .f64, eqok := true }
noncomputable def t41 : TyI := { agg := false, size := 1, bytes := 8, zero := [.nilf], kind := .func, flds := [], elem := 0, len := 0, ik := .i64, fk := .f64, eqok := true }
noncomputable def t42 : TyI := { agg := false, size := 1, bytes := 0, zero := [.dead], kind := .other, flds := [], elem := 0, len := 0, ik := .i64, fk := .f64, eqok := true }
noncomputable def t43 : TyI := { agg := false, size := 1, bytes := 8, zero := [.nilf], kind := .func, flds := [], elem := 0, len := 0, ik := .i64, fk := .f64, eqok := true }
noncomputable def t44 : TyI := { agg := false, size := 1, bytes := 8, zero := [.nilf], kind := .func, flds := [], elem := 0, len := 0, ik := .i64, fk := .f64, eqok := true }
noncomputable def t45 : TyI := { agg := true, size := 4, bytes := 64, zero := [.str [], .str [], .str [], .str []], kind := .struct, flds := [(0, (37, (2, true))), (2, (37, (2, true)))], elem := 0, len := 0, ik := .i64, fk := .f64, eqok := true }
noncomputable def t46 : TyI := { agg := true, size := 4, bytes := 64, zero := [.str [], .str [], .str [], .str []], kind := .struct, flds := [(0, (37, (2, true))), (2, (37, (2, true)))], elem := 0, len := 0, ik := .i64, fk := .f64, eqok := true }
noncomputable def t47 : TyI := { agg := false, size := 1, bytes := 0, zero := [.dead], kind := .other, flds := [], elem := 0, len := 0, ik := .i64, fk := .f64, eqok := true }
noncomputable def t48 : TyI := { agg := false, size := 1, bytes := 8, zero := [.nilf], kind := .func, flds := [], elem := 0, len := 0, ik := .i64, fk := .f64, eqok := true }
noncomputable def t49 : TyI := { agg := false, size := 1, bytes := 8, zero := [.nilf], kind := .func, flds := [], elem := 0, len := 0, ik := .i64, fk := .f64, eqok := true }
noncomputable def t50 : TyI := { agg := false, size := 1, bytes := 8, zero := [.nilf], kind := .func, flds := [], elem := 0, len := 0, ik := .i64, fk := .f64, eqok := true }
noncomputable def t51 : TyI := { agg := false, size := 1, bytes := 8, zero := [.nilf], kind := .func, flds := [], elem := 0, len := 0, ik := .i64, fk := .f64, eqok := true }
noncomputable def t52 : TyI := { agg := false, size := 1, bytes := 8, zero := [.nilf], kind := .func, flds := [], elem := 0, len := 0, ik := .i64, fk := .f64, eqok := true }
noncomputable def t53 : TyI := { agg := false, size := 1, bytes := 24, zero := [.nils], kind := .slice, flds := [], elem := 56, len := 0, ik := .i64, fk := .f64, eqok := true }
noncomputable def t54 : TyI := { agg := false, size := 1, bytes := 0, zero := [.dead], kind := .other, flds := [], elem := 0, len := 0, ik := .i64, fk := .f64, eqok := true }
noncomputable def t55 : TyI := { agg := false, size := 1, bytes := 8, zero := [.nilf], kind := .func, flds := [], elem := 0, len := 0, ik := .i64, fk := .f64, eqok := true }
noncomputable def t56 : TyI := { agg := false, size := 1, bytes := 24, zero := [.nils], kind := .slice, flds := [], elem := 32, len := 0, ik := .i64, fk := .f64, eqok := true }
noncomputable def t57 : TyI := { agg := false, size := 1, bytes := 0, zero := [.dead], kind := .other, flds := [], elem := 0, len := 0, ik := .i64, fk := .f64, eqok := true }
noncomputable def t58 : TyI := { agg := false, size := 1, bytes := 8, zero := [.nilf], kind := .func, flds := [], elem := 0, len := 0, ik := .i64, fk := .f64, eqok := true }
noncomputable def t59 : TyI := { agg := false, size := 1, bytes := 4, zero := [.float .f32 0], kind := .float, flds := [], elem := 0, len := 0, ik := .i64, fk := .f32, eqok := true }
noncomputable def t60 : TyI := { agg := false, size := 1, bytes := 0, zero := [.dead], kind := .other, flds := [], elem := 0, len := 0, ik := .i64, fk := .f64, eqok := true }
noncomputable def t61 : TyI := { agg := false, size := 1, bytes := 8, zero := [.nilf], kind := .func, flds := [], elem := 0, len := 0, ik := .i64, fk := .f64, eqok := true }
noncomputable def t62 : TyI := { agg := false, size := 1, bytes := 8, zero := [.nilf], kind := .func, flds := [], elem := 0, len := 0, ik := .i64, fk := .f64, eqok := true }
noncomputable def t63 : TyI := { agg := false, size := 1, bytes := 8, zero := [.nilf], kind := .func, flds := [], elem := 0, len := 0, ik := .i64, fk := .f64, eqok := true }
noncomputable def t64 : TyI := { agg := false, size := 1, bytes := 8, zero := [.nilf], kind := .func, flds := [], elem := 0, len := 0, ik := .i64, fk := .f64, eqok := true }
noncomputable def t65 : TyI := { agg := false, size := 1, bytes := 8, zero := [.nilf], kind := .func, flds := [], elem := 0, len := 0, ik := .i64, fk := .f64, eqok := true }
noncomputable def t66 : TyI := { agg := false, size := 1, bytes := 8, zero := [.nilf], kind := .func, flds := [], elem := 0, len := 0, ik := .i64, fk := .f64, eqok := true }
noncomputable def t67 : TyI := { agg := false, size := 1, bytes := 8, zero := [.nilf], kind := .func, flds := [], elem := 0, len := 0, ik := .i64, fk := .f64, eqok := true }
noncomputable def t68 : TyI := { agg := false, size := 1, bytes := 8, zero := [.nilf], kind := .func, flds := [], elem := 0, len := 0, ik := .i64, fk := .f64, eqok := true }
noncomputable def t69 : TyI := { agg := false, size := 1, bytes := 24, zero := [.nils], kind := .slice, flds := [], elem := 178, len := 0, ik := .i64, fk := .f64, eqok := true }
noncomputable def t70 : TyI := { agg := true, size := 2, bytes := 32, zero := [.bool false, .nils], kind := .struct, flds := [(0, (4, (1, false))), (1, (69, (1, false)))], elem := 0, len := 0, ik := .i64, fk := .f64, eqok := true }
noncomputable def t71 : TyI := { agg := true, size := 2, bytes := 32, zero := [.bool false, .nils], kind := .struct, flds := [(0, (4, (1, false))), (1, (69, (1, false)))], elem := 0, len := 0, ik := .i64, fk := .f64, eqok := true }
noncomputable def t72 : TyI := { agg := true, size := 4, bytes := 64, zero := [.bool false, .nils, .bool false, .nils], kind := .struct, flds := [(0, (71, (2, true))), (2, (71, (2, true)))], elem := 0, len := 0, ik := .i64, fk := .f64, eqok := true }
noncomputable def t73 : TyI := { agg := true, size := 4, bytes := 64, zero := [.bool false, .nils, .bool false, .nils], kind := .struct, flds := [(0, (71, (2, true))), (2, (71, (2, true)))], elem := 0, len := 0, ik := .i64, fk := .f64, eqok := true }
noncomputable def t74 : TyI := { agg := false, size := 1, bytes := 8, zero := [.nilf], kind := .func, flds := [], elem := 0, len := 0, ik := .i64, fk := .f64, eqok := true }
noncomputable def t75 : TyI := { agg := false, size := 1, bytes := 8, zero := [.nilf], kind := .func, flds := [], elem := 0, len := 0, ik := .i64, fk := .f64, eqok := true }
noncomputable def t76 : TyI := { agg := false, size := 1, bytes := 0, zero := [.dead], kind := .other, flds := [], elem := 0, len := 0, ik := .i64, fk := .f64, eqok := true }
noncomputable def t77 : TyI := { agg := false, size := 1, bytes := 8, zero := [.nilf], kind := .func, flds := [], elem := 0, len := 0, ik := .i64, fk := .f64, eqok := true }
noncomputable def t78 : TyI := { agg := false, size := 1, bytes := 8, zero := [.nilf], kind := .func, flds := [], elem := 0, len := 0, ik := .i64, fk := .f64, eqok := true }
noncomputable def t79 : TyI := { agg := false, size := 1, bytes := 8, zero := [.nilf], kind := .func, flds := [], elem := 0, len := 0, ik := .i64, fk := .f64, eqok := true }
noncomputable def t80 : TyI := { agg := false, size := 1, bytes := 8, zero := [.nilf], kind := .func, flds := [], elem := 0, len := 0, ik := .i64, fk := .f64, eqok := true }
noncomputable def t81 : TyI := { agg := false, size := 1, bytes := 8, zero := [.nilf], kind := .func, flds := [], elem := 0, len := 0, ik := .i64, fk := .f64, eqok := true }
noncomputable def t82 : TyI := { agg := false, size := 1, bytes := 8, zero := [.nilf], kind := .func, flds := [], elem := 0, len := 0, ik := .i64, fk := .f64, eqok := true }
noncomputable def t83 : TyI := { agg := true, size := 8, bytes := 128, zero := [.bool false, .nils, .bool false, .nils, .bool false, .nils, .bool false, .nils], kind := .struct, flds := [(0, (73, (4, true))), (4, (73, (4, true)))], elem := 0, len := 0, ik := .i64, fk := .f64, eqok := true }
noncomputable def t84 : TyI := { agg := true, size := 8, bytes := 128, zero := [.bool false, .nils, .bool false, .nils, .bool false, .nils, .bool false, .nils], kind := .struct, flds := [(0, (73, (4, true))), (4, (73, (4, true)))], elem := 0, len := 0, ik := .i64, fk := .f64, eqok := true }
noncomputable def t85 : TyI := { agg := false, size := 1, bytes := 0, zero := [.dead], kind := .other, flds := [], elem := 0, len := 0, ik := .i64, fk := .f64, eqok := true }
noncomputable def t86 : TyI := { agg := false, size := 1, bytes := 8, zero := [.nilf], kind := .func, flds := [], elem := 0, len := 0, ik := .i64, fk := .f64, eqok := true }
noncomputable def t87 : TyI := { agg := false, size := 1, bytes := 8, zero := [.nilf], kind := .func, flds := [], elem := 0, len := 0, ik := .i64, fk := .f64, eqok := true }
noncomputable def t88 : TyI := { agg := false, size := 1, bytes := 0, zero := [.dead], kind := .other, flds := [], elem := 0, len := 0, ik := .i64, fk := .f64, eqok := true }
noncomputable def t89 : TyI := { agg := false, size := 1, bytes := 8, zero := [.nilf], kind := .func, flds := [], elem := 0, len := 0, ik := .i64, fk := .f64, eqok := true }
noncomputable def t90 : TyI := { agg := false, size := 1, bytes := 8, zero := [.nilf], kind := .func, flds := [], elem := 0, len := 0, ik := .i64, fk := .f64, eqok := true }
noncomputable def t91 : TyI := { agg := false, size := 1, bytes := 8, zero := [.nilf], kind := .func, flds := [], elem := 0, len := 0, ik := .i64, fk := .f64, eqok := true }
noncomputable def t92 : TyI := { agg := false, size := 1, bytes := 8, zero := [.nilf], kind := .func, flds := [], elem := 0, len := 0, ik := .i64, fk := .f64, eqok := true }
noncomputable def t93 : TyI := { agg := false, size := 1, bytes := 8, zero := [.nilf], kind := .func, flds := [], elem := 0, len := 0, ik := .i64, fk := .f64, eqok := true }
noncomputable def t94 : TyI := { agg := false, size := 1, bytes := 8, zero := [.nilf], kind := .func, flds := [], elem := 0, len := 0, ik := .i64, fk := .f64, eqok := true }
noncomputable def t95 : TyI := { agg := false, size := 1, bytes := 8, zero := [.nilf], kind := .func, flds := [], elem := 0, len := 0, ik := .i64, fk := .f64, eqok := true }
noncomputable def t96 : TyI := { agg := false, size := 1, bytes := 8, zero := [.nilf], kind := .func, flds := [], elem := 0, len := 0, ik := .i64, fk := .f64, eqok := true }
noncomputable def t97 : TyI := { agg := false, size := 1, bytes := 8, zero := [.nilf], kind := .func, flds := [], elem := 0, len := 0, ik := .i64, fk := .f64, eqok := true }
noncomputable def t98 : TyI := { agg := false, size := 1, bytes := 8, zero := [.nilf], kind := .func, flds := [], elem := 0, len := 0, ik := .i64, fk := .f64, eqok := true }
noncomputable def t99 : TyI := { agg := false, size := 1, bytes := 8, zero := [.nilf], kind := .func, flds := [], elem := 0, len := 0, ik := .i64, fk := .f64, eqok := true }
noncomputable def t100 : TyI := { agg := false, size := 1, bytes := 8, zero := [.nilf], kind := .func, flds := [], elem := 0, len := 0, ik := .i64, fk := .f64, eqok := true }
noncomputable def t101 : TyI := { agg := false, size := 1, bytes := 8, zero := [.nilf], kind := .func, flds := [], elem := 0, len := 0, ik := .i64, fk := .f64, eqok := true }
noncomputable def t102 : TyI := { agg := false, size := 1, bytes := 8, zero := [.nilf], kind := .func, flds := [], elem := 0, len := 0, ik := .i64, fk := .f64, eqok := true }
noncomputable def t103 : TyI := { agg := false, size := 1, bytes := 8, zero := [.nilf], kind := .func, flds := [], elem := 0, len := 0, ik := .i64, fk := .f64, eqok := true }
noncomputable def t104 : TyI := { agg := false, size := 1, bytes := 8, zero := [.nilf], kind := .func, flds := [], elem := 0, len := 0, ik := .i64, fk := .f64, eqok := true }
noncomputable def t105 : TyI := { agg := true, size := 16, bytes := 256, zero := [.bool false, .nils, .bool false, .nils, .bool false, .nils, .bool false, .nils, .bool false, .nils, .bool false, .nils, .bool false, .nils, .bool false, .nils], kind := .struct, flds := [(0, (84, (8, true))), (8, (84, (8, true)))], elem := 0, len := 0, ik := .i64, fk := .f64, eqok := true }
noncomputable def t106 : TyI := { agg := true, size := 16, bytes := 256, zero := [.bool false, .nils, .bool false, .nils, .bool false, .nils, .bool false, .nils, .bool false, .nils, .bool false, .nils, .bool false, .nils, .bool false, .nils], kind := .struct, flds := [(0, (84, (8, true))), (8, (84, (8, true)))], elem := 0, len := 0, ik := .i64, fk := .f64, eqok := true }
noncomputable def t107 : TyI := { agg := false, size := 1, bytes := 8, zero := [.nilf], kind := .func, flds := [], elem := 0, len := 0, ik := .i64, fk := .f64, eqok := true }
noncomputable def t108 : TyI := { agg := false, size := 1, bytes := 0, zero := [.dead], kind := .other, flds := [], elem := 0, len := 0, ik := .i64, fk := .f64, eqok := true }
noncomputable def t109 : TyI := { agg := false, size := 1, bytes := 8, zero := [.nilf], kind := .func, flds := [], elem := 0, len := 0, ik := .i64, fk := .f64, eqok := true }
noncomputable def t110 : TyI := { agg := false, size := 1, bytes := 8, zero := [.nilf], kind := .func, flds := [], elem := 0, len := 0, ik := .i64, fk := .f64, eqok := true }
noncomputable def t111 : TyI := { agg := false, size := 1, bytes := 8, zero := [.nilf], kind := .func, flds := [], elem := 0, len := 0, ik := .i64, fk := .f64, eqok := true }
noncomputable def t112 : TyI := { agg := false, size := 1, bytes := 24, zero := [.nils], kind := .slice, flds := [], elem := 115, len := 0, ik := .i64, fk := .f64, eqok := true }
noncomputable def t113 : TyI := { agg := false, size := 1, bytes := 0, zero := [.dead], kind := .other, flds := [], elem := 0, len := 0, ik := .i64, fk := .f64, eqok := true }
noncomputable def t114 : TyI := { agg := false, size := 1, bytes := 8, zero := [.nilf], kind := .func, flds := [], elem := 0, len := 0, ik := .i64, fk := .f64, eqok := true }
noncomputable def t115 : TyI := { agg := false, size := 1, bytes := 24, zero := [.nils], kind := .slice, flds := [], elem := 73, len := 0, ik := .i64, fk := .f64, eqok := true }
noncomputable def t116 : TyI := { agg := false, size := 1, bytes := 8, zero := [.nilf], kind := .func, flds := [], elem := 0, len := 0, ik := .i64, fk := .f64, eqok := true }
noncomputable def t117 : TyI := { agg := false, size := 1, bytes := 8, zero := [.nilf], kind := .func, flds := [], elem := 0, len := 0, ik := .i64, fk := .f64, eqok := true }
noncomputable def t118 : TyI := { agg := false, size := 1, bytes := 8, zero := [.nilf], kind := .func, flds := [], elem := 0, len := 0, ik := .i64, fk := .f64, eqok := true }
noncomputable def t119 : TyI := { agg := false, size := 1, bytes := 8, zero := [.nilf], kind := .func, flds := [], elem := 0, len := 0, ik := .i64, fk := .f64, eqok := true }
noncomputable def t120 : TyI := { agg := false, size := 1, bytes := 8, zero := [.nilf], kind := .func, flds := [], elem := 0, len := 0, ik := .i64, fk := .f64, eqok := true }
noncomputable def t121 : TyI := { agg := false, size := 1, bytes := 8, zero := [.nilf], kind := .func, flds := [], elem := 0, len := 0, ik := .i64, fk := .f64, eqok := true }
noncomputable def t122 : TyI := { agg := false, size := 1, bytes := 0, zero := [.dead], kind := .other, flds := [], elem := 0, len := 0, ik := .i64, fk := .f64, eqok := true }
noncomputable def t123 : TyI := { agg := false, size := 1, bytes := 8, zero := [.nilf], kind := .func, flds := [], elem := 0, len := 0, ik := .i64, fk := .f64, eqok := true }
noncomputable def t124 : TyI := { agg := false, size := 1, bytes := 0, zero := [.dead], kind := .other, flds := [], elem := 0, len := 0, ik := .i64, fk := .f64, eqok := true }
noncomputable def t125 : TyI := { agg := false, size := 1, bytes := 8, zero := [.nilf], kind := .func, flds := [], elem := 0, len := 0, ik := .i64, fk := .f64, eqok := true }
noncomputable def t126 : TyI := { agg := false, size := 1, bytes := 8, zero := [.nilf], kind := .func, flds := [], elem := 0, len := 0, ik := .i64, fk := .f64, eqok := true }
noncomputable def t127 : TyI := { agg := false, size := 1, bytes := 0, zero := [.dead], kind := .other, flds := [], elem := 0, len := 0, ik := .i64, fk := .f64, eqok := true }
noncomputable def t128 : TyI := { agg := false, size := 1, bytes := 8, zero := [.nilf], kind := .func, flds := [], elem := 0, len := 0, ik := .i64, fk := .f64, eqok := true }
noncomputable def t129 : TyI := { agg := false, size := 1, bytes := 24, zero := [.nils], kind := .slice, flds := [], elem := 174, len := 0, ik := .i64, fk := .f64, eqok := true }
noncomputable def t130 : TyI := { agg := true, size := 4, bytes := 80, zero := [.nils, .bool false, .nils, .nils], kind := .struct, flds := [(0, (129, (1, false))), (1, (71, (2, true))), (3, (23, (1, false)))], elem := 0, len := 0, ik := .i64, fk := .f64, eqok := true }
noncomputable def t131 : TyI := { agg := true, size := 4, bytes := 80, zero := [.nils, .bool false, .nils, .nils], kind := .struct, flds := [(0, (129, (1, false))), (1, (71, (2, true))), (3, (23, (1, false)))], elem := 0, len := 0, ik := .i64, fk := .f64, eqok := true }
noncomputable def t132 : TyI := { agg := false, size := 1, bytes := 8, zero := [.nilf], kind := .func, flds := [], elem := 0, len := 0, ik := .i64, fk := .f64, eqok := true }
noncomputable def t133 : TyI := { agg := false, size := 1, bytes := 8, zero := [.nilf], kind := .func, flds := [], elem := 0, len := 0, ik := .i64, fk := .f64, eqok := true }
noncomputable def t134 : TyI := { agg := false, size := 1, bytes := 0, zero := [.dead], kind := .other, flds := [], elem := 0, len := 0, ik := .i64, fk := .f64, eqok := true }
noncomputable def t135 : TyI := { agg := false, size := 1, bytes := 8, zero := [.nilf], kind := .func, flds := [], elem := 0, len := 0, ik := .i64, fk := .f64, eqok := true }
noncomputable def t136 : TyI := { agg := false, size := 1, bytes := 0, zero := [.dead], kind := .other, flds := [], elem := 0, len := 0, ik := .i64, fk := .f64, eqok := true }
noncomputable def t137 : TyI := { agg := false, size := 1, bytes := 8, zero := [.nilf], kind := .func, flds := [], elem := 0, len := 0, ik := .i64, fk := .f64, eqok := true }
noncomputable def t138 : TyI := { agg := false, size := 1, bytes := 8, zero := [.nilf], kind := .func, flds := [], elem := 0, len := 0, ik := .i64, fk := .f64, eqok := true }
noncomputable def t139 : TyI := { agg := false, size := 1, bytes := 8, zero := [.nilf], kind := .func, flds := [], elem := 0, len := 0, ik := .i64, fk := .f64, eqok := true }
noncomputable def t140 : TyI := { agg := false, size := 1, bytes := 0, zero := [.dead], kind := .other, flds := [], elem := 0, len := 0, ik := .i64, fk := .f64, eqok := true }
noncomputable def t141 : TyI := { agg := false, size := 1, bytes := 8, zero := [.nilf], kind := .func, flds := [], elem := 0, len := 0, ik := .i64, fk := .f64, eqok := true }
noncomputable def t142 : TyI := { agg := false, size := 1, bytes := 8, zero := [.nilf], kind := .func, flds := [], elem := 0, len := 0, ik := .i64, fk := .f64, eqok := true }
noncomputable def t143 : TyI := { agg := false, size := 1, bytes := 8, zero := [.nilf], kind := .func, flds := [], elem := 0, len := 0, ik := .i64, fk := .f64, eqok := true }
noncomputable def t144 : TyI := { agg := false, size := 1, bytes := 8, zero := [.nilf], kind := .func, flds := [], elem := 0, len := 0, ik := .i64, fk := .f64, eqok := true }
noncomputable def t145 : TyI := { agg := false, size := 1, bytes := 0, zero := [.dead], kind := .other, flds := [], elem := 0, len := 0, ik := .i64, fk := .f64, eqok := true }
noncomputable def t146 : TyI := { agg := false, size := 1, bytes := 8, zero := [.nilf], kind := .func, flds := [], elem := 0, len := 0, ik := .i64, fk := .f64, eqok := true }
noncomputable def t147 : TyI := { agg := false, size := 1, bytes := 8, zero := [.nilf], kind := .func, flds := [], elem := 0, len := 0, ik := .i64, fk := .f64, eqok := true }
noncomputable def t148 : TyI := { agg := false, size := 1, bytes := 24, zero := [.nils], kind := .slice, flds := [], elem := 24, len := 0, ik := .i64, fk := .f64, eqok := true }
noncomputable def t149 : TyI := { agg := false, size := 1, bytes := 8, zero := [.nilf], kind := .func, flds := [], elem := 0, len := 0, ik := .i64, fk := .f64, eqok := true }
noncomputable def t150 : TyI := { agg := false, size := 1, bytes := 8, zero := [.nilf], kind := .func, flds := [], elem := 0, len := 0, ik := .i64, fk := .f64, eqok := true }
noncomputable def t151 : TyI := { agg := false, size := 1, bytes := 0, zero := [.dead], kind := .other, flds := [], elem := 0, len := 0, ik := .i64, fk := .f64, eqok := true }
noncomputable def t152 : TyI := { agg := false, size := 1, bytes := 8, zero := [.nilf], kind := .func, flds := [], elem := 0, len := 0, ik := .i64, fk := .f64, eqok := true }
noncomputable def t153 : TyI := { agg := false, size := 1, bytes := 0, zero := [.dead], kind := .other, flds := [], elem := 0, len := 0, ik := .i64, fk := .f64, eqok := true }
noncomputable def t154 : TyI := { agg := false, size := 1, bytes := 8, zero := [.nilf], kind := .func, flds := [], elem := 0, len := 0, ik := .i64, fk := .f64, eqok := true }
noncomputable def t155 : TyI := { agg := true, size := 4, bytes := 32, zero := [.int .i64 0, .int .i64 0, .int .i64 0, .int .i64 0], kind := .array, flds := [], elem := 3, len := 4, ik := .i64, fk := .f64, eqok := true }
noncomputable def t156 : TyI := { agg := true, size := 4, bytes := 64, zero := [.bool false, .nils, .bool false, .nils], kind := .struct, flds := [(0, (71, (2, true))), (2, (71, (2, true)))], elem := 0, len := 0, ik := .i64, fk := .f64, eqok := true }
noncomputable def t157 : TyI := { agg := true, size := 4, bytes := 64, zero := [.bool false, .nils, .bool false, .nils], kind := .struct, flds := [(0, (71, (2, true))), (2, (71, (2, true)))], elem := 0, len := 0, ik := .i64, fk := .f64, eqok := true }
noncomputable def t158 : TyI := { agg := false, size := 1, bytes := 8, zero := [.nilf], kind := .func, flds := [], elem := 0, len := 0, ik := .i64, fk := .f64, eqok := true }
noncomputable def t159 : TyI := { agg := false, size := 1, bytes := 8, zero := [.nilf], kind := .func, flds := [], elem := 0, len := 0, ik := .i64, fk := .f64, eqok := true }
noncomputable def t160 : TyI := { agg := false, size := 1, bytes := 8, zero := [.nilf], kind := .func, flds := [], elem := 0, len := 0, ik := .i64, fk := .f64, eqok := true }
noncomputable def t161 : TyI := { agg := false, size := 1, bytes := 8, zero := [.nilf], kind := .func, flds := [], elem := 0, len := 0, ik := .i64, fk := .f64, eqok := true }
noncomputable def t162 : TyI := { agg := false, size := 1, bytes := 8, zero := [.nilf], kind := .func, flds := [], elem := 0, len := 0, ik := .i64, fk := .f64, eqok := true }
noncomputable def t163 : TyI := { agg := false, size := 1, bytes := 0, zero := [.dead], kind := .other, flds := [], elem := 0, len := 0, ik := .i64, fk := .f64, eqok := true }
noncomputable def t164 : TyI := { agg := false, size := 1, bytes := 8, zero := [.nilf], kind := .func, flds := [], elem := 0, len := 0, ik := .i64, fk := .f64, eqok := true }
noncomputable def t165 : TyI := { agg := false, size := 1, bytes := 8, zero := [.nilf], kind := .func, flds := [], elem := 0, len := 0, ik := .i64, fk := .f64, eqok := true }
noncomputable def t166 : TyI := { agg := false, size := 1, bytes := 8, zero := [.nilf], kind := .func, flds := [], elem := 0, len := 0, ik := .i64, fk := .f64, eqok := true }
noncomputable def t167 : TyI := { agg := false, size := 1, bytes := 8, zero := [.float .f64 0], kind := .float, flds := [], elem := 0, len := 0, ik := .i64, fk := .f64, eqok := true }
noncomputable def t168 : TyI := { agg := false, size := 1, bytes := 8, zero := [.nilf], kind := .func, flds := [], elem := 0, len := 0, ik := .i64, fk := .f64, eqok := true }
noncomputable def t169 : TyI := { agg := false, size := 1, bytes := 4, zero := [.int .u32 0], kind := .int, flds := [], elem := 0, len := 0, ik := .u32, fk := .f64, eqok := true }
noncomputable def t170 : TyI := { agg := false, size := 1, bytes := 8, zero := [.nilf], kind := .func, flds := [], elem := 0, len := 0, ik := .i64, fk := .f64, eqok := true }
noncomputable def t171 : TyI := { agg := false, size := 1, bytes := 8, zero := [.int .u64 0], kind := .int, flds := [], elem := 0, len := 0, ik := .u64, fk := .f64, eqok := true }
noncomputable def t172 : TyI := { agg := false, size := 1, bytes := 8, zero := [.nilm], kind := .map, flds := [], elem := 3, len := 3, ik := .i64, fk := .f64, eqok := true }
noncomputable def t173 : TyI := { agg := false, size := 1, bytes := 0, zero := [.dead], kind := .other, flds := [], elem := 0, len := 0, ik := .i64, fk := .f64, eqok := true }
noncomputable def t174 : TyI := { agg := false, size := 1, bytes := 24, zero := [.nils], kind := .slice, flds := [], elem := 71, len := 0, ik := .i64, fk := .f64, eqok := true }
noncomputable def t175 : TyI := { agg := false, size := 1, bytes := 0, zero := [.dead], kind := .other, flds := [], elem := 0, len := 0, ik := .i64, fk := .f64, eqok := true }
noncomputable def t176 : TyI := { agg := false, size := 1, bytes := 8, zero := [.nilf], kind := .func, flds := [], elem := 0, len := 0, ik := .i64, fk := .f64, eqok := true }
noncomputable def t177 : TyI := { agg := false, size := 1, bytes := 8, zero := [.nilf], kind := .func, flds := [], elem := 0, len := 0, ik := .i64, fk := .f64, eqok := true }
noncomputable def t178 : TyI := { agg := false, size := 1, bytes := 8, zero := [.int .u64 0], kind := .int, flds := [], elem := 0, len := 0, ik := .u64, fk := .f64, eqok := true }
noncomputable def t179 : TyI := { agg := false, size := 1, bytes := 8, zero := [.nilf], kind := .func, flds := [], elem := 0, len := 0, ik := .i64, fk := .f64, eqok := true }
noncomputable def t180 : TyI := { agg := false, size := 1, bytes := 8, zero := [.nilf], kind := .func, flds := [], elem := 0, len := 0, ik := .i64, fk := .f64, eqok := true }
noncomputable def t181 : TyI := { agg := false, size := 1, bytes := 8, zero := [.nilf], kind := .func, flds := [], elem := 0, len := 0, ik := .i64, fk := .f64, eqok := true }
noncomputable def t182 : TyI := { agg := false, size := 1, bytes := 8, zero := [.nilf], kind := .func, flds := [], elem := 0, len := 0, ik := .i64, fk := .f64, eqok := true }
noncomputable def t183 : TyI := { agg := false, size := 1, bytes := 0, zero := [.dead], kind := .other, flds := [], elem := 0, len := 0, ik := .i64, fk := .f64, eqok := true }
noncomputable def t184 : TyI := { agg := false, size := 1, bytes := 8, zero := [.nilf], kind := .func, flds := [], elem := 0, len := 0, ik := .i64, fk := .f64, eqok := true }
noncomputable def t185 : TyI := { agg := false, size := 1, bytes := 0, zero := [.dead], kind := .other, flds := [], elem := 0, len := 0, ik := .i64, fk := .f64, eqok := true }
noncomputable def t186 : TyI := { agg := false, size := 1, bytes := 8, zero := [.nilf], kind := .func, flds := [], elem := 0, len := 0, ik := .i64, fk := .f64, eqok := true }
noncomputable def t187 : TyI := { agg := false, size := 1, bytes := 8, zero := [.nilf], kind := .func, flds := [], elem := 0, len := 0, ik := .i64, fk := .f64, eqok := true }
noncomputable def t188 : TyI := { agg := true, size := 12, bytes := 192, zero := [.bool false, .nils, .bool false, .nils, .bool false, .nils, .bool false, .nils, .bool false, .nils, .bool false, .nils], kind := .array, flds := [], elem := 73, len := 3, ik := .i64, fk := .f64, eqok := true }
noncomputable def t189 : TyI := { agg := false, size := 1, bytes := 8, zero := [.nilf], kind := .func, flds := [], elem := 0, len := 0, ik := .i64, fk := .f64, eqok := true }
noncomputable def t190 : TyI := { agg := false, size := 1, bytes := 8, zero := [.nilf], kind := .func, flds := [], elem := 0, len := 0, ik := .i64, fk := .f64, eqok := true }
noncomputable def t191 : TyI := { agg := false, size := 1, bytes := 0, zero := [.dead], kind := .other, flds := [], elem := 0, len := 0, ik := .i64, fk := .f64, eqok := true }
noncomputable def t192 : TyI := { agg := false, size := 1, bytes := 8, zero := [.nilf], kind := .func, flds := [], elem := 0, len := 0, ik := .i64, fk := .f64, eqok := true }
noncomputable def t193 : TyI := { agg := false, size := 1, bytes := 8, zero := [.nilf], kind := .func, flds := [], elem := 0, len := 0, ik := .i64, fk := .f64, eqok := true }
noncomputable def t194 : TyI := { agg := false, size := 1, bytes := 8, zero := [.nilf], kind := .func, flds := [], elem := 0, len := 0, ik := .i64, fk := .f64, eqok := true }
noncomputable def t195 : TyI := { agg := false, size := 1, bytes := 8, zero := [.nilm], kind := .map, flds := [], elem := 32, len := 32, ik := .i64, fk := .f64, eqok := true }
noncomputable def t196 : TyI := { agg := false, size := 1, bytes := 8, zero := [.nilf], kind := .func, flds := [], elem := 0, len := 0, ik := .i64, fk := .f64, eqok := true }
noncomputable def t197 : TyI := { agg := false, size := 1, bytes := 8, zero := [.nilf], kind := .func, flds := [], elem := 0, len := 0, ik := .i64, fk := .f64, eqok := true }
noncomputable def t198 : TyI := { agg := false, size := 1, bytes := 8, zero := [.nilp], kind := .pointer, flds := [], elem := 131, len := 0, ik := .i64, fk := .f64, eqok := true }
noncomputable def t199 : TyI := { agg := false, size := 1, bytes := 8, zero := [.nilf], kind := .func, flds := [], elem := 0, len := 0, ik := .i64, fk := .f64, eqok := true }
noncomputable def t200 : TyI := { agg := false, size := 1, bytes := 24, zero := [.nils], kind := .slice, flds := [], elem := 9, len := 0, ik := .i64, fk := .f64, eqok := true }
noncomputable def t201 : TyI := { agg := false, size := 1, bytes := 8, zero := [.nilf], kind := .func, flds := [], elem := 0, len := 0, ik := .i64, fk := .f64, eqok := true }
noncomputable def t202 : TyI := { agg := false, size := 1, bytes := 8, zero := [.nilf], kind := .func, flds := [], elem := 0, len := 0, ik := .i64, fk := .f64, eqok := true }
noncomputable def t203 : TyI := { agg := false, size := 1, bytes := 8, zero := [.nilf], kind := .func, flds := [], elem := 0, len := 0, ik := .i64, fk := .f64, eqok := true }
noncomputable def t204 : TyI := { agg := false, size := 1, bytes := 8, zero := [.nilf], kind := .func, flds := [], elem := 0, len := 0, ik := .i64, fk := .f64, eqok := true }
noncomputable def t205 : TyI := { agg := false, size := 1, bytes := 8, zero := [.nilf], kind := .func, flds := [], elem := 0, len := 0, ik := .i64, fk := .f64, eqok := true }
noncomputable def t206 : TyI := { agg := false, size := 1, bytes := 8, zero := [.nilf], kind := .func, flds := [], elem := 0, len := 0, ik := .i64, fk := .f64, eqok := true }
noncomputable def t207 : TyI := { agg := true, size := 4, bytes := 32, zero := [.int .u64 0, .int .u64 0, .int .u64 0, .int .u64 0], kind := .struct, flds := [(0, (178, (1, false))), (1, (178, (1, false))), (2, (178, (1, false))), (3, (178, (1, false)))], elem := 0, len := 0, ik := .i64, fk := .f64, eqok := true }
noncomputable def t208 : TyI := { agg := true, size := 4, bytes := 32, zero := [.int .u64 0, .int .u64 0, .int .u64 0, .int .u64 0], kind := .struct, flds := [(0, (178, (1, false))), (1, (178, (1, false))), (2, (178, (1, false))), (3, (178, (1, false)))], elem := 0, len := 0, ik := .i64, fk := .f64, eqok := true }
noncomputable def t209 : TyI := { agg := false, size := 1, bytes := 8, zero := [.nilf], kind := .func, flds := [], elem := 0, len := 0, ik := .i64, fk := .f64, eqok := true }
noncomputable def t210 : TyI := { agg := false, size := 1, bytes := 8, zero := [.nilf], kind := .func, flds := [], elem := 0, len := 0, ik := .i64, fk := .f64, eqok := true }
noncomputable def t211 : TyI := { agg := true, size := 3, bytes := 24, zero := [.int .u64 0, .int .u64 0, .int .u64 0], kind := .array, flds := [], elem := 178, len := 3, ik := .i64, fk := .f64, eqok := true }
noncomputable def t212 : TyI := { agg := true, size := 2, bytes := 16, zero := [.int .u64 0, .int .u64 0], kind := .array, flds := [], elem := 178, len := 2, ik := .i64, fk := .f64, eqok := true }
noncomputable def t213 : TyI := { agg := false, size := 1, bytes := 8, zero := [.nilf], kind := .func, flds := [], elem := 0, len := 0, ik := .i64, fk := .f64, eqok := true }
noncomputable def t214 : TyI := { agg := false, size := 1, bytes := 8, zero := [.nilf], kind := .func, flds := [], elem := 0, len := 0, ik := .i64, fk := .f64, eqok := true }
noncomputable def t215 : TyI := { agg := false, size := 1, bytes := 8, zero := [.nilf], kind := .func, flds := [], elem := 0, len := 0, ik := .i64, fk := .f64, eqok := true }
noncomputable def t216 : TyI := { agg := false, size := 1, bytes := 8, zero := [.nilf], kind := .func, flds := [], elem := 0, len := 0, ik := .i64, fk := .f64, eqok := true }
noncomputable def t217 : TyI := { agg := false, size := 1, bytes := 0, zero := [.dead], kind := .other, flds := [], elem := 0, len := 0, ik := .i64, fk := .f64, eqok := true }
noncomputable def t218 : TyI := { agg := false, size := 1, bytes := 8, zero := [.nilf], kind := .func, flds := [], elem := 0, len := 0, ik := .i64, fk := .f64, eqok := true }
noncomputable def t219 : TyI := { agg := false, size := 1, bytes := 8, zero := [.nilf], kind := .func, flds := [], elem := 0, len := 0, ik := .i64, fk := .f64, eqok := true }
noncomputable def t220 : TyI := { agg := false, size := 1, bytes := 8, zero := [.nilf], kind := .func, flds := [], elem := 0, len := 0, ik := .i64, fk := .f64, eqok := true }
noncomputable def t221 : TyI := { agg := false, size := 1, bytes := 8, zero := [.nilf], kind := .func, flds := [], elem := 0, len := 0, ik := .i64, fk := .f64, eqok := true }
noncomputable def t222 : TyI := { agg := false, size := 1, bytes := 8, zero := [.nilf], kind := .func, flds := [], elem := 0, len := 0, ik := .i64, fk := .f64, eqok := true }
noncomputable def t223 : TyI := { agg := false, size := 1, bytes := 0, zero := [.dead], kind := .other, flds := [], elem := 0, len := 0, ik := .i64, fk := .f64, eqok := true }
noncomputable def t224 : TyI := { agg := false, size := 1, bytes := 8, zero := [.nilf], kind := .func, flds := [], elem := 0, len := 0, ik := .i64, fk := .f64, eqok := true }
noncomputable def t225 : TyI := { agg := false, size := 1, bytes := 8, zero := [.nilp], kind := .pointer, flds := [], elem := 228, len := 0, ik := .i64, fk := .f64, eqok := true }
noncomputable def t226 : TyI := { agg := false, size := 1, bytes := 24, zero := [.nils], kind := .slice, flds := [], elem := 5, len := 0, ik := .i64, fk := .f64, eqok := true }
noncomputable def t227 : TyI := { agg := true, size := 2, bytes := 32, zero := [.nilp, .nils], kind := .struct, flds := [(0, (225, (1, false))), (1, (226, (1, false)))], elem := 0, len := 0, ik := .i64, fk := .f64, eqok := true }
noncomputable def t228 : TyI := { agg := true, size := 2, bytes := 32, zero := [.nilp, .nils], kind := .struct, flds := [(0, (225, (1, false))), (1, (226, (1, false)))], elem := 0, len := 0, ik := .i64, fk := .f64, eqok := true }
noncomputable def t229 : TyI := { agg := false, size := 1, bytes := 16, zero := [.dead], kind := .other, flds := [], elem := 0, len := 0, ik := .i64, fk := .f64, eqok := false }
noncomputable def t230 : TyI := { agg := false, size := 1, bytes := 16, zero := [.dead], kind := .other, flds := [], elem := 0, len := 0, ik := .i64, fk := .f64, eqok := false }
noncomputable def t231 : TyI := { agg := false, size := 1, bytes := 0, zero := [.dead], kind := .other, flds := [], elem := 0, len := 0, ik := .i64, fk := .f64, eqok := true }
noncomputable def t232 : TyI := { agg := false, size := 1, bytes := 8, zero := [.nilf], kind := .func, flds := [], elem := 0, len := 0, ik := .i64, fk := .f64, eqok := true }
noncomputable def t233 : TyI := { agg := false, size := 1, bytes := 8, zero := [.nilf], kind := .func, flds := [], elem := 0, len := 0, ik := .i64, fk := .f64, eqok := true }
noncomputable def t234 : TyI := { agg := false, size := 1, bytes := 8, zero := [.nilf], kind := .func, flds := [], elem := 0, len := 0, ik := .i64, fk := .f64, eqok := true }
noncomputable def t235 : TyI := { agg := false, size := 1, bytes := 8, zero := [.nilf], kind := .func, flds := [], elem := 0, len := 0, ik := .i64, fk := .f64, eqok := true }
noncomputable def t236 : TyI := { agg := false, size := 1, bytes := 8, zero := [.nilf], kind := .func, flds := [], elem := 0, len := 0, ik := .i64, fk := .f64, eqok := true }
noncomputable def t237 : TyI := { agg := true, size := 24, bytes := 24, zero := [.int .u8 0, .int .u8 0, .int .u8 0, .int .u8 0, .int .u8 0, .int .u8 0, .int .u8 0, .int .u8 0, .int .u8 0, .int .u8 0, .int .u8 0, .int .u8 0, .int .u8 0, .int .u8 0, .int .u8 0, .int .u8 0, .int .u8 0, .int .u8 0, .int .u8 0, .int .u8 0, .int .u8 0, .int .u8 0, .int .u8 0, .int .u8 0], kind := .array, flds := [], elem := 5, len := 24, ik := .i64, fk := .f64, eqok := true }
noncomputable def t238 : TyI := { agg := false, size := 1, bytes := 8, zero := [.nilf], kind := .func, flds := [], elem := 0, len := 0, ik := .i64, fk := .f64, eqok := true }
noncomputable def t239 : TyI := { agg := false, size := 1, bytes := 0, zero := [.dead], kind := .other, flds := [], elem := 0, len := 0, ik := .i64, fk := .f64, eqok := true }
noncomputable def t240 : TyI := { agg := false, size := 1, bytes := 8, zero := [.nilf], kind := .func, flds := [], elem := 0, len := 0, ik := .i64, fk := .f64, eqok := true }
noncomputable def t241 : TyI := { agg := false, size := 1, bytes := 0, zero := [.dead], kind := .other, flds := [], elem := 0, len := 0, ik := .i64, fk := .f64, eqok := true }
noncomputable def t242 : TyI := { agg := false, size := 1, bytes := 8, zero := [.nilf], kind := .func, flds := [], elem := 0, len := 0, ik := .i64, fk := .f64, eqok := true }
noncomputable def t243 : TyI := { agg := false, size := 1, bytes := 8, zero := [.nilp], kind := .pointer, flds := [], elem := 5, len := 0, ik := .i64, fk := .f64, eqok := true }
noncomputable def t244 : TyI := { agg := false, size := 1, bytes := 8, zero := [.nilf], kind := .func, flds := [], elem := 0, len := 0, ik := .i64, fk := .f64, eqok := true }
noncomputable def t245 : TyI := { agg := false, size := 1, bytes := 8, zero := [.nilf], kind := .func, flds := [], elem := 0, len := 0, ik := .i64, fk := .f64, eqok := true }
noncomputable def t246 : TyI := { agg := true, size := 20, bytes := 160, zero := [.int .u64 0, .int .u64 0, .int .u64 0, .int .u64 0, .int .u64 0, .int .u64 0, .int .u64 0, .int .u64 0, .int .u64 0, .int .u64 0, .int .u64 0, .int .u64 0, .int .u64 0, .int .u64 0, .int .u64 0, .int .u64 0, .int .u64 0, .int .u64 0, .int .u64 0, .int .u64 0], kind := .array, flds := [], elem := 178, len := 20, ik := .i64, fk := .f64, eqok := true }
noncomputable def t247 : TyI := { agg := true, size := 65, bytes := 65, zero := [.int .u8 0, .int .u8 0, .int .u8 0, .int .u8 0, .int .u8 0, .int .u8 0, .int .u8 0, .int .u8 0, .int .u8 0, .int .u8 0, .int .u8 0, .int .u8 0, .int .u8 0, .int .u8 0, .int .u8 0, .int .u8 0, .int .u8 0, .int .u8 0, .int .u8 0, .int .u8 0, .int .u8 0, .int .u8 0, .int .u8 0, .int .u8 0, .int .u8 0, .int .u8 0, .int .u8 0, .int .u8 0, .int .u8 0, .int .u8 0, .int .u8 0, .int .u8 0, .int .u8 0, .int .u8 0, .int .u8 0, .int .u8 0, .int .u8 0, .int .u8 0, .int .u8 0, .int .u8 0, .int .u8 0, .int .u8 0, .int .u8 0, .int .u8 0, .int .u8 0, .int .u8 0, .int .u8 0, .int .u8 0, .int .u8 0, .int .u8 0, .int .u8 0, .int .u8 0, .int .u8 0, .int .u8 0, .int .u8 0, .int .u8 0, .int .u8 0, .int .u8 0, .int .u8 0, .int .u8 0, .int .u8 0, .int .u8 0, .int .u8 0, .int .u8 0, .int .u8 0], kind := .array, flds := [], elem := 5, len := 65, ik := .i64, fk := .f64, eqok := true }
noncomputable def t248 : TyI := { agg := false, size := 1, bytes := 8, zero := [.nilf], kind := .func, flds := [], elem := 0, len := 0, ik := .i64, fk := .f64, eqok := true }
noncomputable def t249 : TyI := { agg := false, size := 1, bytes := 8, zero := [.nilf], kind := .func, flds := [], elem := 0, len := 0, ik := .i64, fk := .f64, eqok := true }
noncomputable def t250 : TyI := { agg := false, size := 1, bytes := 8, zero := [.nilp], kind := .other, flds := [], elem := 0, len := 0, ik := .i64, fk := .f64, eqok := true }
noncomputable def t251 : TyI := { agg := false, size := 1, bytes := 8, zero := [.nilf], kind := .func, flds := [], elem := 0, len := 0, ik := .i64, fk := .f64, eqok := true }
noncomputable def t252 : TyI := { agg := false, size := 1, bytes := 8, zero := [.nilf], kind := .func, flds := [], elem := 0, len := 0, ik := .i64, fk := .f64, eqok := true }
noncomputable def t253 : TyI := { agg := false, size := 1, bytes := 8, zero := [.nilf], kind := .func, flds := [], elem := 0, len := 0, ik := .i64, fk := .f64, eqok := true }
noncomputable def t254 : TyI := { agg := true, size := 32, bytes := 32, zero := [.int .u8 0, .int .u8 0, .int .u8 0, .int .u8 0, .int .u8 0, .int .u8 0, .int .u8 0, .int .u8 0, .int .u8 0, .int .u8 0, .int .u8 0, .int .u8 0, .int .u8 0, .int .u8 0, .int .u8 0, .int .u8 0, .int .u8 0, .int .u8 0, .int .u8 0, .int .u8 0, .int .u8 0, .int .u8 0, .int .u8 0, .int .u8 0, .int .u8 0, .int .u8 0, .int .u8 0, .int .u8 0, .int .u8 0, .int .u8 0, .int .u8 0, .int .u8 0], kind := .array, flds := [], elem := 5, len := 32, ik := .i64, fk := .f64, eqok := true }
noncomputable def t255 : TyI := { agg := true, size := 64, bytes := 64, zero := [.int .u8 0, .int .u8 0, .int .u8 0, .int .u8 0, .int .u8 0, .int .u8 0, .int .u8 0, .int .u8 0, .int .u8 0, .int .u8 0, .int .u8 0, .int .u8 0, .int .u8 0, .int .u8 0, .int .u8 0, .int .u8 0, .int .u8 0, .int .u8 0, .int .u8 0, .int .u8 0, .int .u8 0, .int .u8 0, .int .u8 0, .int .u8 0, .int .u8 0, .int .u8 0, .int .u8 0, .int .u8 0, .int .u8 0, .int .u8 0, .int .u8 0, .int .u8 0, .int .u8 0, .int .u8 0, .int .u8 0, .int .u8 0, .int .u8 0, .int .u8 0, .int .u8 0, .int .u8 0, .int .u8 0, .int .u8 0, .int .u8 0, .int .u8 0, .int .u8 0, .int .u8 0, .int .u8 0, .int .u8 0, .int .u8 0, .int .u8 0, .int .u8 0, .int .u8 0, .int .u8 0, .int .u8 0, .int .u8 0, .int .u8 0, .int .u8 0, .int .u8 0, .int .u8 0, .int .u8 0, .int .u8 0, .int .u8 0, .int .u8 0, .int .u8 0], kind := .array, flds := [], elem := 5, len := 64, ik := .i64, fk := .f64, eqok := true }
noncomputable def t256 : TyI := { agg := false, size := 1, bytes := 8, zero := [.nilp], kind := .pointer, flds := [], elem := 270, len := 0, ik := .i64, fk := .f64, eqok := true }
noncomputable def t257 : TyI := { agg := true, size := 4, bytes := 40, zero := [.nilp, .nilp, .nilp, .str []], kind := .struct, flds := [(0, (17, (1, false))), (1, (17, (1, false))), (2, (17, (1, false))), (3, (9, (1, false)))], elem := 0, len := 0, ik := .i64, fk := .f64, eqok := false }
noncomputable def t258 : TyI := { agg := true, size := 4, bytes := 40, zero := [.nilp, .nilp, .nilp, .str []], kind := .struct, flds := [(0, (17, (1, false))), (1, (17, (1, false))), (2, (17, (1, false))), (3, (9, (1, false)))], elem := 0, len := 0, ik := .i64, fk := .f64, eqok := false }
noncomputable def t259 : TyI := { agg := true, size := 0, bytes := 0, zero := [], kind := .array, flds := [], elem := 16, len := 0, ik := .i64, fk := .f64, eqok := true }
noncomputable def t260 : TyI := { agg := true, size := 0, bytes := 0, zero := [], kind := .struct, flds := [(0, (259, (0, true)))], elem := 0, len := 0, ik := .i64, fk := .f64, eqok := false }
noncomputable def t261 : TyI := { agg := true, size := 0, bytes := 0, zero := [], kind := .struct, flds := [(0, (259, (0, true)))], elem := 0, len := 0, ik := .i64, fk := .f64, eqok := false }
noncomputable def t262 : TyI := { agg := false, size := 1, bytes := 1, zero := [.int .u8 0], kind := .int, flds := [], elem := 0, len := 0, ik := .u8, fk := .f64, eqok := true }
noncomputable def t263 : TyI := { agg := false, size := 1, bytes := 1, zero := [.int .u8 0], kind := .int, flds := [], elem := 0, len := 0, ik := .u8, fk := .f64, eqok := true }
noncomputable def t264 : TyI := { agg := false, size := 1, bytes := 8, zero := [.nilf], kind := .func, flds := [], elem := 0, len := 0, ik := .i64, fk := .f64, eqok := true }
noncomputable def t265 : TyI := { agg := false, size := 1, bytes := 4, zero := [.int .i32 0], kind := .int, flds := [], elem := 0, len := 0, ik := .i32, fk := .f64, eqok := true }
noncomputable def t266 : TyI := { agg := false, size := 1, bytes := 4, zero := [.int .i32 0], kind := .int, flds := [], elem := 0, len := 0, ik := .i32, fk := .f64, eqok := true }
noncomputable def t267 : TyI := { agg := true, size := 11, bytes := 48, zero := [.int .u64 0, .int .u64 0, .int .u32 0, .int .u8 0, .int .u8 0, .int .u8 0, .int .u8 0, .nilf, .nilp, .int .i32 0, .int .i32 0], kind := .struct, flds := [(0, (12, (1, false))), (1, (12, (1, false))), (2, (169, (1, false))), (3, (262, (1, false))), (4, (5, (1, false))), (5, (5, (1, false))), (6, (263, (1, false))), (7, (264, (1, false))), (8, (243, (1, false))), (9, (265, (1, false))), (10, (266, (1, false)))], elem := 0, len := 0, ik := .i64, fk := .f64, eqok := false }
noncomputable def t268 : TyI := { agg := true, size := 11, bytes := 48, zero := [.int .u64 0, .int .u64 0, .int .u32 0, .int .u8 0, .int .u8 0, .int .u8 0, .int .u8 0, .nilf, .nilp, .int .i32 0, .int .i32 0], kind := .struct, flds := [(0, (12, (1, false))), (1, (12, (1, false))), (2, (169, (1, false))), (3, (262, (1, false))), (4, (5, (1, false))), (5, (5, (1, false))), (6, (263, (1, false))), (7, (264, (1, false))), (8, (243, (1, false))), (9, (265, (1, false))), (10, (266, (1, false)))], elem := 0, len := 0, ik := .i64, fk := .f64, eqok := false }
noncomputable def t269 : TyI := { agg := true, size := 1, bytes := 16, zero := [.str []], kind := .struct, flds := [(0, (9, (1, false)))], elem := 0, len := 0, ik := .i64, fk := .f64, eqok := true }
noncomputable def t270 : TyI := { agg := true, size := 1, bytes := 16, zero := [.str []], kind := .struct, flds := [(0, (9, (1, false)))], elem := 0, len := 0, ik := .i64, fk := .f64, eqok := true }
noncomputable def tyT : Tr TyI := (.nd (.nd (.nd (.nd (.nd (.nd (.nd (.nd (.nd .lf (some t255) .lf) (some t127) .lf) (some t63) (.nd .lf (some t191) .lf)) (some t31) (.nd (.nd .lf (some t159) .lf) (some t95) (.nd .lf (some t223) .lf))) (some t15) (.nd (.nd (.nd .lf (some t143) .lf) (some t79) (.nd .lf (some t207) .lf)) (some t47) (.nd (.nd .lf (some t175) .lf) (some t111) (.nd .lf (some t239) .lf)))) (some t7) (.nd (.nd (.nd (.nd (.nd .lf (some t263) .lf) (some t135) .lf) (some t71) (.nd .lf (some t199) .lf)) (some t39) (.nd (.nd .lf (some t167) .lf) (some t103) (.nd .lf (some t231) .lf))) (some t23) (.nd (.nd (.nd .lf (some t151) .lf) (some t87) (.nd .lf (some t215) .lf)) (some t55) (.nd (.nd .lf (some t183) .lf) (some t119) (.nd .lf (some t247) .lf))))) (some t3) (.nd (.nd (.nd (.nd (.nd (.nd .lf (some t259) .lf) (some t131) .lf) (some t67) (.nd .lf (some t195) .lf)) (some t35) (.nd (.nd .lf (some t163) .lf) (some t99) (.nd .lf (some t227) .lf))) (some t19) (.nd (.nd (.nd .lf (some t147) .lf) (some t83) (.nd .lf (some t211) .lf)) (some t51) (.nd (.nd .lf (some t179) .lf) (some t115) (.nd .lf (some t243) .lf)))) (some t11) (.nd (.nd (.nd (.nd (.nd .lf (some t267) .lf) (some t139) .lf) (some t75) (.nd .lf (some t203) .lf)) (some t43) (.nd (.nd .lf (some t171) .lf) (some t107) (.nd .lf (some t235) .lf))) (some t27) (.nd (.nd (.nd .lf (some t155) .lf) (some t91) (.nd .lf (some t219) .lf)) (some t59) (.nd (.nd .lf (some t187) .lf) (some t123) (.nd .lf (some t251) .lf)))))) (some t1) (.nd (.nd (.nd (.nd (.nd (.nd (.nd .lf (some t257) .lf) (some t129) .lf) (some t65) (.nd .lf (some t193) .lf)) (some t33) (.nd (.nd .lf (some t161) .lf) (some t97) (.nd .lf (some t225) .lf))) (some t17) (.nd (.nd (.nd .lf (some t145) .lf) (some t81) (.nd .lf (some t209) .lf)) (some t49) (.nd (.nd .lf (some t177) .lf) (some t113) (.nd .lf (some t241) .lf)))) (some t9) (.nd (.nd (.nd (.nd (.nd .lf (some t265) .lf) (some t137) .lf) (some t73) (.nd .lf (some t201) .lf)) (some t41) (.nd (.nd .lf (some t169) .lf) (some t105) (.nd .lf (some t233) .lf))) (some t25) (.nd (.nd (.nd .lf (some t153) .lf) (some t89) (.nd .lf (some t217) .lf)) (some t57) (.nd (.nd .lf (some t185) .lf) (some t121) (.nd .lf (some t249) .lf))))) (some t5) (.nd (.nd (.nd (.nd (.nd (.nd .lf (some t261) .lf) (some t133) .lf) (some t69) (.nd .lf (some t197) .lf)) (some t37) (.nd (.nd .lf (some t165) .lf) (some t101) (.nd .lf (some t229) .lf))) (some t21) (.nd (.nd (.nd .lf (some t149) .lf) (some t85) (.nd .lf (some t213) .lf)) (some t53) (.nd (.nd .lf (some t181) .lf) (some t117) (.nd .lf (some t245) .lf)))) (some t13) (.nd (.nd (.nd (.nd (.nd .lf (some t269) .lf) (some t141) .lf) (some t77) (.nd .lf (some t205) .lf)) (some t45) (.nd (.nd .lf (some t173) .lf) (some t109) (.nd .lf (some t237) .lf))) (some t29) (.nd (.nd (.nd .lf (some t157) .lf) (some t93) (.nd .lf (some t221) .lf)) (some t61) (.nd (.nd .lf (some t189) .lf) (some t125) (.nd .lf (some t253) .lf))))))) (some t0) (.nd (.nd (.nd (.nd (.nd (.nd (.nd (.nd .lf (some t256) .lf) (some t128) .lf) (some t64) (.nd .lf (some t192) .lf)) (some t32) (.nd (.nd .lf (some t160) .lf) (some t96) (.nd .lf (some t224) .lf))) (some t16) (.nd (.nd (.nd .lf (some t144) .lf) (some t80) (.nd .lf (some t208) .lf)) (some t48) (.nd (.nd .lf (some t176) .lf) (some t112) (.nd .lf (some t240) .lf)))) (some t8) (.nd (.nd (.nd (.nd (.nd .lf (some t264) .lf) (some t136) .lf) (some t72) (.nd .lf (some t200) .lf)) (some t40) (.nd (.nd .lf (some t168) .lf) (some t104) (.nd .lf (some t232) .lf))) (some t24) (.nd (.nd (.nd .lf (some t152) .lf) (some t88) (.nd .lf (some t216) .lf)) (some t56) (.nd (.nd .lf (some t184) .lf) (some t120) (.nd .lf (some t248) .lf))))) (some t4) (.nd (.nd (.nd (.nd (.nd (.nd .lf (some t260) .lf) (some t132) .lf) (some t68) (.nd .lf (some t196) .lf)) (some t36) (.nd (.nd .lf (some t164) .lf) (some t100) (.nd .lf (some t228) .lf))) (some t20) (.nd (.nd (.nd .lf (some t148) .lf) (some t84) (.nd .lf (some t212) .lf)) (some t52) (.nd (.nd .lf (some t180) .lf) (some t116) (.nd .lf (some t244) .lf)))) (some t12) (.nd (.nd (.nd (.nd (.nd .lf (some t268) .lf) (some t140) .lf) (some t76) (.nd .lf (some t204) .lf)) (some t44) (.nd (.nd .lf (some t172) .lf) (some t108) (.nd .lf (some t236) .lf))) (some t28) (.nd (.nd (.nd .lf (some t156) .lf) (some t92) (.nd .lf (some t220) .lf)) (some t60) (.nd (.nd .lf (some t188) .lf) (some t124) (.nd .lf (some t252) .lf)))))) (some t2) (.nd (.nd (.nd (.nd (.nd (.nd (.nd .lf (some t258) .lf) (some t130) .lf) (some t66) (.nd .lf (some t194) .lf)) (some t34) (.nd (.nd .lf (some t162) .lf) (some t98) (.nd .lf (some t226) .lf))) (some t18) (.nd (.nd (.nd .lf (some t146) .lf) (some t82) (.nd .lf (some t210) .lf)) (some t50) (.nd (.nd .lf (some t178) .lf) (some t114) (.nd .lf (some t242) .lf)))) (some t10) (.nd (.nd (.nd (.nd (.nd .lf (some t266) .lf) (some t138) .lf) (some t74) (.nd .lf (some t202) .lf)) (some t42) (.nd (.nd .lf (some t170) .lf) (some t106) (.nd .lf (some t234) .lf))) (some t26) (.nd (.nd (.nd .lf (some t154) .lf) (some t90) (.nd .lf (some t218) .lf)) (some t58) (.nd (.nd .lf (some t186) .lf) (some t122) (.nd .lf (some t250) .lf))))) (some t6) (.nd (.nd (.nd (.nd (.nd (.nd .lf (some t262) .lf) (some t134) .lf) (some t70) (.nd .lf (some t198) .lf)) (some t38) (.nd (.nd .lf (some t166) .lf) (some t102) (.nd .lf (some t230) .lf))) (some t22) (.nd (.nd (.nd .lf (some t150) .lf) (some t86) (.nd .lf (some t214) .lf)) (some t54) (.nd (.nd .lf (some t182) .lf) (some t118) (.nd .lf (some t246) .lf)))) (some t14) (.nd (.nd (.nd (.nd (.nd .lf (some t270) .lf) (some t142) .lf) (some t78) (.nd .lf (some t206) .lf)) (some t46) (.nd (.nd .lf (some t174) .lf) (some t110) (.nd .lf (some t238) .lf))) (some t30) (.nd (.nd (.nd .lf (some t158) .lf) (some t94) (.nd .lf (some t222) .lf)) (some t62) (.nd (.nd .lf (some t190) .lf) (some t126) (.nd .lf (some t254) .lf))))))))
noncomputable def c2 : Code := Tryz.f2.body.getD .skip
noncomputable def g2 : Nat × List ResultVar × Code := (1, Tryz.f2.results.toList, c2)
noncomputable def c3 : Code := Tryz.f3.body.getD .skip
noncomputable def g3 : Nat × List ResultVar × Code := (31, Tryz.f3.results.toList, c3)
noncomputable def c4 : Code := Tryz.f4.body.getD .skip
noncomputable def g4 : Nat × List ResultVar × Code := (54, Tryz.f4.results.toList, c4)
noncomputable def c5 : Code := Tryz.f5.body.getD .skip
noncomputable def g5 : Nat × List ResultVar × Code := (318, Tryz.f5.results.toList, c5)
noncomputable def c6 : Code := Tryz.f6.body.getD .skip
noncomputable def g6 : Nat × List ResultVar × Code := (66, Tryz.f6.results.toList, c6)
noncomputable def c7 : Code := Tryz.f7.body.getD .skip
noncomputable def g7 : Nat × List ResultVar × Code := (19, Tryz.f7.results.toList, c7)
noncomputable def c8 : Code := Tryz.f8.body.getD .skip
noncomputable def g8 : Nat × List ResultVar × Code := (26, Tryz.f8.results.toList, c8)
noncomputable def c9 : Code := Tryz.f9.body.getD .skip
noncomputable def g9 : Nat × List ResultVar × Code := (38, Tryz.f9.results.toList, c9)
noncomputable def c10 : Code := Tryz.f10.body.getD .skip
noncomputable def g10 : Nat × List ResultVar × Code := (39, Tryz.f10.results.toList, c10)
noncomputable def c11 : Code := Tryz.f11.body.getD .skip
noncomputable def g11 : Nat × List ResultVar × Code := (14, Tryz.f11.results.toList, c11)
noncomputable def c12 : Code := Tryz.f12.body.getD .skip
noncomputable def g12 : Nat × List ResultVar × Code := (20, Tryz.f12.results.toList, c12)
noncomputable def c13 : Code := Tryz.f13.body.getD .skip
noncomputable def g13 : Nat × List ResultVar × Code := (11, Tryz.f13.results.toList, c13)
noncomputable def c14 : Code := Tryz.f14.body.getD .skip
noncomputable def g14 : Nat × List ResultVar × Code := (8, Tryz.f14.results.toList, c14)
noncomputable def c15 : Code := Tryz.f15.body.getD .skip
noncomputable def g15 : Nat × List ResultVar × Code := (31, Tryz.f15.results.toList, c15)
noncomputable def c16 : Code := Tryz.f16.body.getD .skip
noncomputable def g16 : Nat × List ResultVar × Code := (20, Tryz.f16.results.toList, c16)
noncomputable def c17 : Code := Tryz.f17.body.getD .skip
noncomputable def g17 : Nat × List ResultVar × Code := (45, Tryz.f17.results.toList, c17)
noncomputable def c18 : Code := Tryz.f18.body.getD .skip
noncomputable def g18 : Nat × List ResultVar × Code := (70, Tryz.f18.results.toList, c18)
noncomputable def c19 : Code := Tryz.f19.body.getD .skip
noncomputable def g19 : Nat × List ResultVar × Code := (23, Tryz.f19.results.toList, c19)
noncomputable def c20 : Code := Tryz.f20.body.getD .skip
noncomputable def g20 : Nat × List ResultVar × Code := (25, Tryz.f20.results.toList, c20)
noncomputable def c21 : Code := Tryz.f21.body.getD .skip
noncomputable def g21 : Nat × List ResultVar × Code := (34, Tryz.f21.results.toList, c21)
noncomputable def c22 : Code := Tryz.f22.body.getD .skip
noncomputable def g22 : Nat × List ResultVar × Code := (11, Tryz.f22.results.toList, c22)
noncomputable def c23 : Code := Tryz.f23.body.getD .skip
noncomputable def g23 : Nat × List ResultVar × Code := (10, Tryz.f23.results.toList, c23)
noncomputable def c24 : Code := Tryz.f24.body.getD .skip
noncomputable def g24 : Nat × List ResultVar × Code := (30, Tryz.f24.results.toList, c24)
noncomputable def c25 : Code := Tryz.f25.body.getD .skip
noncomputable def g25 : Nat × List ResultVar × Code := (25, Tryz.f25.results.toList, c25)
noncomputable def c26 : Code := Tryz.f26.body.getD .skip
noncomputable def g26 : Nat × List ResultVar × Code := (43, Tryz.f26.results.toList, c26)
noncomputable def c27 : Code := Tryz.f27.body.getD .skip
noncomputable def g27 : Nat × List ResultVar × Code := (47, Tryz.f27.results.toList, c27)
noncomputable def c28 : Code := Tryz.f28.body.getD .skip
noncomputable def g28 : Nat × List ResultVar × Code := (18, Tryz.f28.results.toList, c28)
noncomputable def c29 : Code := Tryz.f29.body.getD .skip
noncomputable def g29 : Nat × List ResultVar × Code := (19, Tryz.f29.results.toList, c29)
noncomputable def c30 : Code := Tryz.f30.body.getD .skip
noncomputable def g30 : Nat × List ResultVar × Code := (19, Tryz.f30.results.toList, c30)
noncomputable def c31 : Code := Tryz.f31.body.getD .skip
noncomputable def g31 : Nat × List ResultVar × Code := (17, Tryz.f31.results.toList, c31)
noncomputable def c32 : Code := Tryz.f32.body.getD .skip
noncomputable def g32 : Nat × List ResultVar × Code := (27, Tryz.f32.results.toList, c32)
noncomputable def c33 : Code := Tryz.f33.body.getD .skip
noncomputable def g33 : Nat × List ResultVar × Code := (26, Tryz.f33.results.toList, c33)
noncomputable def c34 : Code := Tryz.f34.body.getD .skip
noncomputable def g34 : Nat × List ResultVar × Code := (26, Tryz.f34.results.toList, c34)
noncomputable def c35 : Code := Tryz.f35.body.getD .skip
noncomputable def g35 : Nat × List ResultVar × Code := (15, Tryz.f35.results.toList, c35)
noncomputable def c36 : Code := Tryz.f36.body.getD .skip
noncomputable def g36 : Nat × List ResultVar × Code := (10, Tryz.f36.results.toList, c36)
noncomputable def c37 : Code := Tryz.f37.body.getD .skip
noncomputable def g37 : Nat × List ResultVar × Code := (35, Tryz.f37.results.toList, c37)
noncomputable def c38 : Code := Tryz.f38.body.getD .skip
noncomputable def g38 : Nat × List ResultVar × Code := (75, Tryz.f38.results.toList, c38)
noncomputable def c39 : Code := Tryz.f39.body.getD .skip
noncomputable def g39 : Nat × List ResultVar × Code := (5, Tryz.f39.results.toList, c39)
noncomputable def c40 : Code := Tryz.f40.body.getD .skip
noncomputable def g40 : Nat × List ResultVar × Code := (8, Tryz.f40.results.toList, c40)
noncomputable def c41 : Code := Tryz.f41.body.getD .skip
noncomputable def g41 : Nat × List ResultVar × Code := (29, Tryz.f41.results.toList, c41)
noncomputable def c42 : Code := Tryz.f42.body.getD .skip
noncomputable def g42 : Nat × List ResultVar × Code := (8, Tryz.f42.results.toList, c42)
noncomputable def c43 : Code := Tryz.f43.body.getD .skip
noncomputable def g43 : Nat × List ResultVar × Code := (27, Tryz.f43.results.toList, c43)
noncomputable def c44 : Code := Tryz.f44.body.getD .skip
noncomputable def g44 : Nat × List ResultVar × Code := (13, Tryz.f44.results.toList, c44)
noncomputable def c45 : Code := Tryz.f45.body.getD .skip
noncomputable def g45 : Nat × List ResultVar × Code := (8, Tryz.f45.results.toList, c45)
noncomputable def c46 : Code := Tryz.f46.body.getD .skip
noncomputable def g46 : Nat × List ResultVar × Code := (32, Tryz.f46.results.toList, c46)
noncomputable def c47 : Code := Tryz.f47.body.getD .skip
noncomputable def g47 : Nat × List ResultVar × Code := (30, Tryz.f47.results.toList, c47)
noncomputable def c48 : Code := Tryz.f48.body.getD .skip
noncomputable def g48 : Nat × List ResultVar × Code := (27, Tryz.f48.results.toList, c48)
noncomputable def c49 : Code := Tryz.f49.body.getD .skip
noncomputable def g49 : Nat × List ResultVar × Code := (16, Tryz.f49.results.toList, c49)
noncomputable def c50 : Code := Tryz.f50.body.getD .skip
noncomputable def g50 : Nat × List ResultVar × Code := (6, Tryz.f50.results.toList, c50)
noncomputable def c51 : Code := Tryz.f51.body.getD .skip
noncomputable def g51 : Nat × List ResultVar × Code := (15, Tryz.f51.results.toList, c51)
noncomputable def c52 : Code := Tryz.f52.body.getD .skip
noncomputable def g52 : Nat × List ResultVar × Code := (9, Tryz.f52.results.toList, c52)
noncomputable def c53 : Code := Tryz.f53.body.getD .skip
noncomputable def g53 : Nat × List ResultVar × Code := (5, Tryz.f53.results.toList, c53)
noncomputable def c54 : Code := Tryz.f54.body.getD .skip
noncomputable def g54 : Nat × List ResultVar × Code := (28, Tryz.f54.results.toList, c54)
noncomputable def c55 : Code := Tryz.f55.body.getD .skip
noncomputable def g55 : Nat × List ResultVar × Code := (10, Tryz.f55.results.toList, c55)
noncomputable def c56 : Code := Tryz.f56.body.getD .skip
noncomputable def g56 : Nat × List ResultVar × Code := (27, Tryz.f56.results.toList, c56)
noncomputable def c57 : Code := Tryz.f57.body.getD .skip
noncomputable def g57 : Nat × List ResultVar × Code := (36, Tryz.f57.results.toList, c57)
noncomputable def c58 : Code := Tryz.f58.body.getD .skip
noncomputable def g58 : Nat × List ResultVar × Code := (26, Tryz.f58.results.toList, c58)
noncomputable def c59 : Code := Tryz.f59.body.getD .skip
noncomputable def g59 : Nat × List ResultVar × Code := (18, Tryz.f59.results.toList, c59)
noncomputable def c60 : Code := Tryz.f60.body.getD .skip
noncomputable def g60 : Nat × List ResultVar × Code := (16, Tryz.f60.results.toList, c60)
noncomputable def c61 : Code := Tryz.f61.body.getD .skip
noncomputable def g61 : Nat × List ResultVar × Code := (28, Tryz.f61.results.toList, c61)
noncomputable def c62 : Code := Tryz.f62.body.getD .skip
noncomputable def g62 : Nat × List ResultVar × Code := (28, Tryz.f62.results.toList, c62)
noncomputable def c63 : Code := Tryz.f63.body.getD .skip
noncomputable def g63 : Nat × List ResultVar × Code := (91, Tryz.f63.results.toList, c63)
noncomputable def c64 : Code := Tryz.f64.body.getD .skip
noncomputable def g64 : Nat × List ResultVar × Code := (9, Tryz.f64.results.toList, c64)
noncomputable def c65 : Code := Tryz.f65.body.getD .skip
noncomputable def g65 : Nat × List ResultVar × Code := (38, Tryz.f65.results.toList, c65)
noncomputable def c66 : Code := Tryz.f66.body.getD .skip
noncomputable def g66 : Nat × List ResultVar × Code := (28, Tryz.f66.results.toList, c66)
noncomputable def c67 : Code := Tryz.f67.body.getD .skip
noncomputable def g67 : Nat × List ResultVar × Code := (6, Tryz.f67.results.toList, c67)
noncomputable def c68 : Code := Tryz.f68.body.getD .skip
noncomputable def g68 : Nat × List ResultVar × Code := (20, Tryz.f68.results.toList, c68)
noncomputable def c69 : Code := Tryz.f69.body.getD .skip
noncomputable def g69 : Nat × List ResultVar × Code := (9, Tryz.f69.results.toList, c69)
noncomputable def c70 : Code := Tryz.f70.body.getD .skip
noncomputable def g70 : Nat × List ResultVar × Code := (32, Tryz.f70.results.toList, c70)
noncomputable def c71 : Code := Tryz.f71.body.getD .skip
noncomputable def g71 : Nat × List ResultVar × Code := (8, Tryz.f71.results.toList, c71)
noncomputable def c72 : Code := Tryz.f72.body.getD .skip
noncomputable def g72 : Nat × List ResultVar × Code := (16, Tryz.f72.results.toList, c72)
noncomputable def c73 : Code := Tryz.f73.body.getD .skip
noncomputable def g73 : Nat × List ResultVar × Code := (46, Tryz.f73.results.toList, c73)
noncomputable def c74 : Code := Tryz.f74.body.getD .skip
noncomputable def g74 : Nat × List ResultVar × Code := (35, Tryz.f74.results.toList, c74)
noncomputable def c75 : Code := Tryz.f75.body.getD .skip
noncomputable def g75 : Nat × List ResultVar × Code := (10, Tryz.f75.results.toList, c75)
noncomputable def c76 : Code := Tryz.f76.body.getD .skip
noncomputable def g76 : Nat × List ResultVar × Code := (35, Tryz.f76.results.toList, c76)
noncomputable def c77 : Code := Tryz.f77.body.getD .skip
noncomputable def g77 : Nat × List ResultVar × Code := (11, Tryz.f77.results.toList, c77)
noncomputable def c78 : Code := Tryz.f78.body.getD .skip
noncomputable def g78 : Nat × List ResultVar × Code := (25, Tryz.f78.results.toList, c78)
noncomputable def c79 : Code := Tryz.f79.body.getD .skip
noncomputable def g79 : Nat × List ResultVar × Code := (35, Tryz.f79.results.toList, c79)
noncomputable def c80 : Code := Tryz.f80.body.getD .skip
noncomputable def g80 : Nat × List ResultVar × Code := (89, Tryz.f80.results.toList, c80)
noncomputable def c81 : Code := Tryz.f81.body.getD .skip
noncomputable def g81 : Nat × List ResultVar × Code := (8, Tryz.f81.results.toList, c81)
noncomputable def c82 : Code := Tryz.f82.body.getD .skip
noncomputable def g82 : Nat × List ResultVar × Code := (52, Tryz.f82.results.toList, c82)
noncomputable def c83 : Code := Tryz.f83.body.getD .skip
noncomputable def g83 : Nat × List ResultVar × Code := (35, Tryz.f83.results.toList, c83)
noncomputable def c84 : Code := Tryz.f84.body.getD .skip
noncomputable def g84 : Nat × List ResultVar × Code := (6, Tryz.f84.results.toList, c84)
noncomputable def c85 : Code := Tryz.f85.body.getD .skip
noncomputable def g85 : Nat × List ResultVar × Code := (127, Tryz.f85.results.toList, c85)
noncomputable def c86 : Code := Tryz.f86.body.getD .skip
noncomputable def g86 : Nat × List ResultVar × Code := (51, Tryz.f86.results.toList, c86)
noncomputable def c87 : Code := Tryz.f87.body.getD .skip
noncomputable def g87 : Nat × List ResultVar × Code := (6, Tryz.f87.results.toList, c87)
noncomputable def c88 : Code := Tryz.f88.body.getD .skip
noncomputable def g88 : Nat × List ResultVar × Code := (18, Tryz.f88.results.toList, c88)
noncomputable def c89 : Code := Tryz.f89.body.getD .skip
noncomputable def g89 : Nat × List ResultVar × Code := (15, Tryz.f89.results.toList, c89)
noncomputable def c90 : Code := Tryz.f90.body.getD .skip
noncomputable def g90 : Nat × List ResultVar × Code := (13, Tryz.f90.results.toList, c90)
noncomputable def c91 : Code := Tryz.f91.body.getD .skip
noncomputable def g91 : Nat × List ResultVar × Code := (8, Tryz.f91.results.toList, c91)
noncomputable def c92 : Code := Tryz.f92.body.getD .skip
noncomputable def g92 : Nat × List ResultVar × Code := (32, Tryz.f92.results.toList, c92)
noncomputable def c93 : Code := Tryz.f93.body.getD .skip
noncomputable def g93 : Nat × List ResultVar × Code := (58, Tryz.f93.results.toList, c93)
noncomputable def c94 : Code := Tryz.f94.body.getD .skip
noncomputable def g94 : Nat × List ResultVar × Code := (48, Tryz.f94.results.toList, c94)
noncomputable def c95 : Code := Tryz.f95.body.getD .skip
noncomputable def g95 : Nat × List ResultVar × Code := (19, Tryz.f95.results.toList, c95)
noncomputable def c96 : Code := Tryz.f96.body.getD .skip
noncomputable def g96 : Nat × List ResultVar × Code := (58, Tryz.f96.results.toList, c96)
noncomputable def c97 : Code := Tryz.f97.body.getD .skip
noncomputable def g97 : Nat × List ResultVar × Code := (28, Tryz.f97.results.toList, c97)
noncomputable def c98 : Code := Tryz.f98.body.getD .skip
noncomputable def g98 : Nat × List ResultVar × Code := (27, Tryz.f98.results.toList, c98)
noncomputable def c99 : Code := Tryz.f99.body.getD .skip
noncomputable def g99 : Nat × List ResultVar × Code := (26, Tryz.f99.results.toList, c99)
noncomputable def c100 : Code := Tryz.f100.body.getD .skip
noncomputable def g100 : Nat × List ResultVar × Code := (11, Tryz.f100.results.toList, c100)
noncomputable def c101 : Code := Tryz.f101.body.getD .skip
noncomputable def g101 : Nat × List ResultVar × Code := (13, Tryz.f101.results.toList, c101)
noncomputable def c102 : Code := Tryz.f102.body.getD .skip
noncomputable def g102 : Nat × List ResultVar × Code := (20, Tryz.f102.results.toList, c102)
noncomputable def c103 : Code := Tryz.f103.body.getD .skip
noncomputable def g103 : Nat × List ResultVar × Code := (40, Tryz.f103.results.toList, c103)
noncomputable def c104 : Code := Tryz.f104.body.getD .skip
noncomputable def g104 : Nat × List ResultVar × Code := (14, Tryz.f104.results.toList, c104)
noncomputable def c105 : Code := Tryz.f105.body.getD .skip
noncomputable def g105 : Nat × List ResultVar × Code := (9, Tryz.f105.results.toList, c105)
noncomputable def c106 : Code := Tryz.f106.body.getD .skip
noncomputable def g106 : Nat × List ResultVar × Code := (11, Tryz.f106.results.toList, c106)
noncomputable def c107 : Code := Tryz.f107.body.getD .skip
noncomputable def g107 : Nat × List ResultVar × Code := (13, Tryz.f107.results.toList, c107)
noncomputable def c108 : Code := Tryz.f108.body.getD .skip
noncomputable def g108 : Nat × List ResultVar × Code := (90, Tryz.f108.results.toList, c108)
noncomputable def c109 : Code := Tryz.f109.body.getD .skip
noncomputable def g109 : Nat × List ResultVar × Code := (33, Tryz.f109.results.toList, c109)
noncomputable def c110 : Code := Tryz.f110.body.getD .skip
noncomputable def g110 : Nat × List ResultVar × Code := (9, Tryz.f110.results.toList, c110)
noncomputable def c111 : Code := Tryz.f111.body.getD .skip
noncomputable def g111 : Nat × List ResultVar × Code := (28, Tryz.f111.results.toList, c111)
noncomputable def c112 : Code := Tryz.f112.body.getD .skip
noncomputable def g112 : Nat × List ResultVar × Code := (122, Tryz.f112.results.toList, c112)
noncomputable def c113 : Code := Tryz.f113.body.getD .skip
noncomputable def g113 : Nat × List ResultVar × Code := (44, Tryz.f113.results.toList, c113)
noncomputable def c114 : Code := Tryz.f114.body.getD .skip
noncomputable def g114 : Nat × List ResultVar × Code := (8, Tryz.f114.results.toList, c114)
noncomputable def c115 : Code := Tryz.f115.body.getD .skip
noncomputable def g115 : Nat × List ResultVar × Code := (9, Tryz.f115.results.toList, c115)
noncomputable def c116 : Code := Tryz.f116.body.getD .skip
noncomputable def g116 : Nat × List ResultVar × Code := (35, Tryz.f116.results.toList, c116)
noncomputable def c117 : Code := Tryz.f117.body.getD .skip
noncomputable def g117 : Nat × List ResultVar × Code := (27, Tryz.f117.results.toList, c117)
noncomputable def c118 : Code := Tryz.f118.body.getD .skip
noncomputable def g118 : Nat × List ResultVar × Code := (18, Tryz.f118.results.toList, c118)
noncomputable def c119 : Code := Tryz.f119.body.getD .skip
noncomputable def g119 : Nat × List ResultVar × Code := (35, Tryz.f119.results.toList, c119)
noncomputable def c120 : Code := Tryz.f120.body.getD .skip
noncomputable def g120 : Nat × List ResultVar × Code := (21, Tryz.f120.results.toList, c120)
noncomputable def c121 : Code := Tryz.f121.body.getD .skip
noncomputable def g121 : Nat × List ResultVar × Code := (27, Tryz.f121.results.toList, c121)
noncomputable def c122 : Code := Tryz.f122.body.getD .skip
noncomputable def g122 : Nat × List ResultVar × Code := (17, Tryz.f122.results.toList, c122)
noncomputable def c123 : Code := Tryz.f123.body.getD .skip
noncomputable def g123 : Nat × List ResultVar × Code := (30, Tryz.f123.results.toList, c123)
noncomputable def c124 : Code := Tryz.f124.body.getD .skip
noncomputable def g124 : Nat × List ResultVar × Code := (11, Tryz.f124.results.toList, c124)
noncomputable def c126 : Code := Tryz.f126.body.getD .skip
noncomputable def g126 : Nat × List ResultVar × Code := (55, Tryz.f126.results.toList, c126)
noncomputable def c127 : Code := Tryz.f127.body.getD .skip
noncomputable def g127 : Nat × List ResultVar × Code := (131, Tryz.f127.results.toList, c127)
noncomputable def c128 : Code := Tryz.f128.body.getD .skip
noncomputable def g128 : Nat × List ResultVar × Code := (45, Tryz.f128.results.toList, c128)
noncomputable def c129 : Code := Tryz.f129.body.getD .skip
noncomputable def g129 : Nat × List ResultVar × Code := (23, Tryz.f129.results.toList, c129)
noncomputable def c130 : Code := Tryz.f130.body.getD .skip
noncomputable def g130 : Nat × List ResultVar × Code := (13, Tryz.f130.results.toList, c130)
noncomputable def c131 : Code := Tryz.f131.body.getD .skip
noncomputable def g131 : Nat × List ResultVar × Code := (11, Tryz.f131.results.toList, c131)
noncomputable def c132 : Code := Tryz.f132.body.getD .skip
noncomputable def g132 : Nat × List ResultVar × Code := (52, Tryz.f132.results.toList, c132)
noncomputable def c133 : Code := Tryz.f133.body.getD .skip
noncomputable def g133 : Nat × List ResultVar × Code := (45, Tryz.f133.results.toList, c133)
noncomputable def c134 : Code := Tryz.f134.body.getD .skip
noncomputable def g134 : Nat × List ResultVar × Code := (41, Tryz.f134.results.toList, c134)
noncomputable def c135 : Code := Tryz.f135.body.getD .skip
noncomputable def g135 : Nat × List ResultVar × Code := (35, Tryz.f135.results.toList, c135)
noncomputable def c136 : Code := Tryz.f136.body.getD .skip
noncomputable def g136 : Nat × List ResultVar × Code := (12, Tryz.f136.results.toList, c136)
noncomputable def c137 : Code := Tryz.f137.body.getD .skip
noncomputable def g137 : Nat × List ResultVar × Code := (55, Tryz.f137.results.toList, c137)
noncomputable def c138 : Code := Tryz.f138.body.getD .skip
noncomputable def g138 : Nat × List ResultVar × Code := (25, Tryz.f138.results.toList, c138)
noncomputable def c139 : Code := Tryz.f139.body.getD .skip
noncomputable def g139 : Nat × List ResultVar × Code := (54, Tryz.f139.results.toList, c139)
noncomputable def c140 : Code := Tryz.f140.body.getD .skip
noncomputable def g140 : Nat × List ResultVar × Code := (41, Tryz.f140.results.toList, c140)
noncomputable def c141 : Code := Tryz.f141.body.getD .skip
noncomputable def g141 : Nat × List ResultVar × Code := (51, Tryz.f141.results.toList, c141)
noncomputable def c143 : Code := Tryz.f143.body.getD .skip
noncomputable def g143 : Nat × List ResultVar × Code := (21, Tryz.f143.results.toList, c143)
noncomputable def c144 : Code := Tryz.f144.body.getD .skip
noncomputable def g144 : Nat × List ResultVar × Code := (214, Tryz.f144.results.toList, c144)
noncomputable def c145 : Code := Tryz.f145.body.getD .skip
noncomputable def g145 : Nat × List ResultVar × Code := (32, Tryz.f145.results.toList, c145)
noncomputable def c146 : Code := Tryz.f146.body.getD .skip
noncomputable def g146 : Nat × List ResultVar × Code := (15, Tryz.f146.results.toList, c146)
noncomputable def c147 : Code := Tryz.f147.body.getD .skip
noncomputable def g147 : Nat × List ResultVar × Code := (6, Tryz.f147.results.toList, c147)
noncomputable def c148 : Code := Tryz.f148.body.getD .skip
noncomputable def g148 : Nat × List ResultVar × Code := (63, Tryz.f148.results.toList, c148)
noncomputable def c149 : Code := Tryz.f149.body.getD .skip
noncomputable def g149 : Nat × List ResultVar × Code := (35, Tryz.f149.results.toList, c149)
noncomputable def c150 : Code := Tryz.f150.body.getD .skip
noncomputable def g150 : Nat × List ResultVar × Code := (45, Tryz.f150.results.toList, c150)
noncomputable def c151 : Code := Tryz.f151.body.getD .skip
noncomputable def g151 : Nat × List ResultVar × Code := (8, Tryz.f151.results.toList, c151)
noncomputable def c152 : Code := Tryz.f152.body.getD .skip
noncomputable def g152 : Nat × List ResultVar × Code := (125, Tryz.f152.results.toList, c152)
noncomputable def c153 : Code := Tryz.f153.body.getD .skip
noncomputable def g153 : Nat × List ResultVar × Code := (28, Tryz.f153.results.toList, c153)
noncomputable def c154 : Code := Tryz.f154.body.getD .skip
noncomputable def g154 : Nat × List ResultVar × Code := (75, Tryz.f154.results.toList, c154)
noncomputable def c155 : Code := Tryz.f155.body.getD .skip
noncomputable def g155 : Nat × List ResultVar × Code := (143, Tryz.f155.results.toList, c155)
noncomputable def c156 : Code := Tryz.f156.body.getD .skip
noncomputable def g156 : Nat × List ResultVar × Code := (18, Tryz.f156.results.toList, c156)
noncomputable def c157 : Code := Tryz.f157.body.getD .skip
noncomputable def g157 : Nat × List ResultVar × Code := (15, Tryz.f157.results.toList, c157)
noncomputable def c158 : Code := Tryz.f158.body.getD .skip
noncomputable def g158 : Nat × List ResultVar × Code := (114, Tryz.f158.results.toList, c158)
noncomputable def c159 : Code := Tryz.f159.body.getD .skip
noncomputable def g159 : Nat × List ResultVar × Code := (15, Tryz.f159.results.toList, c159)
noncomputable def c160 : Code := Tryz.f160.body.getD .skip
noncomputable def g160 : Nat × List ResultVar × Code := (135, Tryz.f160.results.toList, c160)
noncomputable def c162 : Code := Tryz.f162.body.getD .skip
noncomputable def g162 : Nat × List ResultVar × Code := (6, Tryz.f162.results.toList, c162)
noncomputable def c163 : Code := Tryz.f163.body.getD .skip
noncomputable def g163 : Nat × List ResultVar × Code := (59, Tryz.f163.results.toList, c163)
noncomputable def c164 : Code := Tryz.f164.body.getD .skip
noncomputable def g164 : Nat × List ResultVar × Code := (40, Tryz.f164.results.toList, c164)
noncomputable def c165 : Code := Tryz.f165.body.getD .skip
noncomputable def g165 : Nat × List ResultVar × Code := (50, Tryz.f165.results.toList, c165)
noncomputable def c166 : Code := Tryz.f166.body.getD .skip
noncomputable def g166 : Nat × List ResultVar × Code := (15, Tryz.f166.results.toList, c166)
noncomputable def c167 : Code := Tryz.f167.body.getD .skip
noncomputable def g167 : Nat × List ResultVar × Code := (6, Tryz.f167.results.toList, c167)
noncomputable def c168 : Code := Tryz.f168.body.getD .skip
noncomputable def g168 : Nat × List ResultVar × Code := (10, Tryz.f168.results.toList, c168)
noncomputable def c170 : Code := Tryz.f170.body.getD .skip
noncomputable def g170 : Nat × List ResultVar × Code := (13, Tryz.f170.results.toList, c170)
noncomputable def c171 : Code := Tryz.f171.body.getD .skip
noncomputable def g171 : Nat × List ResultVar × Code := (8, Tryz.f171.results.toList, c171)
noncomputable def c173 : Code := Tryz.f173.body.getD .skip
noncomputable def g173 : Nat × List ResultVar × Code := (8, Tryz.f173.results.toList, c173)
noncomputable def c174 : Code := Tryz.f174.body.getD .skip
noncomputable def g174 : Nat × List ResultVar × Code := (32, Tryz.f174.results.toList, c174)
noncomputable def c175 : Code := Tryz.f175.body.getD .skip
noncomputable def g175 : Nat × List ResultVar × Code := (30, Tryz.f175.results.toList, c175)
noncomputable def c176 : Code := Tryz.f176.body.getD .skip
noncomputable def g176 : Nat × List ResultVar × Code := (8, Tryz.f176.results.toList, c176)
noncomputable def c177 : Code := Tryz.f177.body.getD .skip
noncomputable def g177 : Nat × List ResultVar × Code := (25, Tryz.f177.results.toList, c177)
noncomputable def c178 : Code := Tryz.f178.body.getD .skip
noncomputable def g178 : Nat × List ResultVar × Code := (19, Tryz.f178.results.toList, c178)
noncomputable def c179 : Code := Tryz.f179.body.getD .skip
noncomputable def g179 : Nat × List ResultVar × Code := (8, Tryz.f179.results.toList, c179)
noncomputable def c181 : Code := Tryz.f181.body.getD .skip
noncomputable def g181 : Nat × List ResultVar × Code := (8, Tryz.f181.results.toList, c181)
noncomputable def c183 : Code := Tryz.f183.body.getD .skip
noncomputable def g183 : Nat × List ResultVar × Code := (6, Tryz.f183.results.toList, c183)
noncomputable def c184 : Code := Tryz.f184.body.getD .skip
noncomputable def g184 : Nat × List ResultVar × Code := (81, Tryz.f184.results.toList, c184)
noncomputable def c185 : Code := Tryz.f185.body.getD .skip
noncomputable def g185 : Nat × List ResultVar × Code := (7, Tryz.f185.results.toList, c185)
noncomputable def c186 : Code := Tryz.f186.body.getD .skip
noncomputable def g186 : Nat × List ResultVar × Code := (15, Tryz.f186.results.toList, c186)
noncomputable def c187 : Code := Tryz.f187.body.getD .skip
noncomputable def g187 : Nat × List ResultVar × Code := (15, Tryz.f187.results.toList, c187)
noncomputable def c188 : Code := Tryz.f188.body.getD .skip
noncomputable def g188 : Nat × List ResultVar × Code := (167, Tryz.f188.results.toList, c188)
noncomputable def c189 : Code := Tryz.f189.body.getD .skip
noncomputable def g189 : Nat × List ResultVar × Code := (102, Tryz.f189.results.toList, c189)
noncomputable def c190 : Code := Tryz.f190.body.getD .skip
noncomputable def g190 : Nat × List ResultVar × Code := (17, Tryz.f190.results.toList, c190)
noncomputable def c191 : Code := Tryz.f191.body.getD .skip
noncomputable def g191 : Nat × List ResultVar × Code := (20, Tryz.f191.results.toList, c191)
noncomputable def c192 : Code := Tryz.f192.body.getD .skip
noncomputable def g192 : Nat × List ResultVar × Code := (30, Tryz.f192.results.toList, c192)
noncomputable def c194 : Code := Tryz.f194.body.getD .skip
noncomputable def g194 : Nat × List ResultVar × Code := (39, Tryz.f194.results.toList, c194)
noncomputable def c195 : Code := Tryz.f195.body.getD .skip
noncomputable def g195 : Nat × List ResultVar × Code := (6, Tryz.f195.results.toList, c195)
noncomputable def c196 : Code := Tryz.f196.body.getD .skip
noncomputable def g196 : Nat × List ResultVar × Code := (4, Tryz.f196.results.toList, c196)
noncomputable def c197 : Code := Tryz.f197.body.getD .skip
noncomputable def g197 : Nat × List ResultVar × Code := (8, Tryz.f197.results.toList, c197)
noncomputable def c198 : Code := Tryz.f198.body.getD .skip
noncomputable def g198 : Nat × List ResultVar × Code := (8, Tryz.f198.results.toList, c198)
noncomputable def c201 : Code := Tryz.f201.body.getD .skip
noncomputable def g201 : Nat × List ResultVar × Code := (14, Tryz.f201.results.toList, c201)
noncomputable def c202 : Code := Tryz.f202.body.getD .skip
noncomputable def g202 : Nat × List ResultVar × Code := (14, Tryz.f202.results.toList, c202)
noncomputable def c226 : Code := Tryz.f226.body.getD .skip
noncomputable def g226 : Nat × List ResultVar × Code := (3, Tryz.f226.results.toList, c226)
noncomputable def fnT : Tr (Nat × List ResultVar × Code) := (.nd (.nd (.nd (.nd (.nd (.nd (.nd (.nd .lf (some g127) .lf) (some g63) (.nd .lf (some g191) .lf)) (some g31) (.nd (.nd .lf (some g159) .lf) (some g95) .lf)) (some g15) (.nd (.nd (.nd .lf (some g143) .lf) (some g79) .lf) (some g47) (.nd (.nd .lf (some g175) .lf) (some g111) .lf))) (some g7) (.nd (.nd (.nd (.nd .lf (some g135) .lf) (some g71) .lf) (some g39) (.nd (.nd .lf (some g167) .lf) (some g103) .lf)) (some g23) (.nd (.nd (.nd .lf (some g151) .lf) (some g87) .lf) (some g55) (.nd (.nd .lf (some g183) .lf) (some g119) .lf)))) (some g3) (.nd (.nd (.nd (.nd (.nd .lf (some g131) .lf) (some g67) (.nd .lf (some g195) .lf)) (some g35) (.nd (.nd .lf (some g163) .lf) (some g99) .lf)) (some g19) (.nd (.nd (.nd .lf (some g147) .lf) (some g83) .lf) (some g51) (.nd (.nd .lf (some g179) .lf) (some g115) .lf))) (some g11) (.nd (.nd (.nd (.nd .lf (some g139) .lf) (some g75) .lf) (some g43) (.nd (.nd .lf (some g171) .lf) (some g107) .lf)) (some g27) (.nd (.nd (.nd .lf (some g155) .lf) (some g91) .lf) (some g59) (.nd (.nd .lf (some g187) .lf) (some g123) .lf))))) none (.nd (.nd (.nd (.nd (.nd (.nd .lf (some g129) .lf) (some g65) .lf) (some g33) (.nd .lf (some g97) .lf)) (some g17) (.nd (.nd (.nd .lf (some g145) .lf) (some g81) .lf) (some g49) (.nd (.nd .lf (some g177) .lf) (some g113) .lf))) (some g9) (.nd (.nd (.nd (.nd .lf (some g137) .lf) (some g73) (.nd .lf (some g201) .lf)) (some g41) (.nd .lf (some g105) .lf)) (some g25) (.nd (.nd (.nd .lf (some g153) .lf) (some g89) .lf) (some g57) (.nd (.nd .lf (some g185) .lf) (some g121) .lf)))) (some g5) (.nd (.nd (.nd (.nd (.nd .lf (some g133) .lf) (some g69) (.nd .lf (some g197) .lf)) (some g37) (.nd (.nd .lf (some g165) .lf) (some g101) .lf)) (some g21) (.nd (.nd (.nd .lf (some g149) .lf) (some g85) .lf) (some g53) (.nd (.nd .lf (some g181) .lf) (some g117) .lf))) (some g13) (.nd (.nd (.nd (.nd .lf (some g141) .lf) (some g77) .lf) (some g45) (.nd (.nd .lf (some g173) .lf) (some g109) .lf)) (some g29) (.nd (.nd (.nd .lf (some g157) .lf) (some g93) .lf) (some g61) (.nd (.nd .lf (some g189) .lf) none .lf)))))) none (.nd (.nd (.nd (.nd (.nd (.nd (.nd .lf (some g128) .lf) (some g64) (.nd .lf (some g192) .lf)) (some g32) (.nd (.nd .lf (some g160) .lf) (some g96) .lf)) (some g16) (.nd (.nd (.nd .lf (some g144) .lf) (some g80) .lf) (some g48) (.nd (.nd .lf (some g176) .lf) (some g112) .lf))) (some g8) (.nd (.nd (.nd (.nd .lf (some g136) .lf) (some g72) .lf) (some g40) (.nd (.nd .lf (some g168) .lf) (some g104) .lf)) (some g24) (.nd (.nd (.nd .lf (some g152) .lf) (some g88) .lf) (some g56) (.nd (.nd .lf (some g184) .lf) (some g120) .lf)))) (some g4) (.nd (.nd (.nd (.nd (.nd .lf (some g132) .lf) (some g68) (.nd .lf (some g196) .lf)) (some g36) (.nd (.nd .lf (some g164) .lf) (some g100) .lf)) (some g20) (.nd (.nd (.nd .lf (some g148) .lf) (some g84) .lf) (some g52) (.nd .lf (some g116) .lf))) (some g12) (.nd (.nd (.nd (.nd .lf (some g140) .lf) (some g76) .lf) (some g44) (.nd .lf (some g108) .lf)) (some g28) (.nd (.nd (.nd .lf (some g156) .lf) (some g92) .lf) (some g60) (.nd (.nd .lf (some g188) .lf) (some g124) .lf))))) (some g2) (.nd (.nd (.nd (.nd (.nd (.nd .lf (some g130) .lf) (some g66) (.nd .lf (some g194) .lf)) (some g34) (.nd (.nd .lf (some g162) .lf) (some g98) (.nd .lf (some g226) .lf))) (some g18) (.nd (.nd (.nd .lf (some g146) .lf) (some g82) .lf) (some g50) (.nd (.nd .lf (some g178) .lf) (some g114) .lf))) (some g10) (.nd (.nd (.nd (.nd .lf (some g138) .lf) (some g74) (.nd .lf (some g202) .lf)) (some g42) (.nd (.nd .lf (some g170) .lf) (some g106) .lf)) (some g26) (.nd (.nd (.nd .lf (some g154) .lf) (some g90) .lf) (some g58) (.nd (.nd .lf (some g186) .lf) (some g122) .lf)))) (some g6) (.nd (.nd (.nd (.nd (.nd .lf (some g134) .lf) (some g70) (.nd .lf (some g198) .lf)) (some g38) (.nd (.nd .lf (some g166) .lf) (some g102) .lf)) (some g22) (.nd (.nd (.nd .lf (some g150) .lf) (some g86) .lf) (some g54) (.nd .lf (some g118) .lf))) (some g14) (.nd (.nd (.nd .lf (some g78) .lf) (some g46) (.nd (.nd .lf (some g174) .lf) (some g110) .lf)) (some g30) (.nd (.nd (.nd .lf (some g158) .lf) (some g94) .lf) (some g62) (.nd (.nd .lf (some g190) .lf) (some g126) .lf)))))))
noncomputable def exT : Tr Ext1 := (.nd (.nd .lf none (.nd (.nd (.nd (.nd (.nd .lf none (.nd .lf (some xIndexByte) .lf)) none .lf) none .lf) none (.nd (.nd .lf none (.nd (.nd .lf (some xBits) .lf) none .lf)) none .lf)) none (.nd .lf none (.nd .lf none (.nd .lf none (.nd .lf (some xBits32) .lf)))))) none (.nd (.nd .lf none (.nd .lf none (.nd (.nd .lf none (.nd (.nd .lf (some xFrom) .lf) none .lf)) none .lf))) none .lf))
noncomputable def prT : Tr Prm := (.nd (.nd (.nd (.nd (.nd (.nd .lf none (.nd .lf (some pIsOne) .lf)) none .lf) none (.nd (.nd (.nd (.nd .lf (some pDivideSmall) .lf) none .lf) none (.nd .lf (some pAdd) .lf)) none .lf)) none (.nd (.nd (.nd .lf none (.nd .lf (some pCompare) .lf)) none .lf) none (.nd (.nd .lf none (.nd .lf (some pSigned) .lf)) none (.nd .lf none (.nd .lf (some pInt64) .lf))))) none (.nd (.nd .lf none (.nd (.nd .lf none (.nd .lf (some pNeg) .lf)) none .lf)) none (.nd (.nd (.nd .lf none (.nd .lf (some pShifted) .lf)) none .lf) none (.nd (.nd .lf none (.nd .lf (some pQuoRem) .lf)) none (.nd .lf (some pFloor) .lf))))) none (.nd (.nd (.nd .lf none (.nd (.nd .lf none (.nd .lf (some pQuo) .lf)) none (.nd (.nd .lf (some pOf) .lf) none .lf))) none (.nd (.nd (.nd (.nd (.nd .lf (some pMultiplyAdd) .lf) none .lf) none (.nd .lf (some pSign) .lf)) none .lf) none (.nd .lf none (.nd .lf (some pMul) .lf)))) none (.nd (.nd (.nd .lf none (.nd (.nd (.nd .lf (some pIsOdd) .lf) none .lf) none .lf)) none (.nd .lf none (.nd (.nd (.nd .lf (some pJoin) .lf) none .lf) none .lf))) none (.nd (.nd (.nd .lf none (.nd .lf (some pBitLen) .lf)) none .lf) none (.nd (.nd .lf none (.nd .lf (some pSub) .lf)) none (.nd (.nd .lf (some pDivisor) .lf) none .lf))))))
noncomputable def E : Env := { ty := tyT, fn := fnT, prim := fun f h a => match prT.get f with | some g => g h a | none => none, ext := fun f a => match exT.get f with | some g => g a | none => none }
end Go.Sx.Seat
