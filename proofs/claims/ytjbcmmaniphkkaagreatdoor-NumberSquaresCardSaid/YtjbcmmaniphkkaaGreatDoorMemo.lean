import Derived.Test.YtjbcmmaniphkkaaGreatDoorSeatTab
set_option linter.unusedSectionVars false
set_option linter.unusedVariables false
set_option linter.unusedSimpArgs false
namespace Go.Sx.Seat
open Go
variable [Unk]
def x0:FuncId × List AV × AV:=(51,[.int .i64 (15),.int .i64 (-6)],.tup [.str [45,53,47,50],.int .i64 (0)])
theorem r0:fY E 1000 59 x0.1 x0.2.1 x0.2.2=true:=by kernel_rfl
def x1:FuncId × List AV × AV:=(52,[.str [45,53,47,50]],.tup [.str [45,51],.int .i64 (0)])
theorem r1:fY E 1000 59 x1.1 x1.2.1 x1.2.2=true:=by kernel_rfl
def x2:FuncId × List AV × AV:=(22,[.agg [.str [45,49],.str [50]],.agg [.str [45,51],.str [52]]],.tup [.agg [.str [45,54],.str [56]],.int .i64 (0)])
theorem r2:fY E 1000 59 x2.1 x2.2.1 x2.2.2=true:=by kernel_rfl
def x3:FuncId × List AV × AV:=(23,[.agg [.str [49],.str [50]],.agg [.str [52],.str [56]]],.tup [.agg [.str [49,47,56],.str [49,47,50]],.int .i64 (0)])
theorem r3:fY E 1000 59 x3.1 x3.2.1 x3.2.2=true:=by kernel_rfl
def x4:FuncId × List AV × AV:=(16,[.agg [.str [45,49],.str [50]]],.tup [.agg [.str [48],.str [52]],.int .i64 (0)])
theorem r4:fY E 1000 59 x4.1 x4.2.1 x4.2.2=true:=by kernel_rfl
def x5:FuncId × List AV × AV:=(24,[.agg [.str [49],.str [50]],.agg [.str [51],.str [52]]],.tup [.int .i64 (-1),.int .i64 (0)])
theorem r5:fY E 1000 59 x5.1 x5.2.1 x5.2.2=true:=by kernel_rfl
def x6:FuncId × List AV × AV:=(24,[.agg [.str [49],.str [50]],.agg [.str [50],.str [51]]],.tup [.int .i64 (0),.int .i64 (24)])
theorem r6:fY E 1000 59 x6.1 x6.2.1 x6.2.2=true:=by kernel_rfl
def x7:FuncId × List AV × AV:=(8,[.str [50],.int .i64 (3)],.tup [.agg [.str [55,48,55,47,53,48,48],.str [50,56,51,47,50,48,48]],.int .i64 (0)])
theorem r7:fY E 1000 59 x7.1 x7.2.1 x7.2.2=true:=by kernel_rfl
def x8:FuncId × List AV × AV:=(53,[.str [49,47,54],.int .i64 (5)],.tup [.agg [.str [49,47,50],.str [49,47,50]],.int .i64 (0)])
theorem r8:fY E 1000 59 x8.1 x8.2.1 x8.2.2=true:=by kernel_rfl
def x9:FuncId × List AV × AV:=(53,[.str [49,47,56],.int .i64 (3)],.tup [.agg [.str [55,48,55,47,49,48,48,48],.str [49,55,55,47,50,53,48]],.int .i64 (0)])
theorem r9:fY E 1000 59 x9.1 x9.2.1 x9.2.2=true:=by kernel_rfl
def x10:FuncId × List AV × AV:=(54,[.str [45,49,47,56],.int .i64 (3)],.tup [.agg [.str [45,49,55,55,47,50,53,48],.str [45,55,48,55,47,49,48,48,48]],.int .i64 (0)])
theorem r10:fY E 1000 59 x10.1 x10.2.1 x10.2.2=true:=by kernel_rfl
def x11:FuncId × List AV × AV:=(55,[.str [49,47,52],.int .i64 (2)],.tup [.agg [.str [48],.str [48],.str [49],.str [49]],.int .i64 (0)])
theorem r11:fY E 1000 59 x11.1 x11.2.1 x11.2.2=true:=by kernel_rfl
def x12:FuncId × List AV × AV:=(37,[.agg [.str [49],.str [49],.str [50],.str [50]],.agg [.str [51],.str [51],.str [45,49],.str [45,49]]],.tup [.agg [.str [53],.str [53],.str [53],.str [53]],.int .i64 (0)])
theorem r12:fY E 1000 59 x12.1 x12.2.1 x12.2.2=true:=by kernel_rfl
def x13:FuncId × List AV × AV:=(34,[.agg [.str [49],.str [49],.str [50],.str [50]]],.tup [.agg [.str [49],.str [49],.str [45,50],.str [45,50]],.int .i64 (0)])
theorem r13:fY E 1000 59 x13.1 x13.2.1 x13.2.2=true:=by kernel_rfl
def x14:FuncId × List AV × AV:=(35,[.agg [.str [49],.str [49],.str [50],.str [50]]],.tup [.agg [.str [53],.str [53]],.int .i64 (0)])
theorem r14:fY E 1000 59 x14.1 x14.2.1 x14.2.2=true:=by kernel_rfl
def x15:FuncId × List AV × AV:=(59,[.str [49,47,51]],.tup [.float .f32 1051372203,.int .i64 (0)])
theorem r15:fY E 1000 59 x15.1 x15.2.1 x15.2.2=true:=by kernel_rfl
def x16:FuncId × List AV × AV:=(60,[.float .f32 1051372203],.tup [.str [49,49,49,56,52,56,49,49,47,51,51,53,53,52,52,51,50],.int .i64 (0)])
theorem r16:fY E 1000 59 x16.1 x16.2.1 x16.2.2=true:=by kernel_rfl
def x17:FuncId × List AV × AV:=(59,[.str [49,54,55,55,55,50,49,55]],.tup [.float .f32 1266679808,.int .i64 (0)])
theorem r17:fY E 1000 59 x17.1 x17.2.1 x17.2.2=true:=by kernel_rfl
def known:List (FuncId × List AV × AV):=[x0,x1,x2,x3,x4,x5,x6,x7,x8,x9,x10,x11,x12,x13,x14,x15,x16,x17]
end Go.Sx.Seat
namespace Go.Sx.Seat
open Go
variable [Unk]
theorem aw:fY (zC E known) 1000 60 6 [] (.bool true)=true:=by kernel_rfl
end Go.Sx.Seat
