/- What is proved here: contracts of library functions, each one application of the library's own theorem at this seat's numbers. -/
import Derived.Shelf.Small.Bits
import Derived.Shelf.Strconv.Itoa0
import Derived.Ground.GgsProg
import Derived.Shelf.GgSortFunc.Insertion
import Derived.Shelf.GgSortFunc.Small
import Derived.Shelf.GgSortFunc.InsertionK
import Derived.Shelf.GgSortFunc.SmallK
import Derived.Shelf.GgSortFunc.Compose
import Derived.Shelf.GgSortFunc.LotD
import Derived.Shelf.Bits.Mul64
import Derived.Shelf.SlSortFunc.Xorshift
import Derived.Shelf.SlSortFuncK.ComposeK
import Derived.Shelf.SlSortFuncK.SiftDownK
import Derived.Shelf.SlSortFuncK.HeapSortK
import Derived.Shelf.SlSortFuncK.PartialInsertionK
import Derived.Shelf.SlSortFuncK.LotDK
import Derived.Shelf.SlSortFuncK.PivotK
import Derived.Shelf.SlSortFuncK.PartitionK
import Derived.Shelf.SlSortFuncK.PdqK
import Derived.Shelf.SlSortFuncK.WholeK
import Derived.Test.YtdidnnbpdcanlaaGreatDoorProg
namespace Go.Proofs.YtdidnnbpdcanlaaGreatDoor
open Go.Shelf Go.Proofs
def Tryz.lays134_ren:Go.Shelf.Ren:=⟨fun|134=>214|129=>126|n=>n,fun|53=>122|3=>3|4=>4|46=>108|5=>5|9=>9|n=>n,fun|n=>n⟩
theorem Tryz.lays134:Go.Proofs.Lays.n134 Tryz.prog Tryz.lays134_ren:={
 mixed:=by kernel_rfl
 f129:=Tryz.func126.trans (congrArg some (by kernel_rfl))
 f134:=Tryz.func214.trans (congrArg some (by kernel_rfl))
 t3:=Tryz.underlying3
 a3:=Tryz.isAgg3
 z3:=Tryz.sizeOf3
 v3:=Tryz.zeroValue3
 t4:=Tryz.underlying4
 a4:=Tryz.isAgg4
 z4:=Tryz.sizeOf4
 v4:=Tryz.zeroValue4
 t5:=Tryz.underlying5
 a5:=Tryz.isAgg5
 z5:=Tryz.sizeOf5
 v5:=Tryz.zeroValue5
 t9:=Tryz.underlying9
 a9:=Tryz.isAgg9
 z9:=Tryz.sizeOf9
 v9:=Tryz.zeroValue9
 t46:=Tryz.underlying108
 a46:=Tryz.isAgg108
 z46:=Tryz.sizeOf108
 v46:=Tryz.zeroValue108
 t53:=Tryz.underlying122
 a53:=Tryz.isAgg122
 z53:=Tryz.sizeOf122
 v53:=Tryz.zeroValue122}
theorem Tryz.bits_LeadingZeros64 (x:Int) (w:World) (h0:0≤x) (h1:x≤18446744073709551615):
  Calls Tryz.prog 214 #[.int .u64 x] w fun e w'=>e= .returned (.int .i64 (64-(Lib.bitLen x.toNat:Int)))∧w'=w:=Any.bits_LeadingZeros64 Tryz.lays134 x w h0 h1
def Tryz.lays129_ren:Go.Shelf.Ren:=⟨fun|129=>126|n=>n,fun|53=>122|3=>3|4=>4|46=>108|5=>5|9=>9|n=>n,fun|n=>n⟩
theorem Tryz.lays129:Go.Proofs.Lays.n129 Tryz.prog Tryz.lays129_ren:={
 mixed:=by kernel_rfl
 f129:=Tryz.func126.trans (congrArg some (by kernel_rfl))
 t3:=Tryz.underlying3
 a3:=Tryz.isAgg3
 z3:=Tryz.sizeOf3
 v3:=Tryz.zeroValue3
 t4:=Tryz.underlying4
 a4:=Tryz.isAgg4
 z4:=Tryz.sizeOf4
 v4:=Tryz.zeroValue4
 t5:=Tryz.underlying5
 a5:=Tryz.isAgg5
 z5:=Tryz.sizeOf5
 v5:=Tryz.zeroValue5
 t9:=Tryz.underlying9
 a9:=Tryz.isAgg9
 z9:=Tryz.sizeOf9
 v9:=Tryz.zeroValue9
 t46:=Tryz.underlying108
 a46:=Tryz.isAgg108
 z46:=Tryz.sizeOf108
 v46:=Tryz.zeroValue108
 t53:=Tryz.underlying122
 a53:=Tryz.isAgg122
 z53:=Tryz.sizeOf122
 v53:=Tryz.zeroValue122}
theorem Tryz.bits_Len64 (x:Int) (w:World) (h0:0≤x) (h1:x≤18446744073709551615):
  Calls Tryz.prog 126 #[.int .u64 x] w fun e w'=>e= .returned (.int .i64 (Lib.bitLen x.toNat))∧w'=w:=Any.bits_Len64 Tryz.lays129 x w h0 h1
def Tryz.laysGg6_ren:Go.Shelf.Ren:=⟨fun|6=>28|10=>68|11=>69|12=>70|13=>71|14=>72|24=>125|25=>126|26=>127|27=>128|28=>129|29=>130|30=>131|31=>132|32=>133|33=>134|34=>177|35=>178|36=>179|37=>180|38=>181|39=>222|n=>n,fun|20=>20|26=>59|35=>103|0=>0|37=>105|3=>3|41=>108|44=>111|49=>152|51=>122|4=>4|54=>156|53=>155|58=>160|5=>5|9=>9|60=>191|64=>193|66=>229|67=>230|17=>17|32=>100|33=>101|82=>286|12=>12|75=>279|76=>280|77=>281|78=>282|79=>283|80=>284|n=>n,fun|n=>n⟩
theorem Tryz.laysGg6:Go.Proofs.LaysGg.n6 Tryz.prog Tryz.laysGg6_ren:={
 mixed:=by kernel_rfl
 f6:=Tryz.func28.trans (congrArg some (by kernel_rfl))
 f10:=Tryz.func68.trans (congrArg some (by kernel_rfl))
 f11:=Tryz.func69.trans (congrArg some (by kernel_rfl))
 f12:=Tryz.func70.trans (congrArg some (by kernel_rfl))
 f13:=Tryz.func71.trans (congrArg some (by kernel_rfl))
 f14:=Tryz.func72.trans (congrArg some (by kernel_rfl))
 f24:=Tryz.func125.trans (congrArg some (by kernel_rfl))
 f25:=Tryz.func126.trans (congrArg some (by kernel_rfl))
 f26:=Tryz.func127.trans (congrArg some (by kernel_rfl))
 f27:=Tryz.func128.trans (congrArg some (by kernel_rfl))
 f28:=Tryz.func129.trans (congrArg some (by kernel_rfl))
 f29:=Tryz.func130.trans (congrArg some (by kernel_rfl))
 f30:=Tryz.func131.trans (congrArg some (by kernel_rfl))
 f31:=Tryz.func132.trans (congrArg some (by kernel_rfl))
 f32:=Tryz.func133.trans (congrArg some (by kernel_rfl))
 f33:=Tryz.func134.trans (congrArg some (by kernel_rfl))
 f34:=Tryz.func177.trans (congrArg some (by kernel_rfl))
 f35:=Tryz.func178.trans (congrArg some (by kernel_rfl))
 f36:=Tryz.func179.trans (congrArg some (by kernel_rfl))
 f37:=Tryz.func180.trans (congrArg some (by kernel_rfl))
 f38:=Tryz.func181.trans (congrArg some (by kernel_rfl))
 f39:=Tryz.func222.trans (congrArg some (by kernel_rfl))
 t0:=Tryz.underlying0
 a0:=Tryz.isAgg0
 z0:=Tryz.sizeOf0
 v0:=Tryz.zeroValue0
 i0:=by kernel_rfl
 t3:=Tryz.underlying3
 a3:=Tryz.isAgg3
 z3:=Tryz.sizeOf3
 v3:=Tryz.zeroValue3
 i3:=by kernel_rfl
 t4:=Tryz.underlying4
 a4:=Tryz.isAgg4
 z4:=Tryz.sizeOf4
 v4:=Tryz.zeroValue4
 i4:=by kernel_rfl
 t5:=Tryz.underlying5
 a5:=Tryz.isAgg5
 z5:=Tryz.sizeOf5
 v5:=Tryz.zeroValue5
 i5:=by kernel_rfl
 t9:=Tryz.underlying9
 a9:=Tryz.isAgg9
 z9:=Tryz.sizeOf9
 v9:=Tryz.zeroValue9
 i9:=by kernel_rfl
 t12:=Tryz.underlying12
 a12:=Tryz.isAgg12
 z12:=Tryz.sizeOf12
 v12:=Tryz.zeroValue12
 i12:=by kernel_rfl
 t17:=Tryz.underlying17
 a17:=Tryz.isAgg17
 z17:=Tryz.sizeOf17
 v17:=Tryz.zeroValue17
 i17:=by kernel_rfl
 t20:=Tryz.underlying20
 a20:=Tryz.isAgg20
 z20:=Tryz.sizeOf20
 v20:=Tryz.zeroValue20
 i20:=by kernel_rfl
 t26:=Tryz.underlying59
 a26:=Tryz.isAgg59
 z26:=Tryz.sizeOf59
 v26:=Tryz.zeroValue59
 i26:=by kernel_rfl
 t32:=Tryz.underlying100
 a32:=Tryz.isAgg100
 z32:=Tryz.sizeOf100
 v32:=Tryz.zeroValue100
 i32:=by kernel_rfl
 t33:=Tryz.underlying101
 a33:=Tryz.isAgg101
 z33:=Tryz.sizeOf101
 v33:=Tryz.zeroValue101
 i33:=by kernel_rfl
 t35:=Tryz.underlying103
 a35:=Tryz.isAgg103
 z35:=Tryz.sizeOf103
 v35:=Tryz.zeroValue103
 i35:=by kernel_rfl
 t37:=Tryz.underlying105
 a37:=Tryz.isAgg105
 z37:=Tryz.sizeOf105
 v37:=Tryz.zeroValue105
 i37:=by kernel_rfl
 t41:=Tryz.underlying108
 a41:=Tryz.isAgg108
 z41:=Tryz.sizeOf108
 v41:=Tryz.zeroValue108
 i41:=by kernel_rfl
 t44:=Tryz.underlying111
 a44:=Tryz.isAgg111
 z44:=Tryz.sizeOf111
 v44:=Tryz.zeroValue111
 i44:=by kernel_rfl
 t49:=Tryz.underlying152
 a49:=Tryz.isAgg152
 z49:=Tryz.sizeOf152
 v49:=Tryz.zeroValue152
 i49:=by kernel_rfl
 t51:=Tryz.underlying122
 a51:=Tryz.isAgg122
 z51:=Tryz.sizeOf122
 v51:=Tryz.zeroValue122
 i51:=by kernel_rfl
 t53:=Tryz.underlying155
 a53:=Tryz.isAgg155
 z53:=Tryz.sizeOf155
 v53:=Tryz.zeroValue155
 i53:=by kernel_rfl
 t54:=Tryz.underlying156
 a54:=Tryz.isAgg156
 z54:=Tryz.sizeOf156
 v54:=Tryz.zeroValue156
 i54:=by kernel_rfl
 t58:=Tryz.underlying160
 a58:=Tryz.isAgg160
 z58:=Tryz.sizeOf160
 v58:=Tryz.zeroValue160
 i58:=by kernel_rfl
 t60:=Tryz.underlying191
 a60:=Tryz.isAgg191
 z60:=Tryz.sizeOf191
 v60:=Tryz.zeroValue191
 i60:=by kernel_rfl
 t64:=Tryz.underlying193
 a64:=Tryz.isAgg193
 z64:=Tryz.sizeOf193
 v64:=Tryz.zeroValue193
 i64:=by kernel_rfl
 t66:=Tryz.underlying229
 a66:=Tryz.isAgg229
 z66:=Tryz.sizeOf229
 v66:=Tryz.zeroValue229
 i66:=by kernel_rfl
 t67:=Tryz.underlying230
 a67:=Tryz.isAgg230
 z67:=Tryz.sizeOf230
 v67:=Tryz.zeroValue230
 i67:=by kernel_rfl
 t75:=Tryz.underlying279
 a75:=Tryz.isAgg279
 z75:=Tryz.sizeOf279
 v75:=Tryz.zeroValue279
 i75:=by kernel_rfl
 t76:=Tryz.underlying280
 a76:=Tryz.isAgg280
 z76:=Tryz.sizeOf280
 v76:=Tryz.zeroValue280
 i76:=by kernel_rfl
 t77:=Tryz.underlying281
 a77:=Tryz.isAgg281
 z77:=Tryz.sizeOf281
 v77:=Tryz.zeroValue281
 i77:=by kernel_rfl
 t78:=Tryz.underlying282
 a78:=Tryz.isAgg282
 z78:=Tryz.sizeOf282
 v78:=Tryz.zeroValue282
 i78:=by kernel_rfl
 t79:=Tryz.underlying283
 a79:=Tryz.isAgg283
 z79:=Tryz.sizeOf283
 v79:=Tryz.zeroValue283
 i79:=by kernel_rfl
 t80:=Tryz.underlying284
 a80:=Tryz.isAgg284
 z80:=Tryz.sizeOf284
 v80:=Tryz.zeroValue284
 i80:=by kernel_rfl
 t82:=Tryz.underlying286
 a82:=Tryz.isAgg286
 z82:=Tryz.sizeOf286
 v82:=Tryz.zeroValue286
 i82:=by kernel_rfl}
def Tryz.lays264_ren:Go.Shelf.Ren:=⟨fun|264=>216|n=>n,fun|53=>122|46=>108|n=>n,fun|n=>n⟩
theorem Tryz.lays264:Go.Proofs.Lays.n264 Tryz.prog Tryz.lays264_ren:={
 mixed:=by kernel_rfl
 f264:=Tryz.func216.trans (congrArg some (by kernel_rfl))
 t46:=Tryz.underlying108
 a46:=Tryz.isAgg108
 z46:=Tryz.sizeOf108
 v46:=Tryz.zeroValue108
 t53:=Tryz.underlying122
 a53:=Tryz.isAgg122
 z53:=Tryz.sizeOf122
 v53:=Tryz.zeroValue122}
open Go.RowKit Go.Lib in
theorem Tryz.bits_Mul64 (x y:Nat) (hx:x<18446744073709551616) (hy:y<18446744073709551616) (w:World):
  Calls Tryz.prog 216 #[.int .u64 x,.int .u64 y] w fun e w'=>e= .returned (.tuple #[.int .u64 ((x*y/18446744073709551616:Nat):Int),.int .u64 ((x*y%18446744073709551616:Nat):Int)])∧w'=w:=Any.bits_Mul64 Tryz.lays264 x y hx hy w
end Go.Proofs.YtdidnnbpdcanlaaGreatDoor
