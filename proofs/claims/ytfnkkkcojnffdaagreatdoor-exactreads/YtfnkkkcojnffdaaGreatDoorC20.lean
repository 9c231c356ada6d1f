/- What is proved here: contracts of library functions, each one application of the library's own theorem at this seat's numbers (those that read numbers). -/
import Derived.Test.YtfnkkkcojnffdaaGreatDoorC8
import Derived.Test.YtfnkkkcojnffdaaGreatDoorC16
import Derived.Shelf.Strconv.Lower
import Derived.Shelf.Strconv.ParseUint10
import Derived.Shelf.Strconv.ParseUintEmpty
import Derived.Shelf.Strconv.ParseUint10b64
import Derived.Shelf.Strconv.ParseUint10b32
import Derived.Shelf.Strconv.ParseUint10b16
import Derived.Shelf.Strconv.ParseUint10b8
import Derived.Shelf.Strconv.ParseUint10At
import Derived.Ground.MpProg
import Derived.Shelf.Pu.ParseUintPublic10
namespace Go.Proofs.YtfnkkkcojnffdaaGreatDoor
open Go.Shelf Go.Proofs
def Tryz.laysPu14_ren:Go.Shelf.Ren:=⟨fun|14=>148|16=>190|17=>191|19=>213|20=>214|21=>215|22=>216|23=>217|24=>218|25=>227|27=>12|26=>228|28=>50|29=>111|30=>167|31=>168|32=>169|33=>170|35=>174|34=>203|36=>204|37=>205|38=>206|39=>226|40=>139|n=>n,fun|9=>9|3=>3|22=>78|24=>132|25=>170|4=>4|34=>227|5=>5|36=>156|37=>128|0=>0|39=>229|21=>21|44=>237|47=>191|50=>243|48=>241|2=>2|52=>192|55=>194|59=>219|60=>149|20=>20|61=>220|65=>240|66=>205|67=>36|n=>n,fun|0=>6|1=>7|2=>4|3=>8|4=>1|n=>n⟩
theorem Tryz.laysPu14:Go.Proofs.LaysPu.n14 Tryz.prog Tryz.laysPu14_ren:={
 mixed:=by kernel_rfl
 f14:=Tryz.func148.trans (congrArg some dV)
 f16:=Tryz.func190.trans (congrArg some dV)
 f17:=Tryz.func191.trans (congrArg some dV)
 f19:=Tryz.func213.trans (congrArg some dV)
 f20:=Tryz.func214.trans (congrArg some dV)
 f21:=Tryz.func215.trans (congrArg some dV)
 f22:=Tryz.func216.trans (congrArg some dV)
 f23:=Tryz.func217.trans (congrArg some dV)
 f24:=Tryz.func218.trans (congrArg some dV)
 f25:=Tryz.func227.trans (congrArg some dV)
 f26:=Tryz.func228.trans (congrArg some dV)
 f27:=Tryz.func12.trans (congrArg some dV)
 f28:=Tryz.func50.trans (congrArg some dV)
 f29:=Tryz.func111.trans (congrArg some dV)
 f30:=Tryz.func167.trans (congrArg some dV)
 f31:=Tryz.func168.trans (congrArg some dV)
 f32:=Tryz.func169.trans (congrArg some dV)
 f33:=Tryz.func170.trans (congrArg some dV)
 f34:=Tryz.func203.trans (congrArg some dV)
 f35:=Tryz.func174.trans (congrArg some dV)
 f36:=Tryz.func204.trans (congrArg some dV)
 f37:=Tryz.func205.trans (congrArg some dV)
 f38:=Tryz.func206.trans (congrArg some dV)
 f39:=Tryz.func226.trans (congrArg some dV)
 f40:=Tryz.func139.trans (congrArg some dV)
 t0:=Tryz.underlying0
 a0:=Tryz.isAgg0
 z0:=Tryz.sizeOf0
 v0:=Tryz.zeroValue0
 i0:=by kernel_rfl
 t2:=Tryz.underlying2
 a2:=Tryz.isAgg2
 z2:=Tryz.sizeOf2
 v2:=Tryz.zeroValue2
 i2:=by kernel_rfl
 t3:=Tryz.underlying3
 a3:=Tryz.isAgg3
 z3:=Tryz.sizeOf3
 v3:=Tryz.zeroValue3
 i3:=by kernel_rfl
 t4:=Tryz.underlying4
 a4:=Tryz.isAgg4
 z4:=Tryz.sizeOf4
 v4:=Tryz.zeroValue4
 i4:=by kernel_rfl
 t5:=Tryz.underlying5
 a5:=Tryz.isAgg5
 z5:=Tryz.sizeOf5
 v5:=Tryz.zeroValue5
 i5:=by kernel_rfl
 t9:=Tryz.underlying9
 a9:=Tryz.isAgg9
 z9:=Tryz.sizeOf9
 v9:=Tryz.zeroValue9
 i9:=by kernel_rfl
 t20:=Tryz.underlying20
 a20:=Tryz.isAgg20
 z20:=Tryz.sizeOf20
 v20:=Tryz.zeroValue20
 i20:=by kernel_rfl
 t21:=Tryz.underlying21
 a21:=Tryz.isAgg21
 z21:=Tryz.sizeOf21
 v21:=Tryz.zeroValue21
 i21:=by kernel_rfl
 t22:=Tryz.underlying78
 a22:=Tryz.isAgg78
 z22:=Tryz.sizeOf78
 v22:=Tryz.zeroValue78
 i22:=by kernel_rfl
 t24:=Tryz.underlying132
 a24:=Tryz.isAgg132
 z24:=Tryz.sizeOf132
 v24:=Tryz.zeroValue132
 i24:=by kernel_rfl
 t25:=Tryz.underlying170
 a25:=Tryz.isAgg170
 z25:=Tryz.sizeOf170
 v25:=Tryz.zeroValue170
 i25:=by kernel_rfl
 t34:=Tryz.underlying227
 a34:=Tryz.isAgg227
 z34:=Tryz.sizeOf227
 v34:=Tryz.zeroValue227
 i34:=by kernel_rfl
 c34:=by kernel_rfl
 t36:=Tryz.underlying156
 a36:=Tryz.isAgg156
 z36:=Tryz.sizeOf156
 v36:=Tryz.zeroValue156
 i36:=by kernel_rfl
 t37:=Tryz.underlying128
 a37:=Tryz.isAgg128
 z37:=Tryz.sizeOf128
 v37:=Tryz.zeroValue128
 i37:=by kernel_rfl
 t39:=Tryz.underlying229
 a39:=Tryz.isAgg229
 z39:=Tryz.sizeOf229
 v39:=Tryz.zeroValue229
 i39:=by kernel_rfl
 t44:=Tryz.underlying237
 a44:=Tryz.isAgg237
 z44:=Tryz.sizeOf237
 v44:=Tryz.zeroValue237
 i44:=by kernel_rfl
 t47:=Tryz.underlying191
 a47:=Tryz.isAgg191
 z47:=Tryz.sizeOf191
 v47:=Tryz.zeroValue191
 i47:=by kernel_rfl
 t48:=Tryz.underlying241
 a48:=Tryz.isAgg241
 z48:=Tryz.sizeOf241
 v48:=Tryz.zeroValue241
 i48:=by kernel_rfl
 t50:=Tryz.underlying243
 a50:=Tryz.isAgg243
 z50:=Tryz.sizeOf243
 v50:=Tryz.zeroValue243
 i50:=by kernel_rfl
 t52:=Tryz.underlying192
 a52:=Tryz.isAgg192
 z52:=Tryz.sizeOf192
 v52:=Tryz.zeroValue192
 i52:=by kernel_rfl
 t55:=Tryz.underlying194
 a55:=Tryz.isAgg194
 z55:=Tryz.sizeOf194
 v55:=Tryz.zeroValue194
 i55:=by kernel_rfl
 t59:=Tryz.underlying219
 a59:=Tryz.isAgg219
 z59:=Tryz.sizeOf219
 v59:=Tryz.zeroValue219
 i59:=by kernel_rfl
 t60:=Tryz.underlying149
 a60:=Tryz.isAgg149
 z60:=Tryz.sizeOf149
 v60:=Tryz.zeroValue149
 i60:=by kernel_rfl
 t61:=Tryz.underlying220
 a61:=Tryz.isAgg220
 z61:=Tryz.sizeOf220
 t65:=Tryz.underlying240
 a65:=Tryz.isAgg240
 z65:=Tryz.sizeOf240
 v65:=Tryz.zeroValue240
 i65:=by kernel_rfl
 t66:=Tryz.underlying205
 a66:=Tryz.isAgg205
 z66:=Tryz.sizeOf205
 v66:=Tryz.zeroValue205
 i66:=by kernel_rfl
 t67:=Tryz.underlying36
 a67:=Tryz.isAgg36
 z67:=Tryz.sizeOf36
 v67:=Tryz.zeroValue36
 i67:=by kernel_rfl
 g0:=by kernel_rfl
 m0:=by kernel_rfl
 g1:=by kernel_rfl
 m1:=by kernel_rfl
 g2:=by kernel_rfl
 m2:=by kernel_rfl
 g3:=by kernel_rfl
 m3:=by kernel_rfl
 g4:=by kernel_rfl
 m4:=by kernel_rfl}
open Go.RowKit in
theorem Tryz.strconv_ParseUint_10_at64_ok (s:ByteArray) (A:s.size≤9223372036854775806) (u:Nat) (h:Lib.parseUintB 64 s.data.toList= .ok u) (w:World):
  Calls Tryz.prog 148 #[.string s,.int .i64 10,.int .i64 64] w fun e B=>e= .returned (.tuple #[.int .u64 u,.nilIface])∧(B=w∨B=Lib.bytesWorld w 5 s):=Any.strconv_ParseUint_10_at64_ok Tryz.laysPu14 s A u h w
end Go.Proofs.YtfnkkkcojnffdaaGreatDoor
