/- What is proved here: contracts of library functions, each one application of the library's own theorem at this seat's numbers. -/
import Derived.Test.YtohcneeihdkfgaaGreatDoorQ10
import Derived.Shelf.Strings.Builder1
import Derived.Shelf.Strings.Builder2
import Derived.Shelf.Small.Bits
import Derived.Shelf.Small.Wraps
import Derived.Shelf.Strings.BuilderF
import Derived.Shelf.Strings.BuilderK
import Derived.Shelf.Strings.Builder2Cap
import Derived.Shelf.Strconv.Itoa0
import Derived.Shelf.Strconv.Itoa1
import Derived.Shelf.LaysM
import Derived.Shelf.Strconv.Itoa2
import Derived.Shelf.Strconv.Itoa3
import Derived.Shelf.Strings.Search1
import Derived.Shelf.Strings.Search2
import Derived.Shelf.Strings.Cut
import Derived.Shelf.Strings.Shaped
import Derived.Shelf.Strings.Prefix
import Derived.Shelf.Bits.Mul64
import Derived.Shelf.Strings.Repeat
import Derived.Shelf.Strings.BuilderCap
import Derived.Ground.Names2Prog
import Derived.Shelf.Slices.SearchI
import Derived.Test.YtohcneeihdkfgaaGreatDoorProg
namespace Go.Proofs.YtohcneeihdkfgaaGreatDoor
open Go.Shelf Go.Proofs
def Tryz.lays134_ren:Go.Shelf.Ren:=⟨fun|134=>171|129=>237|n=>n,fun|53=>90|3=>3|4=>4|46=>189|5=>5|9=>9|n=>n,fun|n=>n⟩
theorem Tryz.lays134:Go.Proofs.Lays.n134 Tryz.prog Tryz.lays134_ren:={
 mixed:=by kernel_rfl
 f129:=Tryz.func237.trans (congrArg some eZ)
 f134:=Tryz.func171.trans (congrArg some eZ)
 t3:=Tryz.underlying3
 a3:=Tryz.isAgg3
 z3:=Tryz.sizeOf3
 v3:=Tryz.zeroValue3
 t4:=Tryz.underlying4
 a4:=Tryz.isAgg4
 z4:=Tryz.sizeOf4
 v4:=Tryz.zeroValue4
 t5:=Tryz.underlying5
 a5:=Tryz.isAgg5
 z5:=Tryz.sizeOf5
 v5:=Tryz.zeroValue5
 t9:=Tryz.underlying9
 a9:=Tryz.isAgg9
 z9:=Tryz.sizeOf9
 v9:=Tryz.zeroValue9
 t46:=Tryz.underlying189
 a46:=Tryz.isAgg189
 z46:=Tryz.sizeOf189
 v46:=Tryz.zeroValue189
 t53:=Tryz.underlying90
 a53:=Tryz.isAgg90
 z53:=Tryz.sizeOf90
 v53:=Tryz.zeroValue90}
theorem Tryz.bits_LeadingZeros64 (x:Int) (w:World) (A:0≤x) (h1:x≤18446744073709551615):
  Calls Tryz.prog 171 #[.int .u64 x] w fun e B=>e= .returned (.int .i64 (64-(Lib.bitLen x.toNat:Int)))∧B=w:=Any.bits_LeadingZeros64 Tryz.lays134 x w A h1
def Tryz.lays129_ren:Go.Shelf.Ren:=⟨fun|129=>237|n=>n,fun|53=>90|3=>3|4=>4|46=>189|5=>5|9=>9|n=>n,fun|n=>n⟩
theorem Tryz.lays129:Go.Proofs.Lays.n129 Tryz.prog Tryz.lays129_ren:={
 mixed:=by kernel_rfl
 f129:=Tryz.func237.trans (congrArg some eZ)
 t3:=Tryz.underlying3
 a3:=Tryz.isAgg3
 z3:=Tryz.sizeOf3
 v3:=Tryz.zeroValue3
 t4:=Tryz.underlying4
 a4:=Tryz.isAgg4
 z4:=Tryz.sizeOf4
 v4:=Tryz.zeroValue4
 t5:=Tryz.underlying5
 a5:=Tryz.isAgg5
 z5:=Tryz.sizeOf5
 v5:=Tryz.zeroValue5
 t9:=Tryz.underlying9
 a9:=Tryz.isAgg9
 z9:=Tryz.sizeOf9
 v9:=Tryz.zeroValue9
 t46:=Tryz.underlying189
 a46:=Tryz.isAgg189
 z46:=Tryz.sizeOf189
 v46:=Tryz.zeroValue189
 t53:=Tryz.underlying90
 a53:=Tryz.isAgg90
 z53:=Tryz.sizeOf90
 v53:=Tryz.zeroValue90}
theorem Tryz.bits_Len64 (x:Int) (w:World) (A:0≤x) (h1:x≤18446744073709551615):
  Calls Tryz.prog 237 #[.int .u64 x] w fun e B=>e= .returned (.int .i64 (Lib.bitLen x.toNat))∧B=w:=Any.bits_Len64 Tryz.lays129 x w A h1
def Tryz.lays264_ren:Go.Shelf.Ren:=⟨fun|264=>240|n=>n,fun|53=>90|46=>189|n=>n,fun|n=>n⟩
theorem Tryz.lays264:Go.Proofs.Lays.n264 Tryz.prog Tryz.lays264_ren:={
 mixed:=by kernel_rfl
 f264:=Tryz.func240.trans (congrArg some eZ)
 t46:=Tryz.underlying189
 a46:=Tryz.isAgg189
 z46:=Tryz.sizeOf189
 v46:=Tryz.zeroValue189
 t53:=Tryz.underlying90
 a53:=Tryz.isAgg90
 z53:=Tryz.sizeOf90
 v53:=Tryz.zeroValue90}
open Go.RowKit Go.Lib in
theorem Tryz.bits_Mul64 (x y:Nat) (A:x<18446744073709551616) (B:y<18446744073709551616) (w:World):
  Calls Tryz.prog 240 #[.int .u64 x,.int .u64 y] w fun e C=>e= .returned (.tuple #[.int .u64 ((x*y/18446744073709551616:Nat):Int),.int .u64 ((x*y%18446744073709551616:Nat):Int)])∧C=w:=Any.bits_Mul64 Tryz.lays264 x y A B w
end Go.Proofs.YtohcneeihdkfgaaGreatDoor
