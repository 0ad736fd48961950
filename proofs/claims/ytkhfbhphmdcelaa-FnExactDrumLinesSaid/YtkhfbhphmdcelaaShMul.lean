/-
  Contracts of Go's library at this translation, laid by the kit's own tool: bits_Mul.
-/
import Derived.Shelf.Strings.Builder1
import Derived.Shelf.Strings.Builder2
import Derived.Shelf.Bits.Mul64
import Derived.Test.YtkhfbhphmdcelaaProg
namespace Go.Proofs
open Go.Shelf
def Try.lays212_ren : Go.Shelf.Ren := ⟨fun | 212 => 156 | 263 => 179 | 264 => 180 | n => n, fun | 46 => 159 | 51 => 210 | 146 => 211 | 53 => 176 | 148 => 213 | n => n, fun | n => n⟩
theorem Try.lays212 : Go.Proofs.Lays.n212 Try.prog Try.lays212_ren := {
  mixed := by kernel_rfl
  f212 := Try.func156.trans (congrArg some (by kernel_rfl))
  f263 := Try.func179.trans (congrArg some (by kernel_rfl))
  f264 := Try.func180.trans (congrArg some (by kernel_rfl))
  t46 := Try.underlying159
  a46 := Try.isAgg159
  z46 := Try.sizeOf159
  v46 := Try.zeroValue159
  t51 := Try.underlying210
  a51 := Try.isAgg210
  z51 := Try.sizeOf210
  v51 := Try.zeroValue210
  t53 := Try.underlying176
  a53 := Try.isAgg176
  z53 := Try.sizeOf176
  v53 := Try.zeroValue176
  t146 := Try.underlying211
  a146 := Try.isAgg211
  z146 := Try.sizeOf211
  v146 := Try.zeroValue211
  t148 := Try.underlying213
  a148 := Try.isAgg213
  z148 := Try.sizeOf213
  v148 := Try.zeroValue213 }
open Go.RowKit Go.Lib in
/-- math/bits.Mul: "Mul returns the full-width product of x and y": on a machine of 64 bits: Mul64's. (LAID: no walk: one application.) -/
theorem Try.bits_Mul (x y : Nat) (hx : x < 18446744073709551616) (hy : y < 18446744073709551616) (w : World) :
    Calls Try.prog 156 #[.int .u64 x, .int .u64 y] w fun e w' => e = .returned (.tuple #[.int .u64 ((x * y / 18446744073709551616 : Nat) : Int), .int .u64 ((x * y % 18446744073709551616 : Nat) : Int)]) ∧ w' = w := Any.bits_Mul Try.lays212 x y hx hy w
end Go.Proofs
