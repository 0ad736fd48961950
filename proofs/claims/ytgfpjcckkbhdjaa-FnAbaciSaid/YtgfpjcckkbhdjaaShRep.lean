/-
  Contracts of Go's library at this translation, laid by the kit's own tool: strings_Repeat.
-/
import Derived.Shelf.Strings.Builder1
import Derived.Shelf.Strings.Builder2
import Derived.Shelf.Strings.BuilderF
import Derived.Shelf.Strconv.Itoa0
import Derived.Shelf.Strconv.Itoa1
import Derived.Shelf.LaysM
import Derived.Shelf.Strconv.Itoa2
import Derived.Shelf.Strconv.Itoa3
import Derived.Shelf.Strconv.Itoa4
import Derived.Shelf.Strings.Prefix
import Derived.Shelf.Bits.Mul64
import Derived.Shelf.Strings.Repeat
import Derived.Ground.SlgnProg
import Derived.Shelf.SlicesE.Clone
import Derived.Test.YtgfpjcckkbhdjaaProg
namespace Go.Proofs
open Go.Shelf
def Try.lays105_ren : Go.Shelf.Ren := ⟨fun | 105 => 138 | 212 => 216 | 99 => 217 | 165 => 218 | 166 => 219 | 170 => 220 | 169 => 221 | 263 => 233 | 264 => 234 | 206 => 235 | 240 => 236 | 241 => 237 | 276 => 239 | 277 => 240 | n => n, fun | 9 => 9 | 3 => 3 | 4 => 4 | 20 => 20 | 0 => 0 | 46 => 202 | 109 => 250 | 5 => 5 | 72 => 255 | 76 => 259 | 51 => 274 | 146 => 275 | 53 => 230 | 148 => 277 | 70 => 253 | 37 => 22 | 75 => 258 | 127 => 279 | 164 => 280 | 80 => 140 | n => n, fun | n => n⟩
theorem Try.lays105 : Go.Proofs.Lays.n105 Try.prog Try.lays105_ren := {
  mixed := by kernel_rfl
  f99 := Try.func217.trans (congrArg some (by kernel_rfl))
  f105 := Try.func138.trans (congrArg some (by kernel_rfl))
  f165 := Try.func218.trans (congrArg some (by kernel_rfl))
  f166 := Try.func219.trans (congrArg some (by kernel_rfl))
  f169 := Try.func221.trans (congrArg some (by kernel_rfl))
  f170 := Try.func220.trans (congrArg some (by kernel_rfl))
  f206 := Try.func235.trans (congrArg some (by kernel_rfl))
  f212 := Try.func216.trans (congrArg some (by kernel_rfl))
  f240 := Try.func236.trans (congrArg some (by kernel_rfl))
  f241 := Try.func237.trans (congrArg some (by kernel_rfl))
  f263 := Try.func233.trans (congrArg some (by kernel_rfl))
  f264 := Try.func234.trans (congrArg some (by kernel_rfl))
  f276 := Try.func239.trans (congrArg some (by kernel_rfl))
  f277 := Try.func240.trans (congrArg some (by kernel_rfl))
  t0 := Try.underlying0
  a0 := Try.isAgg0
  z0 := Try.sizeOf0
  v0 := Try.zeroValue0
  t3 := Try.underlying3
  a3 := Try.isAgg3
  z3 := Try.sizeOf3
  v3 := Try.zeroValue3
  t4 := Try.underlying4
  a4 := Try.isAgg4
  z4 := Try.sizeOf4
  v4 := Try.zeroValue4
  t5 := Try.underlying5
  a5 := Try.isAgg5
  z5 := Try.sizeOf5
  v5 := Try.zeroValue5
  t9 := Try.underlying9
  a9 := Try.isAgg9
  z9 := Try.sizeOf9
  v9 := Try.zeroValue9
  t20 := Try.underlying20
  a20 := Try.isAgg20
  z20 := Try.sizeOf20
  v20 := Try.zeroValue20
  t37 := Try.underlying22
  a37 := Try.isAgg22
  z37 := Try.sizeOf22
  v37 := Try.zeroValue22
  t46 := Try.underlying202
  a46 := Try.isAgg202
  z46 := Try.sizeOf202
  v46 := Try.zeroValue202
  t51 := Try.underlying274
  a51 := Try.isAgg274
  z51 := Try.sizeOf274
  v51 := Try.zeroValue274
  t53 := Try.underlying230
  a53 := Try.isAgg230
  z53 := Try.sizeOf230
  v53 := Try.zeroValue230
  t70 := Try.underlying253
  a70 := Try.isAgg253
  z70 := Try.sizeOf253
  v70 := Try.zeroValue253
  t72 := Try.underlying255
  a72 := Try.isAgg255
  z72 := Try.sizeOf255
  v72 := Try.zeroValue255
  t75 := Try.underlying258
  a75 := Try.isAgg258
  z75 := Try.sizeOf258
  v75 := Try.zeroValue258
  t76 := Try.underlying259
  a76 := Try.isAgg259
  z76 := Try.sizeOf259
  v76 := Try.zeroValue259
  t109 := Try.underlying250
  a109 := Try.isAgg250
  z109 := Try.sizeOf250
  v109 := Try.zeroValue250
  t127 := Try.underlying279
  a127 := Try.isAgg279
  z127 := Try.sizeOf279
  v127 := Try.zeroValue279
  t146 := Try.underlying275
  a146 := Try.isAgg275
  z146 := Try.sizeOf275
  v146 := Try.zeroValue275
  t148 := Try.underlying277
  a148 := Try.isAgg277
  z148 := Try.sizeOf277
  v148 := Try.zeroValue277
  t164 := Try.underlying280
  a164 := Try.isAgg280
  z164 := Try.sizeOf280
  v164 := Try.zeroValue280 }
theorem Try.Builder_Extra_105 : Builder.Extra Try.prog Try.lays105_ren := {
  sizeBuilder := by kernel_rfl
  liesBuilder := by kernel_rfl
  t5 := Try.underlying5
  a5 := Try.isAgg5
  z5 := Try.sizeOf5
  v5 := Try.zeroValue5
  infoByte := by kernel_rfl
  cellsByte := by kernel_rfl
  sizeByte := by kernel_rfl
  neB5 := by decide }
open Go.RowKit Go.Lib in
/-- **strings.Repeat: count ≥ 0, the result within one allocation: count copies of s.** (LAID: no walk: one application.) -/
theorem Try.strings_Repeat (s : ByteArray) (c : Nat) (w : World) (hc : c ≤ 9223372036854775807) (hlen : s.size * c ≤ 140737488355328) :
    Calls Try.prog 138 #[.string s, .int .i64 c] w fun e w' => e = .returned (.string ⟨(Lib.repeatL s.data.toList c).toArray⟩) ∧ Below w.heap.size w w' := Any.strings_Repeat Try.lays105 Try.Builder_Extra_105 s c w hc hlen
end Go.Proofs
