/- The library's functions that the model itself has; what closed calls lean on. -/
import Derived.Test.YtpbmicfbghnmeaaDoorTab
import Derived.Test.YtpbmicfbghnmeaaDoorAvRun
import Derived.Test.YtpbmicfbghnmeaaDoorAvExt
namespace Go.Proofs.YtpbmicfbghnmeaaDoor
set_option linter.unusedSimpArgs false
set_option linter.unusedVariables false
open Go Go.Av
theorem indexByteString_con (s : ByteArray) (c : Int) : ACon Tryd.prog 68 [.p (.v (.string s)), .p (.v (.int .u8 c))] (.p (I (Go.Lib.indexByte s.data.toList c.toNat.toUInt8))) :=
  ACon.ext Tryd.func68 (by kernel_rfl) (by kernel_rfl) (by kernel_rfl) (e := Extern.BytealgIndexByte.indexByte) (by kernel_rfl) [.string s, .int .u8 c] rfl (fun w => Go.Lib.run_indexByteString s c w)
theorem countString_con (s : ByteArray) (c : Int) : ACon Tryd.prog 39 [.p (.v (.string s)), .p (.v (.int .u8 c))] (.p (I (Go.Lib.countByte s.data.toList c.toNat.toUInt8))) :=
  ACon.ext Tryd.func39 (by kernel_rfl) (by kernel_rfl) (by kernel_rfl) (e := _) (by kernel_rfl) [.string s, .int .u8 c] rfl (fun w => Go.Lib.run_countString s c w)
def xbase : CallF' := fun g args β => match args, β with
  | [.p (.v (.string s)), .p (.v (.int .u8 c))], [] =>
    if g = 68 then some (.ret (.p (I (Go.Lib.indexByte s.data.toList c.toNat.toUInt8))) [] [])
    else if g = 39 then some (.ret (.p (I (Go.Lib.countByte s.data.toList c.toNat.toUInt8))) [] []) else none
  | _, _ => none
theorem xbase_ok : ∀ g args β out, xbase g args β = some out → Con Tryd.prog g args β out := fun g args β out h => by
  unfold xbase at h
  split at h
  · rename_i s c
    split at h
    · rename_i hc
      subst hc
      simp only [Option.some.injEq] at h; subst h
      exact indexByteString_con s c
    · split at h
      · rename_i hc
        subst hc
        simp only [Option.some.injEq] at h; subst h
        exact countString_con s c
      · simp at h
  · simp at h
end Go.Proofs.YtpbmicfbghnmeaaDoor
