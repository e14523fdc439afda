/- Texts that the proof needs: Lay. -/
import Derived.Test.YtbeofcbehhljdaaGreatDoorP20JournalCrash
import Derived.Test.YtbeofcbehhljdaaGreatDoorP19JournalCrash
import Derived.Test.YtbeofcbehhljdaaGreatDoorCards
import Derived.Test.YtbeofcbehhljdaaGreatDoorTie
import Derived.Stop.Joined
namespace Go.Proofs.YtbeofcbehhljdaaGreatDoor
open Go Go.Av
set_option maxRecDepth 100000
abbrev Tryz.laid : List (String × DataW Unit) := Rows.journalCrashRow.laid
theorem Tryz.globOK (W : World) (h : laidMetH Tryz.prog Tryz.laid W) (g : Nat) (e : List PV) (he : Glob.g g = some e) : GE W (fun _ => False) e g := by
 have h' : laidMet Tryz.prog Tryz.laid W := h
 unfold Glob.g Tryz.glob at he
 simp only at he
 split at he
 ·simp only [Option.some.injEq] at he; subst he
  exact tab_mem (name := "math/bits.deBruijn32tab") (k := .u8) (zs := [0, 1, 28, 2, 29, 14, 24, 3, 30, 22, 20, 15, 25, 17, 4, 8, 31, 27, 13, 23, 21, 19, 16, 7, 26, 12, 18, 6, 11, 5, 10, 9]) (t := 166) (e := 5) (n := 32) (by kernel_rfl) (by kernel_rfl) (show Tryz.prog.underlying 166 = _ by kernel_rfl) (show Tryz.prog.underlying 5 = _ by kernel_rfl) (by kernel_rfl) (by kernel_rfl) (.head _) h' (by simp)
 ·simp only [Option.some.injEq] at he; subst he
  exact tab_mem (name := "math/bits.deBruijn64tab") (k := .u8) (zs := [0, 1, 56, 2, 57, 49, 28, 3, 61, 58, 42, 50, 38, 29, 17, 4, 62, 47, 59, 36, 45, 43, 51, 22, 53, 39, 33, 30, 24, 18, 12, 5, 63, 55, 48, 27, 60, 41, 37, 16, 46, 35, 44, 21, 52, 32, 23, 11, 54, 26, 40, 15, 34, 20, 31, 10, 25, 14, 19, 9, 13, 8, 7, 6]) (t := 167) (e := 5) (n := 64) (by kernel_rfl) (by kernel_rfl) (show Tryz.prog.underlying 167 = _ by kernel_rfl) (show Tryz.prog.underlying 5 = _ by kernel_rfl) (by kernel_rfl) (by kernel_rfl) (.tail _ (.head _)) h' (by simp)
 ·simp only [Option.some.injEq] at he; subst he
  exact tab_mem (name := "internal/strconv.uint64pow10") (k := .u64) (zs := [1, 10, 100, 1000, 10000, 100000, 1000000, 10000000, 100000000, 1000000000, 10000000000, 100000000000, 1000000000000, 10000000000000, 100000000000000, 1000000000000000, 10000000000000000, 100000000000000000, 1000000000000000000, 10000000000000000000]) (t := 151) (e := 109) (n := 20) (by kernel_rfl) (by kernel_rfl) (show Tryz.prog.underlying 151 = _ by kernel_rfl) (show Tryz.prog.underlying 109 = _ by kernel_rfl) (by kernel_rfl) (by kernel_rfl) (.tail _ (.tail _ (.head _))) h' (by simp)
 ·simp only [Option.some.injEq] at he; subst he
  exact tab_mem (name := "witan/codec.steps") (k := .u32) (zs := [0, 274646895, 549293790, 820201905, 1098587580, 1361435347, 1640403810, 1905808397, 2197175160, 2460548119, 2722870694, 2987750089, 3280807620, 3553878443, 3811616794, 4084100981]) (t := 111) (e := 89) (n := 16) (by kernel_rfl) (by kernel_rfl) (show Tryz.prog.underlying 111 = _ by kernel_rfl) (show Tryz.prog.underlying 89 = _ by kernel_rfl) (by kernel_rfl) (by kernel_rfl) (.tail _ (.tail _ (.tail _ (.head _)))) h' (by simp)
 ·simp at he
def Tryz.lays : List (Nat × Array Value) := [(2, #[.int .u8 0, .int .u8 1, .int .u8 28, .int .u8 2, .int .u8 29, .int .u8 14, .int .u8 24, .int .u8 3, .int .u8 30, .int .u8 22, .int .u8 20, .int .u8 15, .int .u8 25, .int .u8 17, .int .u8 4, .int .u8 8, .int .u8 31, .int .u8 27, .int .u8 13, .int .u8 23, .int .u8 21, .int .u8 19, .int .u8 16, .int .u8 7, .int .u8 26, .int .u8 12, .int .u8 18, .int .u8 6, .int .u8 11, .int .u8 5, .int .u8 10, .int .u8 9]), (3, #[.int .u8 0, .int .u8 1, .int .u8 56, .int .u8 2, .int .u8 57, .int .u8 49, .int .u8 28, .int .u8 3, .int .u8 61, .int .u8 58, .int .u8 42, .int .u8 50, .int .u8 38, .int .u8 29, .int .u8 17, .int .u8 4, .int .u8 62, .int .u8 47, .int .u8 59, .int .u8 36, .int .u8 45, .int .u8 43, .int .u8 51, .int .u8 22, .int .u8 53, .int .u8 39, .int .u8 33, .int .u8 30, .int .u8 24, .int .u8 18, .int .u8 12, .int .u8 5, .int .u8 63, .int .u8 55, .int .u8 48, .int .u8 27, .int .u8 60, .int .u8 41, .int .u8 37, .int .u8 16, .int .u8 46, .int .u8 35, .int .u8 44, .int .u8 21, .int .u8 52, .int .u8 32, .int .u8 23, .int .u8 11, .int .u8 54, .int .u8 26, .int .u8 40, .int .u8 15, .int .u8 34, .int .u8 20, .int .u8 31, .int .u8 10, .int .u8 25, .int .u8 14, .int .u8 19, .int .u8 9, .int .u8 13, .int .u8 8, .int .u8 7, .int .u8 6]), (1, #[.int .u64 1, .int .u64 10, .int .u64 100, .int .u64 1000, .int .u64 10000, .int .u64 100000, .int .u64 1000000, .int .u64 10000000, .int .u64 100000000, .int .u64 1000000000, .int .u64 10000000000, .int .u64 100000000000, .int .u64 1000000000000, .int .u64 10000000000000, .int .u64 100000000000000, .int .u64 1000000000000000, .int .u64 10000000000000000, .int .u64 100000000000000000, .int .u64 1000000000000000000, .int .u64 10000000000000000000]), (0, #[.int .u32 0, .int .u32 274646895, .int .u32 549293790, .int .u32 820201905, .int .u32 1098587580, .int .u32 1361435347, .int .u32 1640403810, .int .u32 1905808397, .int .u32 2197175160, .int .u32 2460548119, .int .u32 2722870694, .int .u32 2987750089, .int .u32 3280807620, .int .u32 3553878443, .int .u32 3811616794, .int .u32 4084100981])]
theorem Tryz.laid_met (os : Os) (args : Array Value) : laidMetH Tryz.prog Tryz.laid ((laidWorld Tryz.prog os Tryz.lays).forCall (fun _ _ => 0) ⟨#[], args, []⟩).memory :=
 (laidMet_of_run' 8 (by kernel_rfl) (by kernel_rfl) : laidMet Tryz.prog Tryz.laid _)
end Go.Proofs.YtbeofcbehhljdaaGreatDoor
