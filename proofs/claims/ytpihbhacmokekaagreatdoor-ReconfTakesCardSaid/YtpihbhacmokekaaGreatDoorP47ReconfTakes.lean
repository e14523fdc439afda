/- Texts that the proof needs: Lay. -/
import Derived.Test.YtpihbhacmokekaaGreatDoorP18ReconfTakes
import Derived.Test.YtpihbhacmokekaaGreatDoorP45ReconfTakes
import Derived.Test.YtpihbhacmokekaaGreatDoorCards
import Derived.Test.YtpihbhacmokekaaGreatDoorTie
import Derived.Stop.Joined
namespace Go.Proofs.YtpihbhacmokekaaGreatDoor
open Go Go.Av
set_option maxRecDepth 100000
abbrev Tryz.laid:List (String × DataW Unit):=Rows.reconfAsksRow.laid
theorem Tryz.globOK (W:World)(h:laidMetH Tryz.prog Tryz.laid W)(g:Nat)(e:List PV)(he:Glob.g g=some e):GE W (fun _=>False) e g:=by
 have h':laidMet Tryz.prog Tryz.laid W:=h
 unfold Glob.g Tryz.glob at he
 simp only at he
 split at he
 ·simp only[vQ] at he;subst he
  exact tab_mem (name := "math/bits.deBruijn32tab") (k := .u8) (zs := [0, 1, 28, 2, 29, 14, 24, 3, 30, 22, 20, 15, 25, 17, 4, 8, 31, 27, 13, 23, 21, 19, 16, 7, 26, 12, 18, 6, 11, 5, 10, 9]) (t := 206) (e := 5) (n := 32) (by kernel_rfl) (by kernel_rfl) (show Tryz.prog.underlying 206 = _ by kernel_rfl) (show Tryz.prog.underlying 5 = _ by kernel_rfl) (by kernel_rfl) (by kernel_rfl) (.head _) h' (by simp)
 ·simp only[vQ] at he;subst he
  exact tab_mem (name := "math/bits.deBruijn64tab") (k := .u8) (zs := [0, 1, 56, 2, 57, 49, 28, 3, 61, 58, 42, 50, 38, 29, 17, 4, 62, 47, 59, 36, 45, 43, 51, 22, 53, 39, 33, 30, 24, 18, 12, 5, 63, 55, 48, 27, 60, 41, 37, 16, 46, 35, 44, 21, 52, 32, 23, 11, 54, 26, 40, 15, 34, 20, 31, 10, 25, 14, 19, 9, 13, 8, 7, 6]) (t := 207) (e := 5) (n := 64) (by kernel_rfl) (by kernel_rfl) (show Tryz.prog.underlying 207 = _ by kernel_rfl) (show Tryz.prog.underlying 5 = _ by kernel_rfl) (by kernel_rfl) (by kernel_rfl) (.tail _ (.head _)) h' (by simp)
 ·simp only[vQ] at he;subst he
  exact tab_mem (name := "internal/strconv.uint64pow10") (k := .u64) (zs := [1, 10, 100, 1000, 10000, 100000, 1000000, 10000000, 100000000, 1000000000, 10000000000, 100000000000, 1000000000000, 10000000000000, 100000000000000, 1000000000000000, 10000000000000000, 100000000000000000, 1000000000000000000, 10000000000000000000]) (t := 202) (e := 186) (n := 20) (by kernel_rfl) (by kernel_rfl) (show Tryz.prog.underlying 202 = _ by kernel_rfl) (show Tryz.prog.underlying 186 = _ by kernel_rfl) (by kernel_rfl) (by kernel_rfl) (.tail _ (.tail _ (.head _))) h' (by simp)
 ·simp at he
def Tryz.lays:List (Nat × Array Value):=[(2, #[.int .u8 0,.int .u8 1,.int .u8 28,.int .u8 2,.int .u8 29,.int .u8 14,.int .u8 24,.int .u8 3,.int .u8 30,.int .u8 22,.int .u8 20,.int .u8 15,.int .u8 25,.int .u8 17,.int .u8 4,.int .u8 8,.int .u8 31,.int .u8 27,.int .u8 13,.int .u8 23,.int .u8 21,.int .u8 19,.int .u8 16,.int .u8 7,.int .u8 26,.int .u8 12,.int .u8 18,.int .u8 6,.int .u8 11,.int .u8 5,.int .u8 10,.int .u8 9]),(3, #[.int .u8 0,.int .u8 1,.int .u8 56,.int .u8 2,.int .u8 57,.int .u8 49,.int .u8 28,.int .u8 3,.int .u8 61,.int .u8 58,.int .u8 42,.int .u8 50,.int .u8 38,.int .u8 29,.int .u8 17,.int .u8 4,.int .u8 62,.int .u8 47,.int .u8 59,.int .u8 36,.int .u8 45,.int .u8 43,.int .u8 51,.int .u8 22,.int .u8 53,.int .u8 39,.int .u8 33,.int .u8 30,.int .u8 24,.int .u8 18,.int .u8 12,.int .u8 5,.int .u8 63,.int .u8 55,.int .u8 48,.int .u8 27,.int .u8 60,.int .u8 41,.int .u8 37,.int .u8 16,.int .u8 46,.int .u8 35,.int .u8 44,.int .u8 21,.int .u8 52,.int .u8 32,.int .u8 23,.int .u8 11,.int .u8 54,.int .u8 26,.int .u8 40,.int .u8 15,.int .u8 34,.int .u8 20,.int .u8 31,.int .u8 10,.int .u8 25,.int .u8 14,.int .u8 19,.int .u8 9,.int .u8 13,.int .u8 8,.int .u8 7,.int .u8 6]),(1, #[.int .u64 1,.int .u64 10,.int .u64 100,.int .u64 1000,.int .u64 10000,.int .u64 100000,.int .u64 1000000,.int .u64 10000000,.int .u64 100000000,.int .u64 1000000000,.int .u64 10000000000,.int .u64 100000000000,.int .u64 1000000000000,.int .u64 10000000000000,.int .u64 100000000000000,.int .u64 1000000000000000,.int .u64 10000000000000000,.int .u64 100000000000000000,.int .u64 1000000000000000000,.int .u64 10000000000000000000])]
theorem Tryz.laid_met (os:Os)(args:Array Value):laidMetH Tryz.prog Tryz.laid ((laidWorld Tryz.prog os Tryz.lays).forCall (fun _ _=>0) ⟨#[],args,[]⟩).memory :=
 (laidMet_of_run' 8 (by kernel_rfl) (by kernel_rfl):laidMet Tryz.prog Tryz.laid _)
end Go.Proofs.YtpihbhacmokekaaGreatDoor
