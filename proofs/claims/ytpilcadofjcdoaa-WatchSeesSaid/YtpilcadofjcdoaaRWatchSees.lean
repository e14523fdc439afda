/- WatchSees: of a node whose watch is told nothing the same is read ahead of the change and behind it: the law of layer 10 answers true, whatever the state, the request and the watch, and what came in reads as before. No condition. -/
import Derived.Test.YtpilcadofjcdoaaP35WatchSees
import Derived.Test.YtpilcadofjcdoaaP37WatchSees
import Derived.Test.YtpilcadofjcdoaaRows
import Derived.ProofKit
set_option linter.unusedVariables false
namespace Go.Proofs.Ytpilcadofjcdoaa
open Go Go.Av Go.ChangeShapes Go.WideShapes Go.ChangeAt Go.RowKit
theorem watchSees_all (ps : List PV) (h : ShTs Try.T Try.f3.params.toList ps) (hz : ∀ p ∈ ps, SzI KB reachBytes p) : zF Try.prog 3 (ps.map .p) (.p (B true)) := by
 have hp : Try.f3.params.toList = [30,35,37]:=by kernel_rfl
 rw [hp] at h
 match ps,h,hz with
 | [p0, p1, p2], ⟨h0, h1, h2, _⟩, hz =>
  obtain ⟨s,rfl⟩:=sv_open h0
  obtain ⟨r,rfl⟩:=rp_open h1
  obtain ⟨w,rfl⟩:=wt_open9 h2
  have zs:=hz (.agg s.cells) (by simp)
  have zr:=hz (.agg r.cells) (by simp)
  have zw:=hz (.agg w.c) (by simp)
  have a1:=szM (zs.part (p:=.sl 4 (mbs s.c.ms)) (by simp [Sv.cells]))
  have a2:=szM (zr.part (p:=.sl 4 (mbs r.d.put)) (by simp [Rp.cells]))
  have a3:=szL (zr.part (p:=.sl 1 (ints r.d.drop)) (by simp [Rp.cells]))
  rw [ints_len] at a3
  have a4:=szL (zs.part (p:=.sl 5 (zns s.ns)) (by simp [Sv.cells]))
  rw [zns_len] at a4
  have a5:=szL (zr.part (p:=.sl 6 (oqs r.ops)) (by simp [Rp.cells]))
  rw [oqs_len] at a5
  have a6:=szS (zw.part (p:=SB w.p) (by simp [Wt.c]))
  exact watchSees_con s r w (longW zs) (by omega) (opsW zr) a2 (by omega) (by omega) (by omega) (by omega)
set_option maxRecDepth 100000 in
theorem watchSees_lifted (os : Os) (started : os.Started) (H : Type) (enc : TypeId × Value -> H) :
 ReturnsInHanded {} Try.checked os 3 .any (Rows.watchSeesSpec.pre6 enc Try.prog Try.f3 Rows.watchSeesRow.domain false) (Rows.watchSeesSpec.post enc Try.prog Try.f3 false true false false) :=
 row_liftedD (K := KB) (C := Try.checked) (tb := 4) Try.tab (by kernel_rfl) started (by kernel_rfl) Try.func3
  (ChangeSpec.witness6 (enc:=enc) (C:=Try.checked) false ⟨#[],#[.agg #[.slice none 0 0,.slice none 0 0,.int .i64 0,.int .i64 0,.int .i64 0,.int .i64 0,.slice none 0 0,.int .i64 0,.int .i64 0],.agg #[.int .i64 0,.int .i64 0,.int .i64 0,.slice none 0 0,.int .i64 0,.slice none 0 0,.slice none 0 0,.int .i64 0,.int .i64 0],.agg #[.int .i64 0,.int .i64 0,.string .empty]],[]⟩ 8 (by kernel_rfl) (by kernel_rfl) (by kernel_rfl) (by kernel_rfl))
  rfl rfl Try.underlying4
  (fun ds h => by
   match ds,h with
   | [_,_,_],_=>exact ⟨rfl,rfl,rfl⟩)
  (by kernel_rfl) hpos watchSees_all ⟨Try.f3,Try.func3,rfl,rfl⟩
theorem watchSees_holds : Rows.WatchSeesSaid :=
 OpenClaim.holds_of_wide 3 Try.f3 rfl rfl rfl rfl rfl rfl rfl ⟨rfl, rfl, rfl, rfl, rfl⟩ rfl rfl rfl rfl rfl (by kernel_rfl) Try.func3 (by kernel_rfl)
  (of_decide_eq_true (by kernel_rfl)) (by unfold Func.isWrapper;first|(rw [if_pos (by decide +kernel)];kernel_rfl)|(rw [if_neg (by decide +kernel)];exact ⟨rfl,rfl⟩))
  (fun os started H enc _=>watchSees_lifted os started H enc)
#print axioms watchSees_holds
end Go.Proofs.Ytpilcadofjcdoaa

