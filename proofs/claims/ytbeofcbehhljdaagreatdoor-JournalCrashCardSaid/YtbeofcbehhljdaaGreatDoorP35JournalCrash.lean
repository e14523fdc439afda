/- Texts that the proof needs: AvCardD. -/
import Derived.Test.YtbeofcbehhljdaaGreatDoorP19JournalCrash
import Derived.Test.YtbeofcbehhljdaaGreatDoorP33JournalCrash
namespace Go.Av
open Go
section
variable {H : Type} {enc : TypeId × Value -> H} {C : Checked} {T : TypeId -> Option Ty} {K : Nat -> Nat}
theorem row_liftedCD [Glob] (hT : TabOK C.prog T) {a : Assume} {os : Os} {f : FuncId} {fn : Func} {s : ChangeSpec} {F : Stop.Interp} {conds : List PathCond} {apart fresh handsOn again : Bool} {laid : List (String × DataW Unit)} {tb : TypeId}
 (own : ownKnob C.prog.godebug = none) (started : os.Started) (noInit : C.prog.inits.idxOf? f = none) (hfn : C.prog.funcs[f]? = some fn)
 (witness : ∃ (w : World) (tape : Tape) (i : Input), w.os = os /\ (w.forCall tape i).Shaped C.prog /\ i.vars = [] /\ Input.okWide C.prog (w.forCall tape i) .any w.heap.size f i ∧
  (OpenSpec.ofChange s).preRow enc C.prog fn conds apart laid (w.forCall tape i).memory i.args /\ a.holds C.prog (lone (Frame.enter C.prog f i.args .normal) [] (w.forCall tape i)))
 (hsv : s.vars = []) (hres : fn.resultTypes = #[tb]) (hb : C.prog.underlying tb = some .bool)
 (hspec : ∀ ds : List (DataW H), ds.length = fn.params.size -> (s.fn H ds).results = [.lit (.bool true)] /\ (s.fn H ds).args = ds /\ (s.fn H ds).vars = [])
 (hts : fn.params.toList.all (fun t => (lfs T 20 t).isSome) = true)
 (hgl : ∀ W, laidMetH C.prog laid W -> ∀ g e, Glob.g g = some e -> GE W (fun _ => False) e g)
 (hpos : PosK T K) (hcon : ∀ ps : List PV, ShTs T fn.params.toList ps -> (∀ p ∈ ps, SzI K reachBytes p) -> ACon C.prog f (ps.map .p) (.p (B true))) (hent : Enters C.prog f) :
 ReturnsInHanded a C os f .any ((OpenSpec.ofChange s).preRow enc C.prog fn conds apart laid) (((OpenSpec.ofChange s).at F).post enc C.prog fn apart fresh handsOn again) :=
 returnsInHanded_of_row (C := C) (s := OpenSpec.ofChange s) own started noInit hfn witness fun W _ _ _ _ _ hval hW _ _ hz hL _ _ => row_postD hT (bddD hT hpos) hsv hres hb hspec hts hent hval hW (hgl W hL) (bddD_args hz) hcon
end
end Go.Av
