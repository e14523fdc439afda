/- Code on abstract values; functions. -/
import Derived.Test.YtnjnloonlcknkaaAvDraw
namespace Go.Av
open Go

inductive AExit where
  | normal | exit (id : Nat) | ret

def thenA (K : St → Prop) (Q : AExit → St → Prop) : AExit → St → Prop
  | .normal, st => K st
  | e, st => Q e st
def blockA (id : Nat) (Q : AExit → St → Prop) : AExit → St → Prop
  | .exit i, st => if i = id then Q .normal st else Q (.exit i) st
  | e, st => Q e st

/-- A loop: what holds at its head, and what falls. -/
def ALoop (B : (AExit → St → Prop) → St → Prop) (Q : AExit → St → Prop) (st : St) : Prop :=
  ∃ (I : Nat → St → Prop), (∃ n, I n st) ∧ ∀ n st', I n st' → B (thenA (fun st'' => ∃ n', n' < n ∧ I n' st'') Q) st'

def awpC (P : Program) (T : TypeId → Option Ty) (N : Nat) : Code → (AExit → St → Prop) → St → Prop
  | .skip, Q, st => Q .normal st
  | .region _ ops draw, Q, st => if draw then awpDraw P T N ops st (Q .normal) else awpOps P T N ops ops.toList st (Q .normal)
  | .seq x y, Q, st => awpC P T N x (thenA (fun st' => awpC P T N y Q st') Q) st
  | .cond c x y, Q, st => match evO st c with
    | .p (.v (.bool b)) => (b = true → awpC P T N x Q st) ∧ (b = false → awpC P T N y Q st)
    | _ => False
  | .block id x, Q, st => awpC P T N x (blockA id Q) st
  | .loop x, Q, st => ALoop (fun Q' st' => awpC P T N x Q' st') Q st
  | .exit id, Q, st => Q (.exit id) st
  | .ret, Q, st => Q .ret st
  | .label _, Q, st => Q .normal st
  | _, _, _ => False

section
variable {P : Program} {T : TypeId → Option Ty} {w0 : World} {F X : Nat → Prop} {N : Nat}

/-- The post on both sides. -/
def QQ (w0 : World) (F X : Nat → Prop) (N : Nat) (Q : AExit → St → Prop) : Exit → Act → World → Prop
  | .normal, a, w => ∃ st m, Q .normal st ∧ Rel w0 F X N st a w m
  | .exit i, a, w => ∃ st m, Q (.exit i) st ∧ Rel w0 F X N st a w m
  | .ret, a, w => ∃ st m, Q .ret st ∧ Rel w0 F X N st a w m
  | _, _, _ => False

theorem min_of {p : Nat → Prop} : ∀ n, p n → ∃ n, p n ∧ ∀ k, p k → n ≤ k := by
  intro n
  induction n using Nat.strongRecOn with
  | _ n ih =>
    intro hn
    by_cases h : ∃ k, k < n ∧ p k
    · obtain ⟨k, hk, hp⟩ := h
      exact ih k hk hp
    · exact ⟨n, hn, fun k hk => by
        rcases Nat.lt_or_ge k n with h1 | h1
        · exact absurd ⟨k, h1, hk⟩ h
        · exact h1⟩

theorem loop_run {c : Code} {J : Nat → Act → World → Prop} {Q : Exit → Act → World → Prop} (round : ∀ n a w, J n a w → c.wp P (Exit.then (fun a' w' => ∃ n', n' < n ∧ J n' a' w') Q) a w) {n : Nat} {a : Act} {w : World} (h : J n a w) : (Code.loop c).wp P Q a w := by
  classical
  let μ : Act → World → Nat := fun a w => if h : ∃ n, J n a w ∧ ∀ k, J k a w → n ≤ k then Classical.choose h else 0
  have hμ : ∀ a w, (∃ n, J n a w) → J (μ a w) a w ∧ ∀ k, J k a w → μ a w ≤ k := fun a w ⟨n, hn⟩ => by
    have hex := min_of (p := fun n => J n a w) n hn
    simp only [μ, dif_pos hex]
    exact Classical.choose_spec hex
  refine wp_loop (fun a w => ∃ n, J n a w) μ ⟨n, h⟩ fun a w hI => ?_
  obtain ⟨h1, h2⟩ := hμ a w hI
  refine wp_mono (round _ a w h1) fun e a' w' he => ?_
  cases e with
  | normal =>
    obtain ⟨n', hlt, hj⟩ := he
    exact ⟨⟨n', hj⟩, Nat.lt_of_le_of_lt ((hμ a' w' ⟨n', hj⟩).2 n' hj) hlt⟩
  | _ => exact he

theorem awpC_run (hT : TabOK P T) (hm : P.follows .mixedOrders = true) : ∀ (c : Code) (Q : AExit → St → Prop) (st : St) (a : Act) (w : World) (m : Nm), Rel w0 F X N st a w m → awpC P T N c Q st → c.wp P (QQ w0 F X N Q) a w
  | .skip, Q, st, a, w, m, h, hv => wp_skip ⟨st, m, hv, h⟩
  | .region id ops draw, Q, st, a, w, m, h, hv => by
    simp only [awpC] at hv
    cases draw with
    | true => exact awpDraw_run hT hm h (by simpa using hv) fun st' a' w' m' hk hr => ⟨st', m', hk, hr⟩
    | false =>
      have hv' : awpOps P T N ops ops.toList st (Q .normal) := by simpa using hv
      exact wp_region_list (awpOps_run hT ops (fun st' a' w' m' hk hr => ⟨st', m', hk, hr⟩) _ st a w m h hv')
  | .seq x y, Q, st, a, w, m, h, hv => by
    refine wp_seq (wp_mono (awpC_run hT hm x _ st a w m h hv) fun e a' w' he => ?_)
    cases e with
    | normal =>
      obtain ⟨st', m', hq, hr⟩ := he
      exact awpC_run hT hm y Q st' a' w' m' hr hq
    | exit i => exact he
    | ret => exact he
    | goto _ => exact he.elim
    | panic _ => exact he.elim
    | outgrown => exact he.elim
  | .cond c x y, Q, st, a, w, m, h, hv => by
    simp only [awpC] at hv
    split at hv
    · rename_i b hb
      have hc := h.evO c
      rw [hb] at hc
      exact wp_cond_split (RV.scal hc) (fun ht => awpC_run hT hm x Q st a w m h (hv.1 ht)) (fun hf => awpC_run hT hm y Q st a w m h (hv.2 hf))
    · exact hv.elim
  | .block id x, Q, st, a, w, m, h, hv => by
    refine wp_block (wp_mono (awpC_run hT hm x _ st a w m h hv) fun e a' w' he => ?_)
    cases e with
    | normal => exact he
    | exit i =>
      obtain ⟨st', m', hq, hr⟩ := he
      simp only [blockA] at hq
      simp only [Exit.inBlock]
      split at hq
      · rename_i hi; rw [if_pos hi]; exact ⟨st', m', hq, hr⟩
      · rename_i hi; rw [if_neg hi]; exact ⟨st', m', hq, hr⟩
    | ret => exact he
    | goto _ => exact he.elim
    | panic _ => exact he.elim
    | outgrown => exact he.elim
  | .loop x, Q, st, a, w, m, h, hv => by
    obtain ⟨I, ⟨n, hn⟩, hround⟩ := hv
    refine loop_run (J := fun n a w => ∃ st m, I n st ∧ Rel w0 F X N st a w m) (fun n a w ⟨st', m', hi, hr⟩ => ?_) (n := n) ⟨st, m, hn, h⟩
    refine wp_mono (awpC_run hT hm x _ st' a w m' hr (hround n st' hi)) fun e a' w' he => ?_
    cases e with
    | normal =>
      obtain ⟨st'', m'', ⟨n', hlt, hi'⟩, hr'⟩ := he
      exact ⟨n', hlt, st'', m'', hi', hr'⟩
    | exit i => exact he
    | ret => exact he
    | goto _ => exact he.elim
    | panic _ => exact he.elim
    | outgrown => exact he.elim
  | .exit id, Q, st, a, w, m, h, hv => wp_exit ⟨st, m, hv, h⟩
  | .ret, Q, st, a, w, m, h, hv => wp_ret ⟨st, m, hv, h⟩
  | .label _, Q, st, a, w, m, h, hv => wp_label ⟨st, m, hv, h⟩
  | .rangeFunc .., _, _, _, _, _, _, hv => hv.elim
  | .scope .., _, _, _, _, _, _, hv => hv.elim
  | .goto .., _, _, _, _, _, _, hv => hv.elim
  | .refuse .., _, _, _, _, _, _, hv => hv.elim
end

/-! ### Functions -/
def resP (T : TypeId → Option Ty) (st : St) (t : TypeId) : V → Option PV
  | .row b => match st.b b with
    | some (.row _ c l) => some (.sl c l)
    | _ => none
  | v => toP (fix T t v)
def resL (T : TypeId → Option Ty) (st : St) : List ResultVar → List TypeId → Option (List PV)
  | [], _ => some []
  | .tmp t :: r, ts => match resP T st (ts.headD 0) (st.s t), resL T st r ts.tail with
    | some p, some l => some (p :: l)
    | _, _ => none
  | .cell a t :: r, ts => match (ld T st t (st.s a)).bind (resP T st (ts.headD 0)), resL T st r ts.tail with
    | some p, some l => some (p :: l)
    | _, _ => none
def ARes (T : TypeId → Option Ty) (st : St) (rs : List ResultVar) (ts : List TypeId) : V → Prop
  | .p p => resL T st rs ts = some [p]
  | .tup l => ∃ ps, resL T st rs ts = some ps ∧ ps.length ≠ 1 ∧ l = ps.map .p
  | .own e c l => ∃ t b, rs = [.tmp t] ∧ st.s t = .row b ∧ st.b b = some (.row e c l)
  | _ => False

def initS (args : List V) : St :=
  ⟨fun t => match args[t]? with
    | some (.own _ _ _) => .row t
    | some v => v
    | none => .tup [],
   fun b => match args[b]? with
    | some (.own e c l) => some (.row e c l)
    | _ => none⟩

section
variable {P : Program} {T : TypeId → Option Ty} {w0 : World} {F X : Nat → Prop} {N : Nat} {st : St} {a : Act} {w : World} {m : Nm}

theorem resP_run (h : Rel w0 F X N st a w m) {t : TypeId} {v : V} {p : PV} (hv : resP T st t v = some p) {x : Value} (hx : RV w (Gd F m st.b) m v x) : RP w F p x := by
  unfold resP at hv
  split at hv
  · rename_i b
    split at hv
    · rename_i e c l hb
      simp only [Option.some.injEq] at hv
      subst hv
      rw [show x = m.r b from hx]
      exact RP.of_row (h.blks b _ hb) ⟨Nat.le_refl _, fun _ _ _ => rfl, fun k _ hf => .inl hf⟩ (fun k hk hf => by
        have ho : owns m st.b b k := by unfold owns; rw [hb]; exact hk
        exact (h.own b k ho).2.2 hf)
    · simp at hv
  · exact ((hx.fix T t).toP hv).mono (fun k hf => .inl hf)

def resOf (tmps : Array Value) : ResultVar → Sem Value
  | .tmp t => pure (tmps.getD t undef)
  | .cell a t => do loadVar t (← asAddr (tmps.getD a undef))

theorem resL_run (hT : TabOK P T) (h : Rel w0 F X N st a w m) : ∀ (rs : List ResultVar) (ts : List TypeId) {ps : List PV}, resL T st rs ts = some ps →
    ∃ xs : List Value, (rs.mapM (resOf a.tmps)).run P w = .ok xs w ∧ xs.length = ps.length ∧
      ∀ (i : Nat) (p : PV), ps[i]? = some p → ∃ x, xs[i]? = some x ∧ RP w F p x
  | [], ts, ps, hv => by
    simp only [resL, Option.some.injEq] at hv
    subst hv
    exact ⟨[], by simp, rfl, fun i p hi => by simp at hi⟩
  | .tmp t :: r, ts, ps, hv => by
    simp only [resL] at hv
    split at hv
    · rename_i p l hp hl
      simp only [Option.some.injEq] at hv
      subst hv
      obtain ⟨xs, h1, h2, h3⟩ := resL_run hT h r ts.tail hl
      refine ⟨a.tmps.getD t undef :: xs, ?_, by simp [h2], fun i q hi => ?_⟩
      · rw [List.mapM_cons, Sem.run_bind]
        simp only [resOf, Sem.run_pure, Result.andThen_ok, Sem.run_bind, h1]
      · cases i with
        | zero => simp only [List.getElem?_cons_zero, Option.some.injEq] at hi; subst hi; exact ⟨_, rfl, resP_run h hp (h.tmps t)⟩
        | succ i => simpa using h3 i q (by simpa using hi)
    · simp at hv
  | .cell c t :: r, ts, ps, hv => by
    simp only [resL] at hv
    split at hv
    · rename_i p l hp hl
      simp only [Option.some.injEq] at hv
      subst hv
      simp only [Option.bind_eq_some_iff] at hp
      obtain ⟨v, hv1, hv2⟩ := hp
      obtain ⟨x, hx1, hx2⟩ := ld_run hT h hv1 (h.tmps c)
      obtain ⟨xs, h1, h2, h3⟩ := resL_run hT h r ts.tail hl
      have hload : (resOf a.tmps (.cell c t)).run P w = .ok x w := by
        have hptr : ∃ ad, a.tmps.getD c undef = .pointer (some ad) := by
          have hc := h.tmps c
          cases hsc : st.s c <;> rw [hsc] at hv1 hc <;> simp only [ld, reduceCtorEq] at hv1
          · exact ⟨_, hc⟩
          · obtain ⟨k, -, he⟩ := hc; exact ⟨_, he⟩
          · obtain ⟨k, off, he, -⟩ := hc; exact ⟨_, he⟩
        obtain ⟨ad, had⟩ := hptr
        rw [had] at hx1
        simp only [resOf, had]
        simpa [Instr.loadAt, Instr.sureAddr, asAddr] using hx1
      refine ⟨x :: xs, ?_, by simp [h2], fun i q hi => ?_⟩
      · rw [List.mapM_cons, Sem.run_bind, hload]
        simp only [Sem.run_pure, Result.andThen_ok, Sem.run_bind, h1]
      · cases i with
        | zero => simp only [List.getElem?_cons_zero, Option.some.injEq] at hi; subst hi; exact ⟨_, rfl, resP_run h hv2 hx2⟩
        | succ i => simpa using h3 i q (by simpa using hi)
    · simp at hv

theorem results_eq (fn : Func) (tmps : Array Value) (P : Program) (w : World) {xs : List Value} (h : (fn.results.toList.mapM (resOf tmps)).run P w = .ok xs w) :
    (results fn tmps).run P w = .ok (if xs.length = 1 then xs.headD undef else .tuple xs.toArray) w := by
  have h1 : (fn.results.mapM (resOf tmps)).run P w = .ok xs.toArray w := by
    rw [Array.mapM_eq_mapM_toList]
    simp [h]
  have h2 : results fn tmps = (do let vs ← fn.results.mapM (resOf tmps); pure (if h : vs.size = 1 then vs[0] else .tuple vs) : Sem Value) := rfl
  rw [h2, Sem.run_bind, h1]
  simp only [Result.andThen_ok, Sem.run_pure]
  congr 1
  by_cases hx : xs.length = 1
  · match xs, hx with
    | [x], _ => simp
  · rw [if_neg hx, dif_neg (by simpa using hx)]

theorem ARes_run (hT : TabOK P T) (h : Rel w0 F X N st a w m) {fn : Func} {v : V} (hv : ARes T st fn.results.toList fn.resultTypes.toList v) {Y : Nat → Prop} (hY : ∀ b k, owns m st.b b k → w0.heap.size ≤ k ∨ Y k) :
    ∃ x, (results fn a.tmps).run P w = .ok x w ∧ ResR w0 w F Y v x := by
  have pureR : ∀ {ps : List PV} {xs : List Value}, xs.length = ps.length → (∀ (i : Nat) (p : PV), ps[i]? = some p → ∃ x, xs[i]? = some x ∧ RP w F p x) → ArgsR w F (ps.map .p) xs := fun {ps xs} hl hx =>
    ArgsR.of_pure (by simpa using hl) fun i u hi => by
      rw [List.getElem?_map] at hi
      cases hp : ps[i]? with
      | none => rw [hp] at hi; simp at hi
      | some p =>
        rw [hp] at hi
        simp only [Option.map_some, Option.some.injEq] at hi
        subst hi
        exact ⟨hx i p hp, by intros; simp⟩
  have noOwn : ∀ {ps : List PV} {xs : List Value} (k : Nat), ¬ ownA (ps.map .p) xs k := fun {ps xs} => ownA_none fun i u hi e c l => by
    rw [List.getElem?_map] at hi
    cases hp : ps[i]? with
    | none => rw [hp] at hi; simp at hi
    | some p => rw [hp] at hi; simp at hi; subst hi; simp
  cases v <;> simp only [ARes] at hv
  case p p =>
    obtain ⟨xs, h1, h2, h3⟩ := resL_run hT h _ _ hv
    match xs, h2 with
    | [x], _ =>
      exact ⟨x, by simpa using results_eq fn a.tmps P w h1, [x], rfl, pureR (ps := [p]) rfl h3, fun k hk => absurd hk (noOwn (ps := [p]) k)⟩
  case tup l =>
    obtain ⟨ps, h0, hne, rfl⟩ := hv
    obtain ⟨xs, h1, h2, h3⟩ := resL_run hT h _ _ h0
    have := results_eq fn a.tmps P w h1
    rw [if_neg (by omega)] at this
    exact ⟨_, this, xs, rfl, pureR h2 h3, fun k hk => absurd hk (noOwn k)⟩
  case own e c l =>
    obtain ⟨t, b, hrs, hst, hb⟩ := hv
    have hx := h.tmps t
    rw [hst] at hx
    have hx' : a.tmps.getD t undef = m.r b := hx
    have h1 : (fn.results.toList.mapM (resOf a.tmps)).run P w = .ok [m.r b] w := by
      rw [hrs]
      simp [resOf, ← hx']
    have hrun := results_eq fn a.tmps P w h1
    have hown : ∀ k, ownA (comps (.own e c l)) [m.r b] k → owns m st.b b k := fun k ⟨i, e', c', l', x, h2, h3, h4⟩ => by
      cases i with
      | zero => simp only [List.getElem?_cons_zero, Option.some.injEq] at h3; subst h3; unfold owns; rw [hb]; exact h4
      | succ i => simp [comps] at h2
    refine ⟨_, hrun, [m.r b], by simp, ⟨rfl, fun i v hi => ?_, fun k hk => ?_, fun i j _ _ _ _ _ _ _ _ _ h2 _ _ h3 _ _ => ?_⟩, fun k hk => hY b k (hown k hk)⟩
    · cases i with
      | zero =>
        simp only [comps, List.getElem?_cons_zero, Option.some.injEq] at hi
        subst hi
        refine ⟨m.r b, rfl, RVa.mono (v := .own e c l) (fun k hk => ?_) ((h.blks b _ hb).RBr)⟩
        rcases hk with hf | ho
        · exact .inl hf
        · exact .inr ⟨b, hown k ho⟩
      | succ i => simp [comps] at hi
    · have := h.own b k (hown k hk)
      exact ⟨this.2.1, this.2.2⟩
    · cases i with
      | zero =>
        cases j with
        | zero => rfl
        | succ j => simp [comps] at h3
      | succ i => simp [comps] at h2

theorem getD_append_undef (xs : Array Value) (n t : Nat) : (xs ++ Array.replicate n undef).getD t undef = xs.getD t undef := by
  rw [Array.getD_eq_getD_getElem?, Array.getD_eq_getD_getElem?]
  by_cases h : t < xs.size
  · rw [Array.getElem?_append_left h]
  · rw [Array.getElem?_append_right (by omega), Array.getElem?_eq_none (by omega : xs.size ≤ t), Array.getElem?_replicate]
    split <;> rfl

/-- A contract, out of the body. -/
theorem ACon.of_body (hT : TabOK P T) (hm : P.follows .mixedOrders = true) {f : FuncId} {fn : Func} {body : Code} (hf : P.funcs[f]? = some fn) (hname : (fn.name == "runtime.NumGoroutine") = false) (hb : fn.body = some body) {args : List V} {v : V}
    (hN : args.length ≤ fn.ntmps) (hv : awpC P T fn.ntmps body (fun e st => match e with | .exit _ => False | _ => ARes T st fn.results.toList fn.resultTypes.toList v) (initS args)) : ACon P f args v := by
  refine ⟨⟨fn, hf, hname, by rw [hb]; rfl⟩, fun F w xs hF har => ?_⟩
  let m : Nm := ⟨fun _ => 0, fun t => xs.getD t undef⟩
  have hown : ∀ b k, owns m (initS args).b b k → ∃ e c l x, args[b]? = some (.own e c l) ∧ xs[b]? = some x ∧ ownB x = some k := fun b k ho => by
    unfold owns at ho
    simp only [initS] at ho
    cases hab : args[b]? with
    | none => rw [hab] at ho; simp at ho
    | some u =>
      rw [hab] at ho
      cases u <;> simp only at ho <;> try exact ho.elim
      rename_i e c l
      obtain ⟨x, hx, -⟩ := har.rel b _ hab
      have hx' : xs.getD b undef = x := by rw [List.getD_eq_getElem?_getD, hx]; rfl
      simp only [m, hx'] at ho
      exact ⟨e, c, l, x, rfl, hx, ho⟩
  have hownA : ∀ b k, owns m (initS args).b b k → ownA args xs k := fun b k ho => by
    obtain ⟨e, c, l, x, h1, h2, h3⟩ := hown b k ho
    exact ⟨b, e, c, l, x, h1, h2, h3⟩
  have hG : ∀ k, Gd F m (initS args).b k → F k ∨ ownA args xs k := fun k hk => by
    rcases hk with hf | ⟨b, hb⟩
    · exact .inl hf
    · exact .inr (hownA b k hb)
  have hrel : Rel w F (ownA args xs) fn.ntmps (initS args) { tmps := xs.toArray ++ Array.replicate (fn.ntmps - xs.toArray.size) undef, defers := [] } w m := by
    refine ⟨Keeps.refl _ _, hF, fun b k ho => ?_, fun b b' k h1 h2 => ?_, ?_, fun t => ?_, fun b blk hb => ?_, rfl⟩
    · have h1 := hownA b k ho
      exact ⟨.inr h1, (har.own k h1).1, (har.own k h1).2⟩
    · obtain ⟨e, c, l, x, h3, h4, h5⟩ := hown b k h1
      obtain ⟨e', c', l', x', h6, h7, h8⟩ := hown b' k h2
      exact har.uniq _ _ _ _ _ _ _ _ _ _ _ h3 h4 h5 h6 h7 h8
    · have := har.len
      simp; omega
    · rw [getD_append_undef]
      cases hat : args[t]? with
      | none =>
        have : xs.toArray.getD t undef = undef := by
          have h1 : xs.length ≤ t := by rw [har.len]; exact List.getElem?_eq_none_iff.1 hat
          rw [Array.getD_eq_getD_getElem?, Array.getElem?_eq_none (by simpa using h1)]; rfl
        rw [this]
        simp only [initS, hat]
        exact ⟨#[], rfl, rfl, fun i v hi => by simp at hi⟩
      | some u =>
        obtain ⟨x, hx, hr⟩ := har.rel t u hat
        have hx' : xs.toArray.getD t undef = x := by rw [Array.getD_eq_getD_getElem?]; simp [hx]
        rw [hx']
        simp only [initS, hat]
        cases u <;> try exact hr.elim
        · exact .of0 (v := .p _) (RP.mono hG hr)
        · obtain ⟨k, off, h1, h2⟩ := hr
          exact .of0 (v := .rptr _ _) ⟨k, off, h1, h2.move (Nat.le_refl _) (fun _ _ _ => rfl) (fun k _ hk => hG k hk)⟩
        · refine .of0 (v := .row _) ?_
          show x = xs.getD t undef
          rw [List.getD_eq_getElem?_getD, hx]; rfl
    · simp only [initS] at hb
      cases hab : args[b]? with
      | none => rw [hab] at hb; simp at hb
      | some u =>
        rw [hab] at hb
        cases u <;> simp only [reduceCtorEq] at hb
        rename_i e c l
        simp only [Option.some.injEq] at hb
        subst hb
        obtain ⟨x, hx, hr⟩ := har.rel b _ hab
        have hrow : RBr w w (fun k => F k ∨ ownA args xs k) e c l x := hr
        refine hrow.RB ⟨Nat.le_refl _, fun _ _ _ => rfl, fun k _ hk => hG k hk⟩ ?_
        show xs.getD b undef = x
        rw [List.getD_eq_getElem?_getD, hx]; rfl
  refine calls_of_wp hf hb (wp_mono (awpC_run hT hm body _ _ _ w m hrel hv) fun e a' w' he => ?_)
  have fin : ∀ {st' m'}, ARes T st' fn.results.toList fn.resultTypes.toList v → Rel w F (ownA args xs) fn.ntmps st' a' w' m' →
      ∃ x, (results fn a'.tmps).run P w' = .ok x w' ∧ a'.defers = [] ∧ Keeps (ownA args xs) w w' ∧ ResR w w' F (ownA args xs) v x := fun {st' m'} hres hr => by
    obtain ⟨x, h1, h2⟩ := ARes_run hT hr hres (Y := ownA args xs) (fun b k ho => (hr.own b k ho).1)
    exact ⟨x, h1, hr.defers, hr.keeps, h2⟩
  cases e with
  | normal =>
    obtain ⟨st', m', hq, hr⟩ := he
    obtain ⟨x, h1, h2, h3, h4⟩ := fin hq hr
    exact bodyPost_end h1 h2 ⟨x, rfl, h3, h4⟩
  | exit i => obtain ⟨st', m', hq, hr⟩ := he; exact hq.elim
  | ret =>
    obtain ⟨st', m', hq, hr⟩ := he
    obtain ⟨x, h1, h2, h3, h4⟩ := fin hq hr
    exact bodyPost_ret h1 h2 ⟨x, rfl, h3, h4⟩
  | goto _ => exact he.elim
  | panic _ => exact he.elim
  | outgrown => exact he.elim
end
end Go.Av
namespace Go.Av
open Go
theorem TyOK.of {P : Program} {t : TypeId} {y : Ty} {z : Value} (hinfo : (P.info? t).map (fun i => (i.zero, i.size, i.bytes)) = some (some z, y.size, y.bytes)) (hl : y.zero.length = y.size)
    (hz : z.cells.toList.map some = y.zero.map zval) (htup : (match z with | .tuple _ => false | _ => true) = true)
    (kind : match y.kd with
    | .slice e => P.underlying t = some (.slice e)
    | .struct fs => ∃ f, P.underlying t = some (.struct f) ∧ f.toList.map (fun f => (f.offset, f.type)) = fs
    | .array n e => P.underlying t = some (.array n e)
    | .int k => P.underlying t = some (.int k)
    | .str => P.underlying t = some .string
    | .bool => P.underlying t = some .bool
    | .sc => ∃ d, P.underlying t = some d ∧ (d matches .struct _ | .array _ _) = false)
    (hagg : ∀ cs, z = .agg cs → y.kd.isAgg = true)
    (eq : ∀ ks, y.eq = some ks → y.kd.isAgg = true ∧ ∀ xs ys : List Value, fitsL ks xs → fitsL ks ys → ∀ w,
      (Op.equal t (.agg xs.toArray) (.agg ys.toArray)).run P w = .ok (ceq xs ys) w ∧ P.eqGuardType P.depth t = false) : TyOK P t y := by
  cases hi : P.info? t with
  | none => rw [hi] at hinfo; simp at hinfo
  | some i =>
    rw [hi] at hinfo
    simp only [Option.map_some, Option.some.injEq, Prod.mk.injEq] at hinfo
    exact ⟨hl, ⟨i, z, hi, hinfo.2.1, hinfo.2.2, hinfo.1, hz, hagg, fun cs hc => by subst hc; simp at htup⟩, kind, eq⟩

def structOf (P : Program) (t : TypeId) : Option (List (Nat × TypeId)) :=
  match P.underlying t with
  | some (.struct f) => some (f.toList.map fun f => (f.offset, f.type))
  | _ => none
theorem structOf_spec {P : Program} {t : TypeId} {fs : List (Nat × TypeId)} (h : structOf P t = some fs) : ∃ f, P.underlying t = some (.struct f) ∧ f.toList.map (fun f => (f.offset, f.type)) = fs := by
  unfold structOf at h
  split at h
  · rename_i f hf
    simp only [Option.some.injEq] at h
    exact ⟨f, hf, h⟩
  · simp at h
def scOf (P : Program) (t : TypeId) : Bool :=
  match P.underlying t with
  | some (.struct _) | some (.array _ _) | none => false
  | _ => true
theorem scOf_spec {P : Program} {t : TypeId} (h : scOf P t = true) : ∃ d, P.underlying t = some d ∧ (d matches .struct _ | .array _ _) = false := by
  unfold scOf at h
  cases hu : P.underlying t with
  | none => rw [hu] at h; simp at h
  | some d =>
    rw [hu] at h
    refine ⟨d, rfl, ?_⟩
    cases d <;> first | rfl | simp at h

/-! ### The walk, what follows behind names -/
theorem thenA_mono {K K' : St → Prop} {Q : AExit → St → Prop} (h : ∀ st, K st → K' st) {e : AExit} {st : St} (he : thenA K Q e st) : thenA K' Q e st := by
  cases e with
  | normal => exact h st he
  | _ => exact he
section
variable {P : Program} {T : TypeId → Option Ty} {N : Nat}
theorem awpC_seq_k {x y : Code} {Q : AExit → St → Prop} {st : St} (h : ∀ K : St → Prop, (∀ st', awpC P T N y Q st' → K st') → awpC P T N x (thenA K Q) st) : awpC P T N (.seq x y) Q st :=
  h _ fun _ h => h
theorem awpC_reg {id : Nat} {ops : Array Oper} {Q : AExit → St → Prop} {st : St} (h : awpOps P T N ops ops.toList st (Q .normal)) : awpC P T N (.region id ops false) Q st := h
theorem awpC_drw {id : Nat} {ops : Array Oper} {Q : AExit → St → Prop} {st : St} (n : Nat) (hok : drawOK ops n = true) (h : awpQ P T N ops (ops.toList.take n) st (fun st' => awpOps P T N ops (ops.toList.drop n) st' (Q .normal))) : awpC P T N (.region id ops true) Q st := ⟨n, hok, h⟩
theorem awpC_cond {c : Operand} {x y : Code} {Q : AExit → St → Prop} {st : St} {b : Bool} (hc : evO st c = .p (.v (.bool b))) (ht : b = true → awpC P T N x Q st) (hf : b = false → awpC P T N y Q st) : awpC P T N (.cond c x y) Q st := by
  simp only [awpC, hc]; exact ⟨ht, hf⟩
theorem awpC_ret {Q : AExit → St → Prop} {st : St} (h : Q .ret st) : awpC P T N .ret Q st := h
theorem awpC_exit {id : Nat} {Q : AExit → St → Prop} {st : St} (h : Q (.exit id) st) : awpC P T N (.exit id) Q st := h
theorem awpC_skip {Q : AExit → St → Prop} {st : St} (h : Q .normal st) : awpC P T N .skip Q st := h
theorem awpC_block {id : Nat} {x : Code} {Q : AExit → St → Prop} {st : St} (h : awpC P T N x (blockA id Q) st) : awpC P T N (.block id x) Q st := h
theorem awpC_loop {x : Code} {Q : AExit → St → Prop} {st : St} (I : Nat → St → Prop) (n : Nat) (h0 : I n st) (h : ∀ (K : St → Prop) n st', (∀ (s : St) n', n' < n → I n' s → K s) → I n st' → awpC P T N x (thenA K Q) st') : awpC P T N (.loop x) Q st :=
  ⟨I, ⟨n, h0⟩, fun n st' hi => h _ n st' (fun _ n' hlt hi' => ⟨n', hlt, hi'⟩) hi⟩
theorem ACon.of_body' (hT : TabOK P T) (hm : P.follows .mixedOrders = true) {f : FuncId} {fn : Func} {body : Code} (hf : P.funcs[f]? = some fn) (hname : (fn.name == "runtime.NumGoroutine") = false) (hb : fn.body = some body) {N : Nat} (hN' : fn.ntmps = N) {args : List V} {v : V}
    (hN : args.length ≤ N) (h : ∀ Q : AExit → St → Prop, (∀ st, ARes T st fn.results.toList fn.resultTypes.toList v → Q .ret st) → (∀ st, ARes T st fn.results.toList fn.resultTypes.toList v → Q .normal st) → awpC P T N body Q (initS args)) : ACon P f args v := by
  subst hN'
  exact ACon.of_body hT hm hf hname hb hN (h _ (fun _ h => h) (fun _ h => h))
end

theorem CallK.pure {P : Program} {T : TypeId → Option Ty} {st : St} {d : Option Nat} {g : FuncId} {ts : List TypeId} {as us : List V} {v : V} {K : St → Prop} (hu : argsP T ts as = some us) (hc : ACon P g us v) (hp : pureV v = true) (hk : K ⟨putS st.s d v, st.b⟩) : CallK P T st d g ts as K :=
  .inl ⟨us, v, hu, hc, hp, hk⟩
theorem CallK.own {P : Program} {T : TypeId → Option Ty} {st : St} {d : Nat} {g : FuncId} {ts : List TypeId} {as us : List V} {e c : Nat} {l : List (List PV)} {K : St → Prop} (hu : argsP T ts as = some us) (hc : ACon P g us (.own e c l)) (hk : K (crt st d d (.row e c l) (.row d))) : CallK P T st (some d) g ts as K :=
  .inr (.inl ⟨us, d, e, c, l, hu, rfl, hc, hk⟩)
end Go.Av
