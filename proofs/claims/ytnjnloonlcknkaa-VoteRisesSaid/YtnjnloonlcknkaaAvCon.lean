/- What a function is said to do, on abstract values; and calls. -/
import Derived.Test.YtnjnloonlcknkaaAvApp
namespace Go.Av
open Go

def ownA (args : List V) (xs : List Value) (k : Nat) : Prop :=
  ∃ (i : Nat) (e : TypeId) (c : Nat) (l : List (List PV)) (x : Value), args[i]? = some (.own e c l) ∧ xs[i]? = some x ∧ ownB x = some k
def RVa (w : World) (G : Nat → Prop) : V → Value → Prop
  | .p p, x => RP w G p x
  | .rptr e j, x => ∃ k off, x = .pointer (some ⟨k, off + j, none⟩) ∧ RE w G e k off
  | .own e c l, x => RBr w w G e c l x
  | _, _ => False
structure ArgsR (w : World) (F : Nat → Prop) (args : List V) (xs : List Value) : Prop where
  len : xs.length = args.length
  rel : ∀ (i : Nat) (v : V), args[i]? = some v → ∃ x, xs[i]? = some x ∧ RVa w (fun k => F k ∨ ownA args xs k) v x
  own : ∀ k, ownA args xs k → k < w.heap.size ∧ ¬ F k
  uniq : ∀ (i j : Nat) (e c e' c' : Nat) (l l' : List (List PV)) (x y : Value) (k : Nat), args[i]? = some (.own e c l) → xs[i]? = some x → ownB x = some k →
    args[j]? = some (.own e' c' l') → xs[j]? = some y → ownB y = some k → i = j

def comps : V → List V
  | .tup l => l
  | v => [v]
def ResR (w w' : World) (F X : Nat → Prop) (v : V) (x : Value) : Prop :=
  ∃ ys : List Value, (match v with | .tup _ => x = .tuple ys.toArray | _ => ys = [x]) ∧ ArgsR w' F (comps v) ys ∧ ∀ k, ownA (comps v) ys k → w.heap.size ≤ k ∨ X k

def Enters (P : Program) (g : FuncId) : Prop := ∃ fn : Func, P.funcs[g]? = some fn ∧ (fn.name == "runtime.NumGoroutine") = false ∧ fn.body.isNone = false

/-- For these arguments the call returns this, and turns nothing that it was not given. -/
def ACon (P : Program) (g : FuncId) (args : List V) (v : V) : Prop :=
  Enters P g ∧ ∀ (F : Nat → Prop) (w : World) (xs : List Value), (∀ k, F k → k < w.heap.size) → ArgsR w F args xs →
    Calls P g xs.toArray w fun e w' => ∃ x, e = .returned x ∧ Keeps (ownA args xs) w w' ∧ ResR w w' F (ownA args xs) v x

def pureV : V → Bool
  | .p _ => true
  | .tup l => l.all fun | .p _ => true | _ => false
  | _ => false

section
variable {P : Program} {T : TypeId → Option Ty} {w0 : World} {F X : Nat → Prop} {N : Nat} {st : St} {a : Act} {w : World} {m : Nm}

/-- Arguments that are handed over as they are. -/
def argP (T : TypeId → Option Ty) (t : TypeId) (v : V) : Option V :=
  match fix T t v with
  | .rptr e j => some (.rptr e j)
  | v => (toP v).map .p
def argsP (T : TypeId → Option Ty) : List TypeId → List V → Option (List V)
  | _, [] => some []
  | ts, v :: r => match argP T (ts.headD 0) v, argsP T ts.tail r with
    | some x, some l => some (x :: l)
    | _, _ => none

theorem argP_run {G : Nat → Prop} {t : TypeId} {v u : V} (h : argP T t v = some u) {x : Value} (hx : RV w G m v x) : RVa w G u x ∧ ∀ e c l, u ≠ .own e c l := by
  unfold argP at h
  have hx' := hx.fix T t
  split at h
  · rename_i e j hf
    simp only [Option.some.injEq] at h; subst h
    rw [hf] at hx'
    exact ⟨hx', by intros; simp⟩
  · simp only [Option.map_eq_some_iff] at h
    obtain ⟨p, hp, rfl⟩ := h
    exact ⟨hx'.toP hp, by intros; simp⟩

theorem RVa.mono {G G' : Nat → Prop} (hG : ∀ k, G' k → G k) {v : V} {x : Value} (h : RVa w G v x) : RVa w G' v x := by
  have ht : Turn w w G G' := ⟨Nat.le_refl _, fun _ _ _ => rfl, fun k _ hg => hG k hg⟩
  cases v <;> first | exact h.elim | skip
  · exact RP.mono hG h
  · obtain ⟨k, off, hx, hr⟩ := h
    exact ⟨k, off, hx, hr.move ht.size ht.block ht.less⟩
  · rcases (show RBr w w G _ _ _ _ from h) with ⟨h0, ha, hl⟩ | ⟨k, cap, cur, hr, hc0, hlc, hcm, hh, hs, hl⟩
    · exact .inl ⟨h0.mono hG, ha, hl⟩
    · exact .inr ⟨k, cap, cur, hr, hc0, hlc, hcm, hh, hs, hl.move ht⟩

theorem argsP_run {G : Nat → Prop} : ∀ {ts : List TypeId} {vs us : List V} {xs : List Value}, argsP T ts vs = some us → xs.length = vs.length →
    (∀ (i : Nat) (v : V), vs[i]? = some v → ∃ x, xs[i]? = some x ∧ RV w G m v x) → us.length = vs.length ∧ ∀ (i : Nat) (u : V), us[i]? = some u → (∃ x, xs[i]? = some x ∧ RVa w G u x) ∧ ∀ e c l, u ≠ .own e c l
  | ts, [], us, xs, h, hl, hx => by simp [argsP] at h; subst h; simp
  | ts, v :: r, us, xs, h, hl, hx => by
    simp only [argsP] at h
    split at h
    · rename_i u l hu hr
      simp only [Option.some.injEq] at h; subst h
      cases xs with
      | nil => simp at hl
      | cons x xs =>
        obtain ⟨h1, h2⟩ := argsP_run (xs := xs) hr (by simpa using hl) (fun i v hi => by simpa using hx (i + 1) v (by simpa using hi))
        refine ⟨by simp [h1], fun i u' hi => ?_⟩
        cases i with
        | zero =>
          simp only [List.getElem?_cons_zero, Option.some.injEq] at hi
          subst hi
          obtain ⟨x', hx1, hx2⟩ := hx 0 v rfl
          simp only [List.getElem?_cons_zero, Option.some.injEq] at hx1
          subst hx1
          obtain ⟨h3, h4⟩ := argP_run hu hx2
          exact ⟨⟨x, rfl, h3⟩, h4⟩
        | succ i => simpa using h2 i u' (by simpa using hi)
    · simp at h

theorem Rel.gd_lt (h : Rel w0 F X N st a w m) : ∀ k, Gd F m st.b k → k < w.heap.size := fun k hg => by
  rcases hg with hf | ⟨b, hb⟩
  · exact Nat.lt_of_lt_of_le (h.fold k hf) h.keeps.size
  · exact (h.own b k hb).2.1

theorem ownA_none {args : List V} {xs : List Value} (h : ∀ (i : Nat) (u : V), args[i]? = some u → ∀ e c l, u ≠ .own e c l) (k : Nat) : ¬ ownA args xs k := fun ⟨i, e, c, l, _, h1, _, _⟩ => h i _ h1 e c l rfl

theorem ArgsR.of_pure {G : Nat → Prop} {args : List V} {xs : List Value} (hl : xs.length = args.length) (h : ∀ (i : Nat) (u : V), args[i]? = some u → (∃ x, xs[i]? = some x ∧ RVa w G u x) ∧ ∀ e c l, u ≠ .own e c l) : ArgsR w G args xs := by
  have hno : ∀ k, ¬ ownA args xs k := ownA_none fun i u hi => (h i u hi).2
  exact ⟨hl, fun i v hi => let ⟨x, h1, h2⟩ := (h i v hi).1; ⟨x, h1, h2.mono fun k hk => hk.resolve_right (hno k)⟩, fun k hk => absurd hk (hno k),
    fun i _ e c _ _ l _ _ _ _ h1 _ _ _ _ _ => absurd rfl ((h i _ h1).2 e c l)⟩

theorem pure_comps {v : V} (h : pureV v = true) : ∀ (i : Nat) (u : V), (comps v)[i]? = some u → ∃ p, u = .p p := fun i u hi => by
  cases v <;> simp only [pureV, Bool.false_eq_true] at h
  · cases i with
    | zero => simp only [comps, List.getElem?_cons_zero, Option.some.injEq] at hi; exact ⟨_, hi.symm⟩
    | succ i => simp [comps] at hi
  · rw [List.all_eq_true] at h
    have := h u (List.mem_of_getElem? hi)
    cases u <;> simp at this
    exact ⟨_, rfl⟩

/-- What comes back, if nothing of it is to be written. -/
theorem ResR.pure {w' : World} {v : V} {x : Value} {Y : Nat → Prop} {G : Nat → Prop} (hv : pureV v = true) (h : ResR w w' G Y v x) : RV w' G m v x := by
  obtain ⟨ys, hys, har, -⟩ := h
  have hno : ∀ k, ¬ ownA (comps v) ys k := ownA_none fun i u hi e c l => by obtain ⟨p, rfl⟩ := pure_comps hv i u hi; simp
  cases v <;> simp only [pureV, Bool.false_eq_true] at hv
  · rename_i p
    simp only at hys
    obtain ⟨y, hy, hr⟩ := har.rel 0 (.p p) rfl
    rw [hys] at hy
    simp only [List.getElem?_cons_zero, Option.some.injEq] at hy
    subst hy
    exact .of0 (v := .p p) (RP.mono (fun k hk => .inl hk) hr)
  · rename_i l
    refine ⟨ys.toArray, hys, by have h0 := har.len; simpa [comps] using h0, fun i v hi => ?_⟩
    obtain ⟨y, hy, hr⟩ := har.rel i v hi
    obtain ⟨p, rfl⟩ := pure_comps (v := .tup l) hv i v hi
    exact ⟨y, by simpa using hy, RP.mono (fun k hk => .inl hk) hr⟩


/-- All handles of a row become the slice that it is. -/
def frz (st : St) (b c : Nat) (l : List (List PV)) : St := ⟨fun t => sub b (.sl c l) (st.s t), fun b' => if b' = b then none else (st.b b').map (subB b (.sl c l))⟩
theorem Rel.frz (h : Rel w0 F X N st a w m) {b e c : Nat} {l : List (List PV)} (hb : st.b b = some (.row e c l)) : Rel w0 F X N (Av.frz st b c l) a w m := h.freeze hb

/-- Rows among these are frozen. -/
def frzs (st : St) : List V → St
  | [] => st
  | .row b :: r => match st.b b with
    | some (.row _ c l) => frzs (Av.frz st b c l) r
    | _ => frzs st r
  | _ :: r => frzs st r
theorem Rel.frzs : ∀ (vs : List V) {st : St}, Rel w0 F X N st a w m → Rel w0 F X N (Av.frzs st vs) a w m
  | [], _, h => h
  | v :: r, st, h => by
    cases v <;> simp only [Av.frzs] <;> try exact Rel.frzs r h
    split
    · rename_i e c l hb
      exact Rel.frzs r (h.frz hb)
    · exact Rel.frzs r h

/-- Arguments that are handed over for reading come back as a thing of this call's own: a row. -/
theorem Rel.callRow (h : Rel w0 F X N st a w m) {d : Nat} (hd : d < N) {e c : Nat} {l : List (List PV)} {x : Value} {w' : World} (hk : Keeps (fun _ => False) w w')
    (hr : ResR w w' (Gd F m st.b) (fun _ => False) (.own e c l) x) : ∃ m', Rel w0 F X N (crt st d d (.row e c l) (.row d)) (a.put (some d) x) w' m' := by
  obtain ⟨ys, hys, har, hfresh⟩ := hr
  simp only at hys
  subst hys
  obtain ⟨y, hy, hrow⟩ := har.rel 0 (.own e c l) rfl
  simp only [List.getElem?_cons_zero, Option.some.injEq] at hy
  subst hy
  have hown1 : ∀ k, ownB x = some k → ownA (comps (.own e c l)) [x] k := fun k hk => ⟨0, e, c, l, x, rfl, rfl, hk⟩
  let m' : Nm := ⟨m.i, fun b => if b = d then x else m.r b⟩
  have hm : ∀ b, b ≠ d → m'.i b = m.i b ∧ m'.r b = m.r b := fun b hb => ⟨rfl, by simp [m', hb]⟩
  have hk' : Keeps (fun k => owns m st.b d k) w w' := hk.mono (fun _ hf => hf.elim)
  have hown' : ∀ k, owns m' (fun b => if b = d then some (.row e c l) else (st.b b).map (scrB d)) d k → (owns m st.b d k ∨ w.heap.size ≤ k) ∧ k < w'.heap.size := fun k ho => by
    simp only [owns, if_true, m'] at ho
    have h1 := hown1 k ho
    rcases hfresh k h1 with h2 | h2
    · exact ⟨.inr h2, (har.own k h1).1⟩
    · exact h2.elim
  have h1 := h.turn d (some (.row e c l)) m' _ hm hk' hown' (fun blk hb => by
    simp only [Option.some.injEq] at hb
    subst hb
    have hrow' : RBr w' w' (fun k => Gd F m st.b k ∨ ownA (comps (.own e c l)) [x] k) e c l x := hrow
    refine hrow'.RB (G' := Gd F m' _) ⟨Nat.le_refl _, fun _ _ _ => rfl, fun k _ hg => ?_⟩ (by simp [m'])
    rcases hg with hf | ⟨b, hb⟩
    · exact .inl (.inl hf)
    · by_cases hne : b = d
      · subst hne
        simp only [owns, if_true, m'] at hb
        exact .inr (hown1 k hb)
      · exact .inl (.inr ⟨b, (owns_scr m m' st.b d _ b k hne (hm b hne)).1 hb⟩))
  exact ⟨m', h1.put (some d) (.row d) _ (fun k hk => by simp only [Option.some.injEq] at hk; omega) (.of0 (v := .row _) (by simp [RV0, m']))⟩

/-- What a row's name leaves, if it is handed over. -/
def Gx (F : Nat → Prop) (m : Nm) (β : Nat → Option Blk) (b0 k : Nat) : Prop := F k ∨ ∃ b, b ≠ b0 ∧ owns m β b k

/-- Arguments of which one is a row to be written: a row comes back. -/
theorem Rel.callTake (h : Rel w0 F X N st a w m) {d b0 : Nat} (hd : d < N) {e c : Nat} {l : List (List PV)} {x : Value} {w' : World} (hk : Keeps (fun k => owns m st.b b0 k) w w')
    (hr : ResR w w' (Gx F m st.b b0) (fun k => owns m st.b b0 k) (.own e c l) x) : ∃ m', Rel w0 F X N (crt st b0 d (.row e c l) (.row b0)) (a.put (some d) x) w' m' := by
  obtain ⟨ys, hys, har, hfresh⟩ := hr
  simp only at hys
  subst hys
  obtain ⟨y, hy, hrow⟩ := har.rel 0 (.own e c l) rfl
  simp only [List.getElem?_cons_zero, Option.some.injEq] at hy
  subst hy
  have hown1 : ∀ k, ownB x = some k → ownA (comps (.own e c l)) [x] k := fun k hk => ⟨0, e, c, l, x, rfl, rfl, hk⟩
  let m' : Nm := ⟨m.i, fun b => if b = b0 then x else m.r b⟩
  have hm : ∀ b, b ≠ b0 → m'.i b = m.i b ∧ m'.r b = m.r b := fun b hb => ⟨rfl, by simp [m', hb]⟩
  have hown' : ∀ k, owns m' (fun b => if b = b0 then some (.row e c l) else (st.b b).map (scrB b0)) b0 k → (owns m st.b b0 k ∨ w.heap.size ≤ k) ∧ k < w'.heap.size := fun k ho => by
    simp only [owns, if_true, m'] at ho
    have h1 := hown1 k ho
    exact ⟨(hfresh k h1).symm, (har.own k h1).1⟩
  have h1 := h.turn b0 (some (.row e c l)) m' _ hm hk hown' (fun blk hb => by
    simp only [Option.some.injEq] at hb
    subst hb
    have hrow' : RBr w' w' (fun k => Gx F m st.b b0 k ∨ ownA (comps (.own e c l)) [x] k) e c l x := hrow
    refine hrow'.RB (G' := Gd F m' _) ⟨Nat.le_refl _, fun _ _ _ => rfl, fun k _ hg => ?_⟩ (by simp [m'])
    rcases hg with hf | ⟨b, hb⟩
    · exact .inl (.inl hf)
    · by_cases hne : b = b0
      · subst hne
        simp only [owns, if_true, m'] at hb
        exact .inr (hown1 k hb)
      · exact .inl (.inr ⟨b, hne, (owns_scr m m' st.b b0 _ b k hne (hm b hne)).1 hb⟩))
  exact ⟨m', h1.put (some d) (.row b0) _ (fun k hk => by simp only [Option.some.injEq] at hk; omega) (.of0 (v := .row _) (by simp [RV0, m']))⟩

/-- .. or what comes back is only read. -/
def drp (st : St) (b0 : Nat) : St := ⟨fun t => scr b0 (st.s t), fun b => if b = b0 then none else (st.b b).map (scrB b0)⟩
theorem Rel.callGive (h : Rel w0 F X N st a w m) {d : Option Nat} {b0 : Nat} (hd : ∀ k, d = some k → k < N) {v : V} (hv : pureV v = true) {x : Value} {w' : World} (hk : Keeps (fun k => owns m st.b b0 k) w w')
    (hr : ResR w w' (Gx F m st.b b0) (fun k => owns m st.b b0 k) v x) : Rel w0 F X N ⟨putS (drp st b0).s d v, (drp st b0).b⟩ (a.put d x) w' m := by
  have h1 := h.turn b0 none m _ (fun b _ => ⟨rfl, rfl⟩) hk (fun k ho => by simp [owns] at ho) (fun blk hb => by simp at hb)
  refine h1.put d v x hd ?_
  have h2 := ResR.pure (m := m) hv hr
  have : ∀ k, Gd F m (drp st b0).b k → Gx F m st.b b0 k := fun k hg => by
    rcases hg with hf | ⟨b, hb⟩
    · exact .inl hf
    · by_cases hne : b = b0
      · subst hne; simp [owns, drp] at hb
      · exact .inr ⟨b, hne, (owns_scr m m st.b b0 none b k hne ⟨rfl, rfl⟩).1 hb⟩
  exact h2.keep ⟨Nat.le_refl _, fun _ _ _ => rfl, fun k _ hg => this k hg⟩

/-- The operation enters the function. -/
theorem run_enter {g : FuncId} (hg : Enters P g) {o : Oper} {f : Operand} {as : Array Operand} {ts : Array TypeId} (ho : o.op = .call { callee := .value f, args := as, argTypes := ts }) (hf : a.eval f = .func (.func g) #[] #[]) :
    (execOp a.eval o).run P w = .ok (.enter g (as.map a.eval)) w := by
  obtain ⟨fn, h1, h2, h3⟩ := hg
  simp only [execOp, ho, resolve, hf, Deferred.ofValue]
  have h2' : ¬ fn.name = "runtime.NumGoroutine" := by simpa using h2
  have h3' : ¬ fn.body = none := by intro h0; rw [h0] at h3; simp at h3
  simp [invoke, callFunc, h1, h2', h3']

theorem wp_call {g : FuncId} (hg : Enters P g) {o : Oper} {f : Operand} {as : Array Operand} {ts : Array TypeId} (ho : o.op = .call { callee := .value f, args := as, argTypes := ts }) (hf : a.eval f = .func (.func g) #[] #[])
    {R : Value → World → Prop} (hc : Calls P g (as.map a.eval) w fun e w' => ∃ x, e = .returned x ∧ R x w') {K : Act → World → Prop} {Q : Exit → Act → World → Prop} (hK : ∀ x w', R x w' → K (a.put o.dst x) w') : o.wp P a w K Q := by
  unfold Oper.wp
  rw [run_enter hg ho hf]
  exact hc.mono fun e w' ⟨x, he, hr⟩ => by subst he; exact hK x w' hr
end
end Go.Av
