/- Regions on abstract values. -/
import Derived.Test.YtnjnloonlcknkaaAvCon
namespace Go.Av
open Go

def dstOK (N : Nat) : Option Nat → Prop
  | none => True
  | some d => d < N

/-- Is the operation wanted? Its guard's outcome must be known. -/
def wantedA (ops : Array Oper) (st : St) (o : Oper) : Option Bool :=
  match o.guard with
  | none => some true
  | some (j, want) => match (ops[j]?).bind (·.dst) with
    | none => none
    | some d => match st.s d with
      | .p (.v (.bool b)) => some (b == want)
      | .tup [] => some false
      | _ => none

def evMake (T : TypeId → Option Ty) (st : St) (t : TypeId) (n c : V) (d : Nat) : Option St :=
  match T t with
  | none => none
  | some y => match y.kd with
    | .slice e => match T e with
      | none => none
      | some z => match n, c, toPs z.zero with
        | .p (.v (.int _ n)), .p (.v (.int _ c)), some zs =>
          if 0 ≤ n ∧ n ≤ c ∧ (z.bytes : Int) * c ≤ 281474976710656 ∧ c ≤ 9223372036854775807 ∧ 0 < z.size then some (crt st d d (.row e z.size (List.replicate n.toNat zs)) (.row d)) else none
        | _, _, _ => none
    | _ => none

/-- append: what stands behind it. -/
def AppK (T : TypeId → Option Ty) (st : St) (d : Nat) (ts : List TypeId) (as : List V) (K : St → Prop) : Prop :=
  match ts, as with
  | [t, tx], [s, x] => match T t, T tx with
    | some y, some yx => match y.kd, yx.kd with
      | .slice e, .slice _ => match T e with
        | none => False
        | some z => 0 < z.size ∧ z.bytes ≠ 0 ∧ match srcL st z.size x with
          | none => False
          | some l => match s with
            | .nil _ => l.length * z.bytes ≤ 140737488355328 ∧ K (crt st d d (.row e z.size l) (.row d))
            | .row b => match st.b b with
              | some (.row e' c' l0) => e' = e ∧ c' = z.size ∧ (l0.length + l.length) * z.bytes ≤ 140737488355328 ∧ K (crt st b d (.row e z.size (l0 ++ l)) (.row b))
              | _ => False
            | .full c' l0 => c' = z.size ∧ (l0.length + l.length) * z.bytes ≤ 140737488355328 ∧
              ((l ≠ [] ∨ l0 = []) ∧ K (crt st d d (.row e z.size (l0 ++ l)) (.row d)) ∨ K ⟨putS st.s (some d) (.p (.sl z.size (l0 ++ l))), st.b⟩)
            | _ => False
      | _, _ => False
    | _, _ => False
  | _, _ => False

/-- A call: what stands behind it, by contract. -/
def CallK (P : Program) (T : TypeId → Option Ty) (st : St) (d : Option Nat) (g : FuncId) (ts : List TypeId) (as : List V) (K : St → Prop) : Prop :=
  (∃ us v, argsP T ts as = some us ∧ ACon P g us v ∧ pureV v = true ∧ K ⟨putS st.s d v, st.b⟩) ∨
  (∃ us d' e c l, argsP T ts as = some us ∧ d = some d' ∧ ACon P g us (.own e c l) ∧ K (crt st d' d' (.row e c l) (.row d'))) ∨
  (∃ i b e c l us v, as[i]? = some (.row b) ∧ st.b b = some (.row e c l) ∧ argsP T ts (as.set i (.p (.v .nilFunc))) = some us ∧
    ACon P g (us.set i (.own e c l)) v ∧ ((pureV v = true ∧ K ⟨putS (drp st b).s d v, (drp st b).b⟩) ∨ ∃ e' c' l' d', v = .own e' c' l' ∧ d = some d' ∧ K (crt st b d' (.row e' c' l') (.row b))))

/-- One operation. -/
def stepA (P : Program) (T : TypeId → Option Ty) (N : Nat) (st : St) (o : Oper) (K : St → Prop) : Prop :=
  match o.op with
  | .alloc t => match o.dst with
    | none => False
    | some d => d < N ∧ match evAlloc T st t d with
      | some st' => K st'
      | none => False
  | .box t x => match o.dst with
    | none => False
    | some d => d < N ∧ match evBox T st t d (evO st x) with
      | some st' => K st'
      | none => False
  | .makeSlice t n c => match o.dst with
    | none => False
    | some d => d < N ∧ match evMake T st t (evO st n) (evO st c) d with
      | some st' => K st'
      | none => False
  | .store t p x => match o.dst with
    | some _ => False
    | none => match evStore T st t (evO st p) (evO st x) with
      | some st' => K st'
      | none => False
  | .call { callee := .builtin .append, args := as, argTypes := ts } => match o.dst with
    | none => False
    | some d => d < N ∧ AppK T st d ts.toList (as.toList.map (evO st)) K
  | .call { callee := .value f, args := as, argTypes := ts } => match evO st f with
    | .p (.v (.func (.func g) _ _)) => dstOK N o.dst ∧ CallK P T st o.dst g ts.toList (as.toList.map (evO st)) K
    | _ => False
  | _ => dstOK N o.dst ∧ match evV T st o with
    | some v => K ⟨putS st.s o.dst v, st.b⟩
    | none => False

def awpOps (P : Program) (T : TypeId → Option Ty) (N : Nat) (ops : Array Oper) : List Oper → St → (St → Prop) → Prop
  | [], st, K => K st
  | o :: rest, st, K => match wantedA ops st o with
    | none => False
    | some q => (q = true → stepA P T N st o (fun st' => awpOps P T N ops rest st' K)) ∧ (q = false → dstOK N o.dst ∧ awpOps P T N ops rest ⟨putS st.s o.dst (.tup []), st.b⟩ K)

section
variable {P : Program} {T : TypeId → Option Ty} {w0 : World} {F X : Nat → Prop} {N : Nat} {st : St} {a : Act} {w : World} {m : Nm}

theorem wantedA_run {ops : Array Oper} (h : Rel w0 F X N st a w m) {o : Oper} {q : Bool} (hq : wantedA ops st o = some q) : Region.wanted o (yielded ops a.tmps) = q := by
  unfold wantedA at hq
  unfold Region.wanted
  split at hq
  · rename_i hg
    simp only [Option.some.injEq] at hq
    rw [hg]; exact hq
  · rename_i j want hg
    rw [hg]
    split at hq
    · simp at hq
    rename_i d hd
    have ht := h.tmps d
    unfold yielded
    split at hq
    · rename_i b hb
      simp only [Option.some.injEq] at hq
      rw [hb] at ht
      have ht' := RV.scal ht
      have hx : a.tmps[d]? = some (.bool b) := by
        rw [Array.getD_eq_getD_getElem?] at ht'
        cases hx : a.tmps[d]? with
        | none => rw [hx] at ht'; simp [undef] at ht'
        | some x => rw [hx] at ht'; simpa using ht'
      simp only [hd, Option.bind_some, hx]
      rw [← hq]
      cases b <;> cases want <;> rfl
    · rename_i hb
      simp only [Option.some.injEq] at hq
      rw [hb] at ht
      obtain ⟨xs, hxs, -, -⟩ := ht
      have : ∀ c, a.tmps[d]? ≠ some (.bool c) := fun c hc => by
        rw [Array.getD_eq_getD_getElem?, hc] at hxs
        simp at hxs
      simp only [hd, Option.bind_some]
      rw [← hq]
      cases hx : a.tmps[d]? with
      | none => rfl
      | some x =>
        cases x <;> first | rfl | exact absurd hx (this _)
    · simp at hq

theorem dstOK.lt {d : Option Nat} (h : dstOK N d) : ∀ k, d = some k → k < N := fun k hk => by subst hk; exact h

theorem run_of_value {o : Oper} {x : Value} {w' : World} (hr : (execOp a.eval o).run P w = .ok (.value x) w') {K : Act → World → Prop} {Q : Exit → Act → World → Prop} (hK : K (a.put o.dst x) w') : o.wp P a w K Q := by
  unfold Oper.wp
  rw [hr]; exact hK

theorem evMake_run (hT : TabOK P T) (h : Rel w0 F X N st a w m) {t : TypeId} {d : Nat} (hd : d < N) {n c : V} {qn qc : Value} (hn : RV w (Gd F m st.b) m n qn) (hc : RV w (Gd F m st.b) m c qc) {st' : St} (hv : evMake T st t n c d = some st') :
    ∃ x w' m', (Instr.makeSlice t qn qc).run P w = .ok x w' ∧ Rel w0 F X N st' (a.put (some d) x) w' m' := by
  unfold evMake at hv
  split at hv
  · simp at hv
  rename_i y hy
  split at hv
  · rename_i e hkd
    have hu := (hT t y hy).slice hkd
    split at hv
    · simp at hv
    rename_i z hz
    split at hv
    · rename_i kn n kc c zs hzs
      split at hv
      · rename_i hcnd
        obtain ⟨h0, h1, h2, h3, h4⟩ := hcnd
        simp only [Option.some.injEq] at hv
        subst hv
        have e1 := RV.scal hn
        have e2 := RV.scal hc
        subst e1 e2
        obtain ⟨i, zv, hi, hs, hby, hzv, -⟩ := (hT e z hz).info
        obtain ⟨i', zv', hi', hs', hzv', har, hzl⟩ := zero_AR (hT e z hz) hzs w (Gd F m st.b)
        rw [hi] at hi'
        simp only [Option.some.injEq] at hi'
        subst hi'
        rw [hzv] at hzv'
        simp only [Option.some.injEq] at hzv'
        subst hzv'
        have hrun := run_make (P := P) w t e i zv hu hi hzv kn kc n c h0 h1 (by rw [hby]; exact h2) h3
        have hzc : zv.cells.size = z.size := by rw [hzl, (hT e z hz).zlen]
        have hlen : (List.replicate n.toNat zs).length = n.toNat := by simp
        obtain ⟨m', hm'⟩ := h.row (nm := d) hd (e := e) (c := z.size) (l := List.replicate n.toNat zs) (x := .slice (some ⟨w.heap.size, 0, none⟩) n.toNat c.toNat) (w' := w.alloc (.cells (madeCells zv.cells (c.toNat * i.size)) e))
          ⟨rfl, rfl, rfl, by simp, fun k hk _ => Go.RowKit.Below.heap_alloc w _ k hk⟩ (by
            by_cases hc0 : c.toNat = 0
            · have hn0 : n.toNat = 0 := by omega
              refine .inl ⟨?_, ⟨some ⟨w.heap.size, 0, none⟩, by rw [hn0, hc0]⟩, by rw [hn0]; rfl⟩
              rw [hn0, hc0]
              exact RP.slM (l := []) (by simp) (by simp [maxLen]) (fun h => absurd rfl h) (fun i e h => by simp at h)
            · refine .inr ⟨w.heap.size, c.toNat, _, by rw [hlen], by omega, by rw [hlen]; omega, by unfold maxLen; omega, heap_alloc_new w _, by rw [size_madeCells, hs], fun i' el hi' => ?_⟩
              have hin : i' < n.toNat := by have := (List.getElem?_eq_some_iff.1 hi').1; simpa using this
              rw [List.getElem?_replicate, if_pos hin] at hi'
              simp only [Option.some.injEq] at hi'
              subst hi'
              have hzsl : zs.length = z.size := by rw [← har.1, hzc]
              refine ⟨hzsl, fun j p hj => ?_⟩
              obtain ⟨h5, u, h6, h7⟩ := har.2 j p hj
              have hjl := (List.getElem?_eq_some_iff.1 hj).1
              refine ⟨h5, u, ?_, h7⟩
              have hlt : i' * z.size + j < c.toNat * i.size := by
                have : (i' + 1) * z.size ≤ c.toNat * z.size := Nat.mul_le_mul_right _ (by omega)
                rw [Nat.add_mul, Nat.one_mul] at this
                rw [hs]; omega
              show (madeCells zv.cells (c.toNat * i.size))[i' * z.size + j]? = some u
              have hmod : (i' * z.size + j) % zv.cells.size = j := by
                rw [hzc, Nat.mul_comm, Nat.mul_add_mod, Nat.mod_eq_of_lt (by omega)]
              simp only [madeCells, Array.getElem?_map, Array.getElem?_range, hlt, if_true, Option.map_some, Option.some.injEq]
              rw [hmod]
              have := (Array.getElem?_eq_some_iff.1 h6)
              obtain ⟨h8, h9⟩ := this
              rw [getElem!_pos zv.cells j h8]; exact h9) (fun k hk => by
            simp only [ownB] at hk
            split at hk
            · simp at hk
            · simp only [Option.some.injEq] at hk
              subst hk
              exact ⟨.inr (Nat.le_refl _), by simp⟩)
        exact ⟨_, _, m', hrun, hm'⟩
      · simp at hv
    · simp at hv
  · simp at hv

theorem app_run (hT : TabOK P T) (h : Rel w0 F X N st a w m) {d : Nat} (hd : d < N) {ts : Array TypeId} {as : Array Operand} {ty : TypeId} {K : St → Prop} (hv : AppK T st d ts.toList (as.toList.map (evO st)) K) {K' : Act → World → Prop}
    (hK : ∀ st' a' w' m', K st' → Rel w0 F X N st' a' w' m' → K' a' w') : ∃ x w', (Builtin.append_ ts ty (as.map a.eval)).run P w = .ok x w' ∧ K' (a.put (some d) x) w' := by
  unfold AppK at hv
  split at hv
  · rename_i t tx s x hts has
    have hts' : ts[0]? = some t ∧ ts[1]? = some tx := by
      have h0 := congrArg (fun l : List TypeId => l[0]?) hts
      have h1 := congrArg (fun l : List TypeId => l[1]?) hts
      exact ⟨by simpa using h0, by simpa using h1⟩
    obtain ⟨o0, o1, hos⟩ : ∃ o0 o1, as.toList = [o0, o1] := by
      match hl : as.toList, has with
      | [o0, o1], _ => exact ⟨o0, o1, rfl⟩
    have hs0 : evO st o0 = s := by rw [hos] at has; simp at has; exact has.1
    have hx0 : evO st o1 = x := by rw [hos] at has; simp at has; exact has.2
    have hargs : as.map a.eval = #[a.eval o0, a.eval o1] := by
      apply Array.ext'
      simp [hos]
    rw [hargs]
    have hs := h.evO o0
    have hx := h.evO o1
    rw [hs0] at hs
    rw [hx0] at hx
    generalize a.eval o0 = qs at hs ⊢
    generalize a.eval o1 = qx at hx ⊢
    split at hv
    · rename_i y yx hy hyx
      split at hv
      · rename_i e ex hkd hkx
        have hu := (hT t y hy).slice hkd
        have hux := (hT tx yx hyx).slice hkx
        split at hv
        · exact hv.elim
        rename_i z hz
        obtain ⟨hz0, hzb, hv⟩ := hv
        obtain ⟨i, zv, hi, hsz, hby, hzv, hzc, -⟩ := (hT e z hz).info
        have hzs : zv.cells.size = i.size := by
          have := congrArg List.length hzc
          simp at this
          rw [this, (hT e z hz).zlen, hsz]
        split at hv
        · exact hv.elim
        rename_i l hl
        obtain ⟨news, hsrc⟩ := srcL_run h hz0 hl hx
        have bnd63 : ∀ {n : Nat}, n * z.bytes ≤ 140737488355328 → n ≤ 9223372036854775807 := fun {n} hn => by
          have : n * 1 ≤ n * z.bytes := Nat.mul_le_mul_left _ (by omega)
          omega
        cases s with
        | nil c0 =>
          obtain ⟨hb, hk⟩ := hv
          have hq : qs = .slice none 0 0 := hs
          obtain ⟨v, w', h1, h2, h3, h4⟩ := app_row (st := st) (m := m) (F := F) (Y := fun k => owns m st.b d k) hu hi hzv hzs hux ts hts' ty hsz (l0 := []) hsrc (by simpa [hby] using hb) (by simpa using bnd63 hb) (by rw [hby]; exact hzb) hz0
            (.inr ⟨none, [], hq, by rw [hq]; exact src_empty _ _, .inr ⟨rfl, by rw [hq]; exact .nil _⟩⟩)
          obtain ⟨m', hm'⟩ := h.row hd h2 h3 h4
          exact ⟨v, w', h1, hK _ _ _ _ hk hm'⟩
        | row b =>
          simp only at hv
          cases hb' : st.b b with
          | none => rw [hb'] at hv; exact hv.elim
          | some blk =>
            rw [hb'] at hv
            cases blk with
            | box e' cs => exact hv.elim
            | row e' c' l0 =>
              obtain ⟨rfl, rfl, hb, hk⟩ := hv
              have hq : qs = m.r b := hs
              obtain ⟨v, w', h1, h2, h3, h4⟩ := app_row (st := st) (m := m) (F := F) (Y := fun k => owns m st.b b k) hu hi hzv hzs hux ts hts' ty hsz (l0 := l0) hsrc (by simpa [hby] using hb) (bnd63 hb) (by rw [hby]; exact hzb) hz0
                (s := qs) (.inl ⟨by rw [hq]; exact (h.blks b _ hb').RBr, fun k hk' => by unfold owns; rw [hb', ← hq]; exact hk'⟩)
              obtain ⟨m', hm'⟩ := h.row hd h2 h3 h4
              exact ⟨v, w', h1, hK _ _ _ _ hk hm'⟩
        | full c' l0 =>
          obtain ⟨rfl, hb, hk⟩ := hv
          obtain ⟨hq1, b, hq2⟩ := hs
          obtain ⟨olds, ho⟩ := src_RP hz0 hq1
          rcases hk with ⟨hcase, hk⟩ | hk
          · obtain ⟨v, w', h1, h2, h3, h4⟩ := app_row (st := st) (m := m) (F := F) (Y := fun k => owns m st.b d k) hu hi hzv hzs hux ts hts' ty hsz (l0 := l0) hsrc (by simpa [hby] using hb) (bnd63 hb) (by rw [hby]; exact hzb) hz0
              (.inr ⟨b, olds, hq2, ho, hcase.imp id fun h0 => ⟨h0, by rw [h0] at hq1; exact hq1⟩⟩)
            obtain ⟨m', hm'⟩ := h.row hd h2 h3 h4
            exact ⟨v, w', h1, hK _ _ _ _ hk hm'⟩
          · by_cases hle : l = []
            · obtain ⟨bx, capx, hxs⟩ := hsrc.shape
              have hrun := app_none (P := P) (w := w) hu hi hux ts hts' ty (b := b) (n := l0.length) (cap := l0.length) (Nat.le_refl _) (x := qx) (by rw [hxs, hle]; rfl)
              rw [← hq2] at hrun
              refine ⟨qs, w, hrun, hK _ _ _ m hk (h.put (some d) _ qs (fun k hk => by simp only [Option.some.injEq] at hk; omega) (.of0 (v := .p _) ?_))⟩
              rw [hle, List.append_nil]; exact hq1
            · obtain ⟨v, w', h1, h2, h3, h4⟩ := app_row (st := st) (m := m) (F := F) (Y := fun _ => False) hu hi hzv hzs hux ts hts' ty hsz (l0 := l0) hsrc (by simpa [hby] using hb) (bnd63 hb) (by rw [hby]; exact hzb) hz0
                (.inr ⟨b, olds, hq2, ho, .inl hle⟩)
              refine ⟨v, w', h1, hK _ _ _ m hk ((h.world h2).put (some d) _ v (fun k hk => by simp only [Option.some.injEq] at hk; omega) (.of0 (v := .p _) ?_))⟩
              refine h3.RP (G' := Gd F m st.b) ⟨h2.size, fun k hk _ => h2.block k hk id, fun _ _ hg => hg⟩ (fun k hk hg => ?_)
              rcases (h4 k hk).1 with h5 | h5
              · exact h5
              · have := h.gd_lt k hg; omega
        | _ => exact hv.elim
      · exact hv.elim
    · exact hv.elim
  · exact hv.elim

theorem ArgsR_take (h : Rel w0 F X N st a w m) {us : List V} {xs : List Value} {i b e c : Nat} {l : List (List PV)} (hb : st.b b = some (.row e c l)) (hl : xs.length = us.length) (hi : i < us.length) (hx : xs[i]? = some (m.r b))
    (hus : ∀ (j : Nat) (u : V), j ≠ i → us[j]? = some u → (∃ x, xs[j]? = some x ∧ RVa w (Gd F m st.b) u x) ∧ ∀ e c l, u ≠ .own e c l) :
    ArgsR w (Gx F m st.b b) (us.set i (.own e c l)) xs ∧ ∀ k, ownA (us.set i (.own e c l)) xs k ↔ owns m st.b b k := by
  have hown : ∀ k, ownA (us.set i (.own e c l)) xs k ↔ owns m st.b b k := fun k => by
    constructor
    · rintro ⟨j, e', c', l', x, h1, h2, h3⟩
      by_cases hj : j = i
      · subst hj
        rw [hx] at h2
        simp only [Option.some.injEq] at h2
        subst h2
        unfold owns; rw [hb]; exact h3
      · rw [List.getElem?_set_ne (Ne.symm hj)] at h1
        exact absurd rfl ((hus j _ hj h1).2 e' c' l')
    · intro ho
      unfold owns at ho
      rw [hb] at ho
      exact ⟨i, e, c, l, m.r b, by rw [List.getElem?_set_self hi], hx, ho⟩
  have hG : ∀ k, Gx F m st.b b k ∨ ownA (us.set i (.own e c l)) xs k → Gd F m st.b k := fun k hk => by
    rcases hk with (hf | ⟨b', -, ho⟩) | ho
    · exact .inl hf
    · exact .inr ⟨b', ho⟩
    · exact .inr ⟨b, (hown k).1 ho⟩
  refine ⟨⟨by rw [List.length_set]; exact hl, fun j v hj => ?_, fun k hk => ?_, fun j j' e1 c1 e2 c2 l1 l2 x y k h1 h2 h3 h4 h5 h6 => ?_⟩, hown⟩
  · by_cases hji : j = i
    · subst hji
      rw [List.getElem?_set_self hi] at hj
      simp only [Option.some.injEq] at hj
      subst hj
      exact ⟨m.r b, hx, RVa.mono hG (v := .own e c l) ((h.blks b _ hb).RBr)⟩
    · rw [List.getElem?_set_ne (Ne.symm hji)] at hj
      obtain ⟨x, h1, h2⟩ := (hus j v hji hj).1
      exact ⟨x, h1, h2.mono hG⟩
  · have ho := (hown k).1 hk
    refine ⟨(h.own b k ho).2.1, fun hg => ?_⟩
    rcases hg with hf | ⟨b', hne, ho'⟩
    · exact (h.own b k ho).2.2 hf
    · exact hne (h.uniq _ _ _ ho' ho)
  · have key : ∀ j e1 c1 l1, (us.set i (.own e c l))[j]? = some (.own e1 c1 l1) → j = i := fun j e1 c1 l1 hj => by
      by_cases hji : j = i
      · exact hji
      · rw [List.getElem?_set_ne (Ne.symm hji)] at hj
        exact absurd rfl ((hus j _ hji hj).2 e1 c1 l1)
    rw [key j _ _ _ h1, key j' _ _ _ h4]

theorem ResR.mono {w' : World} {G Y Y' : Nat → Prop} {v : V} {x : Value} (h : ResR w w' G Y v x) (hY : ∀ k, Y k → Y' k) : ResR w w' G Y' v x :=
  let ⟨ys, h1, h2, h3⟩ := h
  ⟨ys, h1, h2, fun k hk => (h3 k hk).imp id (hY k)⟩

theorem call_run_pure (h : Rel w0 F X N st a w m) {o : Oper} {f : Operand} {as : Array Operand} {ts : Array TypeId} (ho : o.op = .call { callee := .value f, args := as, argTypes := ts }) {g : FuncId} (hf : a.eval f = .func (.func g) #[] #[]) (hd : dstOK N o.dst)
    {us : List V} {v : V} (hus : argsP T ts.toList (as.toList.map (evO st)) = some us) (hc : ACon P g us v) (hpv : pureV v = true) {K' : Act → World → Prop} {Q : Exit → Act → World → Prop} (hK : ∀ x w', Rel w0 F X N ⟨putS st.s o.dst v, st.b⟩ (a.put o.dst x) w' m → K' (a.put o.dst x) w') : o.wp P a w K' Q := by
  have hargs : ∀ (i : Nat) (v : V), (as.toList.map (evO st))[i]? = some v → ∃ q, (as.toList.map a.eval)[i]? = some q ∧ RV w (Gd F m st.b) m v q := fun i v hi => by
    rw [List.getElem?_map] at hi ⊢
    cases hx : as.toList[i]? with
    | none => rw [hx] at hi; simp at hi
    | some x =>
      rw [hx] at hi
      simp only [Option.map_some, Option.some.injEq] at hi ⊢
      exact ⟨_, rfl, hi ▸ h.evO x⟩
  have hxs : (as.toList.map a.eval).toArray = as.map a.eval := by
    apply Array.ext'
    simp
  obtain ⟨h1, h2⟩ := argsP_run (w := w) (G := Gd F m st.b) (m := m) (xs := as.toList.map a.eval) hus (by simp) hargs
  have har := ArgsR.of_pure (w := w) (G := Gd F m st.b) (args := us) (xs := as.toList.map a.eval) (by rw [h1]; simp) h2
  have hno := ownA_none (xs := as.toList.map a.eval) (fun i u hi => (h2 i u hi).2)
  have hcall := hc.2 (Gd F m st.b) w _ h.gd_lt har
  rw [hxs] at hcall
  refine wp_call hc.1 ho hf hcall fun x w' ⟨hkp, hr⟩ => ?_
  have hw := h.world (hkp.mono fun k hk => hno k hk)
  exact hK x w' (hw.put o.dst v x hd.lt (ResR.pure hpv hr))

theorem call_run (h : Rel w0 F X N st a w m) {o : Oper} {f : Operand} {as : Array Operand} {ts : Array TypeId} (ho : o.op = .call { callee := .value f, args := as, argTypes := ts }) {g : FuncId} (hf : a.eval f = .func (.func g) #[] #[]) (hd : dstOK N o.dst)
    {K : St → Prop} (hv : CallK P T st o.dst g ts.toList (as.toList.map (evO st)) K) {K' : Act → World → Prop} {Q : Exit → Act → World → Prop} (hK : ∀ st' a' w' m', K st' → Rel w0 F X N st' a' w' m' → K' a' w') : o.wp P a w K' Q := by
  have hargs : ∀ (i : Nat) (v : V), (as.toList.map (evO st))[i]? = some v → ∃ q, (as.toList.map a.eval)[i]? = some q ∧ RV w (Gd F m st.b) m v q := fun i v hi => by
    rw [List.getElem?_map] at hi ⊢
    cases hx : as.toList[i]? with
    | none => rw [hx] at hi; simp at hi
    | some x =>
      rw [hx] at hi
      simp only [Option.map_some, Option.some.injEq] at hi ⊢
      exact ⟨_, rfl, hi ▸ h.evO x⟩
  have hxs : (as.toList.map a.eval).toArray = as.map a.eval := by
    apply Array.ext'
    simp
  rcases hv with ⟨us, v, hus, hc, hpv, hk⟩ | ⟨us, d', e, c, l, hus, hd', hc, hk⟩ | ⟨i, b, e, c, l, us, v, hi, hb, hus, hc, hk⟩
  · obtain ⟨h1, h2⟩ := argsP_run (w := w) (G := Gd F m st.b) (m := m) (xs := as.toList.map a.eval) hus (by simp) hargs
    have har := ArgsR.of_pure (w := w) (G := Gd F m st.b) (args := us) (xs := as.toList.map a.eval) (by rw [h1]; simp) h2
    have hno := ownA_none (xs := as.toList.map a.eval) (fun i u hi => (h2 i u hi).2)
    have hcall := hc.2 (Gd F m st.b) w _ h.gd_lt har
    rw [hxs] at hcall
    refine wp_call hc.1 ho hf hcall fun x w' ⟨hkp, hr⟩ => ?_
    have hw := h.world (hkp.mono fun k hk => hno k hk)
    exact hK _ _ _ m hk (hw.put o.dst v x hd.lt (ResR.pure hpv hr))
  · obtain ⟨h1, h2⟩ := argsP_run (w := w) (G := Gd F m st.b) (m := m) (xs := as.toList.map a.eval) hus (by simp) hargs
    have har := ArgsR.of_pure (w := w) (G := Gd F m st.b) (args := us) (xs := as.toList.map a.eval) (by rw [h1]; simp) h2
    have hno := ownA_none (xs := as.toList.map a.eval) (fun i u hi => (h2 i u hi).2)
    have hcall := hc.2 (Gd F m st.b) w _ h.gd_lt har
    rw [hxs] at hcall
    refine wp_call hc.1 ho hf hcall fun x w' ⟨hkp, hr⟩ => ?_
    rw [hd'] at hd ⊢
    obtain ⟨m', hm'⟩ := h.callRow (d := d') hd (hkp.mono fun k hk => hno k hk) (hr.mono fun k hk => hno k hk)
    exact hK _ _ _ m' hk hm'
  · have hi' : i < (as.toList.map (evO st)).length := (List.getElem?_eq_some_iff.1 hi).1
    obtain ⟨xi, hxi, hri⟩ := hargs i _ hi
    have hri' : xi = m.r b := hri
    subst hri'
    obtain ⟨h1, h2⟩ := argsP_run (w := w) (G := Gd F m st.b) (m := m) (xs := (as.toList.map a.eval).set i .nilFunc) hus (by simp) (fun j v hj => by
      by_cases hji : j = i
      · subst hji
        rw [List.getElem?_set_self hi'] at hj
        simp only [Option.some.injEq] at hj
        subst hj
        exact ⟨.nilFunc, by rw [List.getElem?_set_self (by simpa using hi')], .of0 (v := .p _) (.v _ rfl)⟩
      · rw [List.getElem?_set_ne (Ne.symm hji)] at hj ⊢
        exact hargs j v hj)
    have hlen : us.length = as.toList.length := by rw [h1]; simp
    obtain ⟨har, hown⟩ := ArgsR_take h (us := us) (xs := as.toList.map a.eval) (i := i) hb (by simp [hlen]) (by rw [hlen]; simpa using hi') hxi (fun j u hji hj => by
      have := h2 j u hj
      rw [List.getElem?_set_ne (Ne.symm hji)] at this
      exact this)
    have hcall := hc.2 (Gx F m st.b b) w _ (fun k hg => h.gd_lt k (by
      rcases hg with hf | ⟨b', -, ho⟩
      · exact .inl hf
      · exact .inr ⟨b', ho⟩)) har
    rw [hxs] at hcall
    refine wp_call hc.1 ho hf hcall fun x w' ⟨hkp, hr⟩ => ?_
    have hkp' := hkp.mono fun k hk => (hown k).1 hk
    have hr' := hr.mono fun k hk => (hown k).1 hk
    rcases hk with ⟨hpv, hk⟩ | ⟨e', c', l', d', rfl, hd', hk⟩
    · exact hK _ _ _ m hk (h.callGive hd.lt hpv hkp' hr')
    · rw [hd'] at hd ⊢
      obtain ⟨m', hm'⟩ := h.callTake (d := d') hd hkp' hr'
      exact hK _ _ _ m' hk hm'

theorem stepA_run (hT : TabOK P T) (h : Rel w0 F X N st a w m) {o : Oper} {K : St → Prop} (hv : stepA P T N st o K) {K' : Act → World → Prop} {Q : Exit → Act → World → Prop}
    (hK : ∀ st' a' w' m', K st' → Rel w0 F X N st' a' w' m' → K' a' w') : o.wp P a w K' Q := by
  have quiet : (dstOK N o.dst ∧ match evV T st o with | some v => K ⟨putS st.s o.dst v, st.b⟩ | none => False) → o.wp P a w K' Q := fun ⟨hd, hq⟩ => by
    split at hq
    · rename_i v hv
      obtain ⟨x, w', h1, h2, h3⟩ := evV_run hT h hv
      exact run_of_value h1 (hK _ _ _ m hq ((h.world h2).put o.dst v x hd.lt h3))
    · exact hq.elim
  unfold stepA at hv
  split at hv
  · rename_i t hop
    split at hv
    · exact hv.elim
    rename_i d hdst
    obtain ⟨hd, hv⟩ := hv
    split at hv
    · rename_i st' hst
      obtain ⟨x, w', m', h1, h2⟩ := evAlloc_run hT h hd hst
      refine run_of_value (x := x) (w' := w') (by simp only [execOp, hop]; rw [Sem.run_bind, h1]; rfl) ?_
      rw [hdst]; exact hK _ _ _ m' hv h2
    · exact hv.elim
  · rename_i t x hop
    split at hv
    · exact hv.elim
    rename_i d hdst
    obtain ⟨hd, hv⟩ := hv
    split at hv
    · rename_i st' hst
      obtain ⟨x, w', m', h1, h2⟩ := evBox_run (P := P) h hd (h.evO x) hst
      refine run_of_value (x := x) (w' := w') (by simp only [execOp, hop]; rw [Sem.run_bind, h1]; rfl) ?_
      rw [hdst]; exact hK _ _ _ m' hv h2
    · exact hv.elim
  · rename_i t n c hop
    split at hv
    · exact hv.elim
    rename_i d hdst
    obtain ⟨hd, hv⟩ := hv
    split at hv
    · rename_i st' hst
      obtain ⟨x, w', m', h1, h2⟩ := evMake_run hT h hd (h.evO n) (h.evO c) hst
      refine run_of_value (x := x) (w' := w') (by simp only [execOp, hop]; rw [Sem.run_bind, h1]; rfl) ?_
      rw [hdst]; exact hK _ _ _ m' hv h2
    · exact hv.elim
  · rename_i t p x hop
    split at hv
    · exact hv.elim
    rename_i hdst
    split at hv
    · rename_i st' hst
      obtain ⟨w', h1, h2⟩ := evStore_run hT h (h.evO p) (h.evO x) hst
      unfold Oper.wp
      have : (execOp a.eval o).run P w = .ok .skip w' := by simp only [execOp, hop]; rw [Sem.run_bind, h1]; rfl
      rw [this, Oper.upon_skip, hdst]
      exact hK _ _ _ m hv h2
    · exact hv.elim
  · rename_i as ts hop
    split at hv
    · exact hv.elim
    rename_i d hdst
    obtain ⟨hd, hv⟩ := hv
    obtain ⟨x, w', h1, h2⟩ := app_run (ty := o.type) hT h hd hv hK
    refine run_of_value (x := x) (w' := w') (by simp only [execOp, hop, resolve, invoke, builtin]; simp [h1]) ?_
    rw [hdst]; exact h2
  · rename_i f as ts hop
    split at hv
    · rename_i g x1 x2 hf
      obtain ⟨hd, hv⟩ := hv
      have hfe := h.evO f
      rw [hf] at hfe
      have hfe' := RV.scal hfe
      have hsc : scal (.func (.func g) x1 x2) = true := by
        rw [hfe'] at hfe
        cases (show RP w _ (.v (.func (.func g) x1 x2)) (.func (.func g) x1 x2) from hfe)
        assumption
      have e1 : x1 = #[] := by simp only [scal, Bool.and_eq_true, beq_iff_eq] at hsc; exact Array.size_eq_zero_iff.1 hsc.1
      have e2 : x2 = #[] := by simp only [scal, Bool.and_eq_true, beq_iff_eq] at hsc; exact Array.size_eq_zero_iff.1 hsc.2
      exact call_run h hop (by rw [hfe', e1, e2]) hd hv hK
    · exact hv.elim
  · exact quiet hv

theorem awpOps_run (hT : TabOK P T) (ops : Array Oper) {K : St → Prop} {Q : Exit → Act → World → Prop} (hK : ∀ st' a' w' m', K st' → Rel w0 F X N st' a' w' m' → Q .normal a' w') : ∀ (l : List Oper) (st : St) (a : Act) (w : World) (m : Nm),
    Rel w0 F X N st a w m → awpOps P T N ops l st K → wpList P ops Q l a w
  | [], st, a, w, m, h, hv => hK st a w m hv h
  | o :: rest, st, a, w, m, h, hv => by
    simp only [awpOps] at hv
    split at hv
    · exact hv.elim
    rename_i q hq
    have hw := wantedA_run h hq
    simp only [wpList, hw]
    cases q with
    | true =>
      simp only [if_true]
      exact .inl (stepA_run hT h (hv.1 rfl) fun st' a' w' m' hk hr => awpOps_run hT ops hK rest st' a' w' m' hr hk)
    | false =>
      obtain ⟨hd, hv⟩ := hv.2 rfl
      simp only [Bool.false_eq_true, if_false]
      exact awpOps_run hT ops hK rest _ _ w m (h.put o.dst (.tup []) undef hd.lt ⟨#[], rfl, rfl, fun i v hi => by simp at hi⟩) hv
end
end Go.Av
