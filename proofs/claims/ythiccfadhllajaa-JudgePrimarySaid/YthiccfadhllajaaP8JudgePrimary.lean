/- Texts that the proof needs: AvCon. -/
import Derived.Test.YthiccfadhllajaaP7JudgePrimary
namespace Go.Av
set_option linter.unusedSimpArgs false
set_option linter.unusedVariables false
open Go
def renC (ρ : Nat -> Option Nat) : Cap -> Option Cap
 | .box b => match ρ b with
  | some b' => some (.box b')
  | none => none
 | .val p => some (.val p)
 | .rp e j => some (.rp e j)
def renCs (ρ : Nat -> Option Nat) : List Cap -> Option (List Cap)
 | [] => some []
 | c :: l => match renC ρ c, renCs ρ l with
  | some c', some l' => some (c' :: l')
  | _, _ => none
def renF (σ : Nat -> Option Nat) : Fc -> Option Fc
 | .row b => match σ b with
  | some b' => some (.row b')
  | none => none
 | .p p => some (.p p)
 | .nil c => some (.nil c)
def renFs (σ : Nat -> Option Nat) : List Fc -> Option (List Fc)
 | [] => some []
 | c :: l => match renF σ c, renFs σ l with
  | some c', some l' => some (c' :: l')
  | _, _ => none
def ren0 (ρ σ : Nat -> Option Nat) : V -> V
 | .ptr b o => match ρ b with
  | some b' => .ptr b' o
  | none => .junk
 | .eptr b c i j => match σ b with
  | some b' => .eptr b' c i j
  | none => .junk
 | .row b => match σ b with
  | some b' => .row b'
  | none => .junk
 | .clo f caps => match renCs ρ caps with
  | some cs => .clo f cs
  | none => .junk
 | .ag l => match renFs σ l with
  | some l' => .ag l'
  | none => .junk
 | .suf b c i => match σ b with
  | some b' => .suf b' c i
  | none => .junk
 | v => v
def ren (ρ σ : Nat -> Option Nat) : V -> V
 | .tup l => .tup (l.map (ren0 ρ σ))
 | v => ren0 ρ σ v
def renB (ρ σ : Nat -> Option Nat) : Blk -> Blk
 | .box e cells => .box e (cells.map (ren0 ρ σ))
 | .row e c l => .row e c l
 | .mp ks l => .mp ks l
structure Sends (m m' : Nm) (ρ σ : Nat -> Option Nat) : Prop where
 i : ∀ b b', ρ b = some b' -> m'.i b' = m.i b
 r : ∀ b b', σ b = some b' -> m'.r b' = m.r b
theorem renCs_get {ρ : Nat -> Option Nat} : ∀ {l l' : List Cap}, renCs ρ l = some l' -> l'.length = l.length /\ ∀ (i : Nat) (c' : Cap), l'[i]? = some c' -> ∃ c, l[i]? = some c /\ renC ρ c = some c'
 | [], l', h => by simp only [renCs, Option.some.injEq] at h; subst h; simp
 | c :: l, l', h => by
  simp only [renCs] at h
  split at h
  ·rename_i c1 l1 hc hl
   simp only [Option.some.injEq] at h
   subst h
   obtain ⟨h1, h2⟩ := renCs_get hl
   refine ⟨by simp [h1], fun i c' hi => ?_⟩
   cases i with
   | zero => simp at hi; subst hi; exact ⟨c, rfl, hc⟩
   | succ i => simpa using h2 i c' (by simpa using hi)
  ·simp at h
theorem renFs_get {σ : Nat -> Option Nat} : ∀ {l l' : List Fc}, renFs σ l = some l' -> l'.length = l.length /\ ∀ (i : Nat) (c' : Fc), l'[i]? = some c' -> ∃ c, l[i]? = some c /\ renF σ c = some c'
 | [], l', h => by simp only [renFs, Option.some.injEq] at h; subst h; simp
 | c :: l, l', h => by
  simp only [renFs] at h
  split at h
  ·rename_i c1 l1 hc hl
   simp only [Option.some.injEq] at h
   subst h
   obtain ⟨h1, h2⟩ := renFs_get hl
   refine ⟨by simp [h1], fun i c' hi => ?_⟩
   cases i with
   | zero => simp at hi; subst hi; exact ⟨c, rfl, hc⟩
   | succ i => simpa using h2 i c' (by simpa using hi)
  ·simp at h
theorem RV0.ren [Glob] {w w' : World} {G G' : Nat -> Prop} {m m' : Nm} {ρ σ : Nat -> Option Nat} (ht : Turn w w' G G') (hs : Sends m m' ρ σ) {v : V} {x : Value} (h : RV0 w G m v x) : RV0 w' G' m' (ren0 ρ σ v) x := by
 cases v with
 | p p => exact RV0.keep (v := .p p) ht h
 | nil c => exact h
 | full c l => exact RV0.keep (v := .full c l) ht h
 | ptr b off =>
  simp only [ren0]
  split
  ·rename_i b' hb
   show x = _
   rw [hs.i b b' hb]; exact h
  ·trivial
 | eptr b c i j =>
  simp only [ren0]
  split
  ·rename_i b' hb
   simp only [RV0] at h ⊢
   rw [hs.r b b' hb]; exact h
  ·trivial
 | row b =>
  simp only [ren0]
  split
  ·rename_i b' hb
   show x = _
   rw [hs.r b b' hb]; exact h
  ·trivial
 | rptr e j =>
  obtain ⟨k, off, hx, hr⟩ := h
  exact ⟨k, off, hx, hr.move ht.size ht.block ht.less⟩
 | clo f caps =>
  simp only [ren0]
  split
  ·rename_i cs' hc
   obtain ⟨cs, hx, hl, hcs⟩ := h
   obtain ⟨h1, h2⟩ := renCs_get hc
   refine ⟨cs, hx, by rw [hl, h1], fun i c' hi => ?_⟩
   obtain ⟨c, h3, h4⟩ := h2 i c' hi
   obtain ⟨y, h5, h6⟩ := hcs i c h3
   refine ⟨y, h5, ?_⟩
   cases c with
   | box b =>
    simp only [renC] at h4
    split at h4
    ·rename_i b' hb
     simp only [Option.some.injEq] at h4
     subst h4
     show y = _
     rw [hs.i b b' hb]; exact h6
    ·simp at h4
   | val p =>
    simp only [renC, Option.some.injEq] at h4
    subst h4
    exact RC.keep (c := .val p) ht h6
   | rp e j =>
    simp only [renC, Option.some.injEq] at h4
    subst h4
    exact RC.keep (c := .rp e j) ht h6
  ·trivial
 | ag l =>
  simp only [ren0]
  split
  ·rename_i l' hl'
   obtain ⟨cs, hx, hl, hcs⟩ := h
   obtain ⟨h1, h2⟩ := renFs_get hl'
   refine ⟨cs, hx, by rw [hl, h1], fun i c' hi => ?_⟩
   obtain ⟨c, h3, h4⟩ := h2 i c' hi
   obtain ⟨y, h5, h6, h7⟩ := hcs i c h3
   refine ⟨y, h5, h6, ?_⟩
   cases c with
   | row b =>
    simp only [renF] at h4
    split at h4
    ·rename_i b' hb
     simp only [Option.some.injEq] at h4
     subst h4
     show y = _
     rw [hs.r b b' hb]; exact h7
    ·simp at h4
   | p p =>
    simp only [renF, Option.some.injEq] at h4
    subst h4
    exact RF.keep (c := .p p) ht h7
   | nil c0 =>
    simp only [renF, Option.some.injEq] at h4
    subst h4
    exact h7
  ·trivial
 | suf b c i =>
  simp only [ren0]
  split
  ·rename_i b' hb
   simp only [RV0] at h ⊢
   rw [hs.r b b' hb]; exact h
  ·trivial
 | tup l => exact h.elim
 | junk => trivial
theorem RV.ren [Glob] {w w' : World} {G G' : Nat -> Prop} {m m' : Nm} {ρ σ : Nat -> Option Nat} (ht : Turn w w' G G') (hs : Sends m m' ρ σ) {v : V} {x : Value} (h : RV w G m v x) : RV w' G' m' (ren ρ σ v) x := by
 cases v with
 | tup l =>
  obtain ⟨xs, hx, hsz, hl⟩ := h
  refine ⟨xs, hx, by simpa using hsz, fun i v hv => ?_⟩
  rw [List.getElem?_map] at hv
  cases hli : l[i]? with
  | none => rw [hli] at hv; simp at hv
  | some v0 =>
   rw [hli] at hv
   simp only [Option.map_some, Option.some.injEq] at hv
   obtain ⟨y, hy, hr⟩ := hl i v0 hli
   exact ⟨y, hy, hv ▸ hr.ren ht hs⟩
 | p => exact RV.of0 (RV0.ren (v := .p _) ht hs h)
 | nil => exact RV.of0 (RV0.ren (v := .nil _) ht hs h)
 | full => exact RV.of0 (RV0.ren (v := .full _ _) ht hs h)
 | ptr => exact RV.of0 (RV0.ren (v := .ptr _ _) ht hs h)
 | eptr => exact RV.of0 (RV0.ren (v := .eptr _ _ _ _) ht hs h)
 | rptr => exact RV.of0 (RV0.ren (v := .rptr _ _) ht hs h)
 | row => exact RV.of0 (RV0.ren (v := .row _) ht hs h)
 | clo => exact RV.of0 (RV0.ren (v := .clo _ _) ht hs h)
 | ag => exact RV.of0 (RV0.ren (v := .ag _) ht hs h)
 | suf => exact RV.of0 (RV0.ren (v := .suf _ _ _) ht hs h)
 | junk => trivial
theorem RB.ren [Glob] {w w' : World} {G G' : Nat -> Prop} {m m' : Nm} {ρ σ : Nat -> Option Nat} (ht : Turn w w' G G') (hs : Sends m m' ρ σ) {b : Nat} {blk : Blk} (h : RB w G m b blk) {b' : Nat} (hi : m'.i b' = m.i b) (hr : m'.r b' = m.r b \/ ∃ e cells, blk = .box e cells)
 (hb : ∀ k, (match blk with | .box _ _ => m.i b = k | .row _ _ _ => ownB (m.r b) = some k | .mp _ _ => ownB (m.r b) = some k) -> w'.heap[k]? = w.heap[k]?) : RB w' G' m' b' (renB ρ σ blk) := by
 cases blk with
 | box e cells =>
  obtain ⟨cs, hc, hsz, hl⟩ := h
  refine ⟨cs, by rw [hi, hb _ rfl]; exact hc, by simpa using hsz, fun j v hv => ?_⟩
  rw [List.getElem?_map] at hv
  cases hli : cells[j]? with
  | none => rw [hli] at hv; simp at hv
  | some v0 =>
   rw [hli] at hv
   simp only [Option.map_some, Option.some.injEq] at hv
   obtain ⟨y, hy, ho, hr⟩ := hl j v0 hli
   exact ⟨y, hy, ho, hv ▸ hr.ren ht hs⟩
 | row e c l =>
  have hr : m'.r b' = m.r b := by
   rcases hr with hr | ⟨e', cells, hh⟩
   ·exact hr
   ·simp at hh
  rcases h with ⟨h0, ha, hl⟩ | ⟨k, cap, cur, hv, hc0, hlc, hcm, hh, hsz, hl⟩
  ·exact .inl ⟨by rw [hr]; exact h0.move ht.size ht.block ht.less, by rw [hr]; exact ha, hl⟩
  ·refine .inr ⟨k, cap, cur, by rw [hr]; exact hv, hc0, hlc, hcm, by rw [hb k (by simp [hv, ownB]; omega)]; exact hh, hsz, fun i el hi => ⟨(hl i el hi).1, fun j p hj => ?_⟩⟩
   obtain ⟨h1, u, h2, h3⟩ := (hl i el hi).2 j p hj
   exact ⟨h1, u, h2, h3.move ht.size ht.block ht.less⟩
 | mp ks l =>
  have hr : m'.r b' = m.r b := by
   rcases hr with hr | ⟨e', cells, hh⟩
   ·exact hr
   ·simp at hh
  obtain ⟨k, es, clock, hv, hh, hl⟩ := h
  exact ⟨k, es, clock, by rw [hr]; exact hv, by rw [hb k (by simp [hv, ownB])]; exact hh, hl.mono fun _ _ h => h.move ht.size ht.block ht.less⟩
structure Hp [Glob] (w : World) (F : Nat -> Prop) (m : Nm) (β : Nat -> Option Blk) : Prop where
 fold : ∀ k, F k -> k < w.heap.size
 own : ∀ b k, owns m β b k -> k < w.heap.size /\ ¬ F k
 uniq : ∀ b b' k, owns m β b k -> owns m β b' k -> b = b'
 blks : ∀ b blk, β b = some blk -> RB w (Gd F m β) m b blk
 glob : ∀ g e, Glob.g g = some e -> GE w (Gd F m β) e g
theorem GE.less {w : World} {G G' : Nat -> Prop} (hG : ∀ k, G' k -> G k) {e : List PV} {g : Nat} (h : GE w G e g) : GE w G' e g :=
 h.move (Nat.le_refl _) (fun _ _ _ => rfl) (fun k _ hg => hG k hg)
theorem Hp.none [Glob] {w : World} {F : Nat -> Prop} {m : Nm} {β : Nat -> Option Blk} (hF : ∀ k, F k -> k < w.heap.size) (hβ : ∀ b, β b = .none) (hg : ∀ g e, Glob.g g = some e -> GE w F e g) : Hp w F m β :=
 ⟨hF, fun b k h => by simp [owns, hβ] at h, fun b b' k h => by simp [owns, hβ] at h, fun b blk h => by rw [hβ] at h; simp at h, fun g e h => (hg g e h).less fun k hk => by
  rcases hk with hk | ⟨b, hb⟩
  ·exact hk
  ·simp [owns, hβ] at hb⟩
theorem owns_blk {m m' : Nm} {β γ : Nat -> Option Blk} {b n k : Nat} {blk blk' : Blk} {ρ σ : Nat -> Option Nat} (hb : β b = some blk) (hn : γ n = some blk') (hr : blk' = renB ρ σ blk) (hi : m'.i n = m.i b) (hrr : m'.r n = m.r b \/ ∃ e cells, blk = .box e cells) :
 owns m' γ n k ↔ owns m β b k := by
 unfold owns
 rw [hb, hn, hr]
 cases blk with
 | box e cells => simp [renB, hi]
 | row e c l =>
  rcases hrr with h | ⟨_, _, h⟩
  ·simp [renB, h]
  ·simp at h
 | mp ks l =>
  rcases hrr with h | ⟨_, _, h⟩
  ·simp [renB, h]
  ·simp at h
theorem owns_get {m : Nm} {β : Nat -> Option Blk} {b k : Nat} (h : owns m β b k) : ∃ blk, β b = some blk := by
 unfold owns at h
 split at h
 ·exact ⟨_, by assumption⟩
 ·exact ⟨_, by assumption⟩
 ·exact ⟨_, by assumption⟩
 ·exact h.elim
theorem Hp.ren [Glob] {w : World} {F : Nat -> Prop} {m : Nm} {β : Nat -> Option Blk} (h : Hp w F m β) {F' : Nat -> Prop} {m' : Nm} {γ : Nat -> Option Blk} {ρ : Nat -> Option Nat} (inv : Nat -> Nat)
 (hγ : ∀ n blk', γ n = some blk' -> ∃ blk, β (inv n) = some blk /\ blk' = renB ρ ρ blk /\ m'.i n = m.i (inv n) /\ m'.r n = m.r (inv n))
 (hinj : ∀ n n', (γ n).isSome = true -> (γ n').isSome = true -> inv n = inv n' -> n = n') (hs : Sends m m' ρ ρ)
 (hF : ∀ k, F' k -> F k \/ ∃ b, owns m β b k /\ ∀ n, (γ n).isSome = true -> inv n ≠ b) :
 Hp w F' m' γ /\ (∀ n k, owns m' γ n k -> owns m β (inv n) k /\ (γ n).isSome = true) /\ (∀ k, Gd F' m' γ k -> Gd F m β k) := by
 have h1 : ∀ n k, owns m' γ n k -> owns m β (inv n) k /\ (γ n).isSome = true := fun n k ho => by
  obtain ⟨blk', hn⟩ := owns_get ho
  obtain ⟨blk, hb, hr, hi, hrr⟩ := hγ n blk' hn
  exact ⟨(owns_blk hb hn hr hi (.inl hrr)).1 ho, by rw [hn]; rfl⟩
 have hG : ∀ k, Gd F' m' γ k -> Gd F m β k := fun k hg => by
  rcases hg with hf | ⟨n, ho⟩
  ·rcases hF k hf with hf | ⟨b, hb, -⟩
   ·exact .inl hf
   ·exact .inr ⟨b, hb⟩
  ·exact .inr ⟨_, (h1 n k ho).1⟩
 refine ⟨⟨fun k hf => ?_, fun n k ho => ?_, fun n n' k ho ho' => ?_, fun n blk' hn => ?_, fun g e he => (h.glob g e he).less hG⟩, h1, hG⟩
 ·rcases hF k hf with hf | ⟨b, hb, -⟩
  ·exact h.fold k hf
  ·exact (h.own b k hb).1
 ·obtain ⟨h2, h3⟩ := h1 n k ho
  refine ⟨(h.own _ k h2).1, fun hf => ?_⟩
  rcases hF k hf with hf | ⟨b, hb, hne⟩
  ·exact (h.own _ k h2).2 hf
  ·exact hne n h3 (h.uniq _ _ _ h2 hb)
 ·obtain ⟨h2, h3⟩ := h1 n k ho
  obtain ⟨h4, h5⟩ := h1 n' k ho'
  exact hinj n n' h3 h5 (h.uniq _ _ _ h2 h4)
 ·obtain ⟨blk, hb, hr, hi, hrr⟩ := hγ n blk' hn
  subst hr
  exact (h.blks _ blk hb).ren ⟨Nat.le_refl _, fun _ _ _ => rfl, fun k _ hg => hG k hg⟩ hs hi (.inl hrr) (fun _ _ => rfl)
def nmF (β R : List Blk) : Nat -> Option Blk := fun n => if n < 1024 then none else if n < 2048 then β[n - 1024]? else R[n - 2048]?
inductive Out where
 | ret (v : V) (R β : List Blk)
 | pan (x : Value) (β : List Blk)
def OutR [Glob] (w0 : World) (F X : Nat -> Prop) (m : Nm) (e : Ending) (w : World) : Out -> Prop
 | .ret v R β => ∃ x m', e = .returned x /\ Hp w F m' (nmF β R) /\ (∀ n k, owns m' (nmF β R) n k -> w0.heap.size <= k \/ X k) /\ (∀ n, 1024 <= n -> n < 2048 -> m'.i n = m.i n) /\ RV w (Gd F m' (nmF β R)) m' v x
 | .pan y β => ∃ m', e = .panicked [{ v := y, recovered := false }] /\ Hp w F m' (nmF β []) /\ (∀ n k, owns m' (nmF β []) n k -> w0.heap.size <= k \/ X k) /\ (∀ n, 1024 <= n -> n < 2048 -> m'.i n = m.i n)
def Enters (P : Program) (g : FuncId) : Prop := ∃ fn : Func, P.funcs[g]? = some fn /\ (fn.name == "runtime.NumGoroutine") = false /\ fn.body.isNone = false
def CallX (P : Program) (g : FuncId) (args : Array Value) (w : World) (R : Ending -> World -> Prop) : Prop :=
 (Enters P g /\ Calls P g args w R) \/ ∃ x w', (callFunc g args).run P w = .ok (.value x) w' /\ R (.returned x) w'
theorem CallX.mono {P : Program} {g : FuncId} {args : Array Value} {w : World} {R R' : Ending -> World -> Prop} (h : CallX P g args w R) (hR : ∀ e w', R e w' -> R' e w') : CallX P g args w R' := by
 rcases h with ⟨h1, h2⟩ | ⟨x, w', h1, h2⟩
 ·exact .inl ⟨h1, h2.mono hR⟩
 ·exact .inr ⟨x, w', h1, hR _ _ h2⟩
theorem CallX.calls {P : Program} {g : FuncId} {args : Array Value} {w : World} {R : Ending -> World -> Prop} (he : Enters P g) (h : CallX P g args w R) : Calls P g args w R := by
 rcases h with ⟨-, h2⟩ | ⟨x, w', h1, h2⟩
 ·exact h2
 ·obtain ⟨fn, g1, g2, g3⟩ := he
  have g2' : ¬ fn.name = "runtime.NumGoroutine" := by simpa using g2
  have g3' : ¬ fn.body = none := by intro h0; rw [h0] at g3; simp at g3
  simp [callFunc, g1, g2', g3'] at h1
def Con [Glob] (P : Program) (g : FuncId) (args : List V) (β : List Blk) (out : Out) : Prop :=
 ∀ (F : Nat -> Prop) (w : World) (m : Nm) (xs : List Value), Hp w F m (nmF β []) -> xs.length = args.length →
  (∀ (i : Nat) (v : V), args[i]? = some v -> ∃ x, xs[i]? = some x /\ RV0 w (Gd F m (nmF β [])) m v x) →
  CallX P g xs.toArray w fun e w' => Keeps (fun k => ∃ n, owns m (nmF β []) n k) w w' /\ OutR w F (fun k => ∃ n, owns m (nmF β []) n k) m e w' out
def ConW [Glob] (P : Program) (g : FuncId) (args : List V) (e c : Nat) (l0 l1 : List (List PV)) (v : V) : Prop :=
 ∀ (F : Nat -> Prop) (w : World) (m : Nm) (xs : List Value), Hp w F m (nmF [.row e c l0] []) -> xs.length = args.length →
  (∀ (i : Nat) (v : V), args[i]? = some v -> ∃ x, xs[i]? = some x /\ RV0 w (Gd F m (nmF [.row e c l0] [])) m v x) →
  CallX P g xs.toArray w fun e' w' => Keeps (fun k => ∃ n, owns m (nmF [.row e c l0] []) n k) w w' /\ ∃ x, e' = .returned x /\ Hp w' F m (nmF [.row e c l1] []) /\ RV w' (Gd F m (nmF [.row e c l1] [])) m v x
abbrev ACon [Glob] (P : Program) (g : FuncId) (args : List V) (v : V) : Prop := Con P g args [] (.ret v [] [])
theorem nmF_nil (n : Nat) : nmF [] [] n = none := by simp [nmF]
theorem Gd_nil [Glob] {F : Nat -> Prop} {m : Nm} {k : Nat} (h : Gd F m (nmF [] []) k) : F k := by
 rcases h with h | ⟨n, h⟩
 ·exact h
 ·simp [owns, nmF_nil] at h
def pureV : V -> Bool
 | .p _ => true
 | .tup l => l.all fun | .p _ => true | _ => false
 | _ => false
def flatPV : PV -> Bool
 | .v _ => true
 | .agg l => l.all fun | .v _ => true | _ => false
 | .sl _ _ => false
def flatR : V -> Bool
 | .p p => flatPV p
 | .tup l => l.all fun | .p p => flatPV p | _ => false
 | _ => false
theorem RP.flat_any {w w' : World} {G G' : Nat -> Prop} {p : PV} {x : Value} (hp : flatPV p = true) (h : RP w G p x) : RP w' G' p x := by
 cases h with
 | v x h => exact .v x h
 | nil => simp [flatPV] at hp
 | emp => simp [flatPV] at hp
 | sl => simp [flatPV] at hp
 | agg l cs u hs hone hcell hr =>
  refine .agg l cs u hs hone hcell fun j p hj => ?_
  simp only [flatPV, List.all_eq_true] at hp
  have := hp p (List.mem_of_getElem? hj)
  have hr := hr j p hj
  cases p with
  | v y => cases hr; exact .v _ (by assumption)
  | sl => simp at this
  | agg => simp at this
theorem RV.flat_any [Glob] {w w' : World} {G G' : Nat -> Prop} {m m' : Nm} {v : V} {x : Value} (hv : flatR v = true) (h : RV w G m v x) : RV w' G' m' v x := by
 cases v <;> simp only [flatR, Bool.false_eq_true] at hv
 ·exact RV.of0 (v := .p _) (RP.flat_any hv h)
 ·obtain ⟨xs, hx, hs, hl⟩ := h
  refine ⟨xs, hx, hs, fun i u hi => ?_⟩
  obtain ⟨y, h1, h2⟩ := hl i u hi
  refine ⟨y, h1, ?_⟩
  rw [List.all_eq_true] at hv
  have := hv u (List.mem_of_getElem? hi)
  cases u <;> simp only [Bool.false_eq_true] at this
  exact RP.flat_any this h2
def noNames : V -> Bool
 | .p _ => true
 | .tup l => l.all fun | .p _ => true | _ => false
 | _ => false
def flatW (v : V) : Bool := noNames v || flatR v
theorem RV.flatW [Glob] {w : World} {G G' : Nat -> Prop} {m m' : Nm} {v : V} {x : Value} (hv : Av.flatW v = true) (hG : ∀ k, G' k -> G k) (h : RV w G m v x) : RV w G' m' v x := by
 unfold Av.flatW at hv
 rw [Bool.or_eq_true] at hv
 rcases hv.symm with hv | hv
 ·exact h.flat_any hv
 ·cases v with
  | p p => exact RP.mono hG h
  | tup l =>
   obtain ⟨xs, h1, h2, h3⟩ := h
   refine ⟨xs, h1, h2, fun i v hi => ?_⟩
   obtain ⟨y, h4, h5⟩ := h3 i v hi
   refine ⟨y, h4, ?_⟩
   have hc := List.all_eq_true.1 hv v (List.mem_of_getElem? hi)
   cases v with
   | p p => exact RP.mono hG h5
   | _ => simp at hc
  | _ => simp [noNames] at hv
theorem RV.pure_any {w w' : World} {G G' : Nat -> Prop} {m m' : Nm} (ht : Turn w w' G G') {v : V} {x : Value} (hv : pureV v = true) (h : RV w G m v x) : RV w' G' m' v x := by
 cases v <;> simp only [pureV, Bool.false_eq_true] at hv
 ·exact RV.of0 (v := .p _) (RP.move ht.size ht.block ht.less h)
 ·obtain ⟨xs, hx, hs, hl⟩ := h
  refine ⟨xs, hx, hs, fun i u hi => ?_⟩
  obtain ⟨y, h1, h2⟩ := hl i u hi
  refine ⟨y, h1, ?_⟩
  rw [List.all_eq_true] at hv
  have := hv u (List.mem_of_getElem? hi)
  cases u <;> simp only [Bool.false_eq_true] at this
  exact RP.move ht.size ht.block ht.less h2
section
variable {P : Program} {T : TypeId -> Option Ty} {w0 : World} {m0 : Nm} {F X : Nat -> Prop} {N : Nat} {st : St} {a : Act} {w : World} {m : Nm}
theorem Rel.gd_lt [Glob] (h : Rel w0 m0 F X N st a w m) : ∀ k, Gd F m st.b k -> k < w.heap.size := fun k hg => by
 rcases hg with hf | ⟨b, hb⟩
 ·exact Nat.lt_of_lt_of_le (h.fold k hf) h.keeps.size
 ·exact (h.own b k hb).2.1
theorem Rel.hp [Glob] (h : Rel w0 m0 F X N st a w m) : Hp w F m st.b :=
 ⟨fun k hk => Nat.lt_of_lt_of_le (h.fold k hk) h.keeps.size, fun b k hb => (h.own b k hb).2, h.uniq, h.blks, h.glob⟩
def Cap.free : Cap -> Bool
 | .box _ => false
 | _ => true
def argP (T : TypeId -> Option Ty) (t : TypeId) (v : V) : Option V :=
 match fix T t v with
 | .rptr e j => some (.rptr e j)
 | .clo f cs => if cs.all Cap.free then some (.clo f cs) else none
 | v => match toP v with
  | some p => some (.p p)
  | none => none
def argsP (T : TypeId -> Option Ty) : List TypeId -> List V -> Option (List V)
 | _, [] => some []
 | ts, v :: r => match argP T (ts.headD 0) v, argsP T ts.tail r with
  | some x, some l => some (x :: l)
  | _, _ => none
def lendL (st : St) : List Fc -> Option (List PV)
 | [] => some []
 | .p p :: r => match lendL st r with
  | some l => some (p :: l)
  | none => none
 | .nil c :: r => match lendL st r with
  | some l => some (.sl c [] :: l)
  | none => none
 | .row b :: r => match st.b b, lendL st r with
  | some (.row _ c l0), some l => some (.sl c l0 :: l)
  | _, _ => none
def argB (T : TypeId -> Option Ty) (st : St) (t : TypeId) : V -> Option V
 | .row b => match st.b b with
  | some (.row _ c l) => some (.p (.sl c l))
  | _ => none
 | .ag l => match lendL st l with
  | some ps => some (.p (.agg ps))
  | none => none
 | v => argP T t v
theorem lendL_b {st st' : St} (hb : st.b = st'.b) : ∀ {l : List Fc}, lendL st l = lendL st' l
 | [] => rfl
 | .p p :: r => by simp only [lendL]; rw [lendL_b hb (l := r)]
 | .nil c :: r => by simp only [lendL]; rw [lendL_b hb (l := r)]
 | .row b :: r => by simp only [lendL]; rw [hb, lendL_b hb (l := r)]
def lends (b : Nat) : V -> Prop
 | .row b' => b' = b
 | .ag l => Fc.row b ∈ l
 | _ => False
def argsB (T : TypeId -> Option Ty) (st : St) : List TypeId -> List V -> Option (List V)
 | _, [] => some []
 | ts, v :: r => match argB T st (ts.headD 0) v, argsB T st ts.tail r with
  | some x, some l => some (x :: l)
  | _, _ => none
theorem argP_run [Glob] {G G' : Nat -> Prop} (hG : ∀ k, G' k -> G k) {t : TypeId} {v u : V} (h : argP T t v = some u) {x : Value} (hx : RV w G m v x) (m' : Nm) : RV0 w G' m' u x := by
 have ht : Turn w w G G' := ⟨Nat.le_refl _, fun _ _ _ => rfl, fun k _ hg => hG k hg⟩
 unfold argP at h
 have hx' := hx.fix T t
 split at h
 ·rename_i e j hf
  simp only [Option.some.injEq] at h; subst h
  rw [hf] at hx'
  obtain ⟨k, off, hx, hr⟩ := hx'
  exact ⟨k, off, hx, hr.move ht.size ht.block ht.less⟩
 ·rename_i f caps hf
  split at h
  ·rename_i hfr
   simp only [Option.some.injEq] at h; subst h
   rw [hf] at hx'
   obtain ⟨cs, h1, h2, h3⟩ := hx'
   refine ⟨cs, h1, h2, fun i c hi => ?_⟩
   obtain ⟨y, h4, h5⟩ := h3 i c hi
   refine ⟨y, h4, ?_⟩
   have hc := List.all_eq_true.1 hfr c (List.mem_of_getElem? hi)
   cases c with
   | box b => simp [Cap.free] at hc
   | val p => exact RC.keep (c := .val p) ht h5
   | rp e j => exact RC.keep (c := .rp e j) ht h5
  ·simp at h
 ·split at h
  ·rename_i p hp
   simp only [Option.some.injEq] at h; subst h
   exact RP.mono hG (hx'.toP hp)
  ·simp at h
theorem argsP_run [Glob] {G G' : Nat -> Prop} (hG : ∀ k, G' k -> G k) (m' : Nm) : ∀ {ts : List TypeId} {vs us : List V} {xs : List Value}, argsP T ts vs = some us -> xs.length = vs.length →
 (∀ (i : Nat) (v : V), vs[i]? = some v -> ∃ x, xs[i]? = some x /\ RV w G m v x) -> us.length = vs.length /\ ∀ (i : Nat) (u : V), us[i]? = some u -> ∃ x, xs[i]? = some x /\ RV0 w G' m' u x
 | ts, [], us, xs, h, hl, hx => by simp [argsP] at h; subst h; simp
 | ts, v :: r, us, xs, h, hl, hx => by
  simp only [argsP] at h
  split at h
  ·rename_i u l hu hr
   simp only [Option.some.injEq] at h; subst h
   cases xs with
   | nil => simp at hl
   | cons x xs =>
    obtain ⟨h1, h2⟩ := argsP_run hG m' (xs := xs) hr (by simpa using hl) (fun i v hi => by simpa using hx (i + 1) v (by simpa using hi))
    refine ⟨by simp [h1], fun i u' hi => ?_⟩
    cases i with
    | zero =>
     simp only [List.getElem?_cons_zero, Option.some.injEq] at hi
     subst hi
     obtain ⟨x', hx1, hx2⟩ := hx 0 v rfl
     simp only [List.getElem?_cons_zero, Option.some.injEq] at hx1
     subst hx1
     exact ⟨x, rfl, argP_run hG hu hx2 m'⟩
    | succ i => simpa using h2 i u' (by simpa using hi)
  ·simp at h
def LentF (F : Nat -> Prop) (m : Nm) (st : St) (vs : List V) (k : Nat) : Prop := Gd F m st.b k /\ ¬ ∃ b, (∃ v ∈ vs, lends b v) /\ owns m st.b b k
theorem lendL_run [Glob] (h : Rel w0 m0 F X N st a w m) {V0 : List V} : ∀ {l : List Fc} {ps : List PV}, lendL st l = some ps -> (∀ b, Fc.row b ∈ l -> ∃ v ∈ V0, lends b v) →
 ps.length = l.length /\ ∀ (i : Nat) (p : PV), ps[i]? = some p -> ∃ c, l[i]? = some c /\ ∀ y, y.oneCell' = true -> RF w (Gd F m st.b) m c y -> p.one = true /\ RP w (LentF F m st V0) p y
 | [], ps, hh, _ => by simp only [lendL, Option.some.injEq] at hh; subst hh; simp
 | .p q :: r, ps, hh, hV => by
  simp only [lendL] at hh
  split at hh
  ·rename_i l' hl'
   simp only [Option.some.injEq] at hh; subst hh
   obtain ⟨h1, h2⟩ := lendL_run h hl' (fun b hb => hV b (List.mem_cons_of_mem _ hb))
   refine ⟨by simp [h1], fun i p hi => ?_⟩
   cases i with
   | zero =>
    simp only [List.getElem?_cons_zero, Option.some.injEq] at hi
    subst hi
    refine ⟨_, rfl, fun y hy hr => ?_⟩
    have hr' : RP w (Gd F m st.b) q y := hr
    refine ⟨?_, RP.move (Nat.le_refl _) (fun _ _ _ => rfl) (fun k _ hg => hg.1) hr'⟩
    cases q with
    | agg l => cases hr' with
     | agg l cs u hs hone hcell hr => simp [Value.oneCell'] at hy
    | _ => rfl
   | succ i => simpa using h2 i p (by simpa using hi)
  ·simp at hh
 | .nil c :: r, ps, hh, hV => by
  simp only [lendL] at hh
  split at hh
  ·rename_i l' hl'
   simp only [Option.some.injEq] at hh; subst hh
   obtain ⟨h1, h2⟩ := lendL_run h hl' (fun b hb => hV b (List.mem_cons_of_mem _ hb))
   refine ⟨by simp [h1], fun i p hi => ?_⟩
   cases i with
   | zero =>
    simp only [List.getElem?_cons_zero, Option.some.injEq] at hi
    subst hi
    exact ⟨_, rfl, fun y hy hr => ⟨rfl, by rw [show y = .slice none 0 0 from hr]; exact .nil _⟩⟩
   | succ i => simpa using h2 i p (by simpa using hi)
  ·simp at hh
 | .row b :: r, ps, hh, hV => by
  simp only [lendL] at hh
  split at hh
  ·rename_i e c l0 l' hb hl'
   simp only [Option.some.injEq] at hh; subst hh
   obtain ⟨h1, h2⟩ := lendL_run h hl' (fun b hb => hV b (List.mem_cons_of_mem _ hb))
   refine ⟨by simp [h1], fun i p hi => ?_⟩
   cases i with
   | zero =>
    simp only [List.getElem?_cons_zero, Option.some.injEq] at hi
    subst hi
    refine ⟨_, rfl, fun y hy hr => ?_⟩
    rw [show y = m.r b from hr]
    refine ⟨rfl, RP.of_row (h.blks b _ hb) ⟨Nat.le_refl _, fun _ _ _ => rfl, fun k _ hg => hg.1⟩ fun k hk hg => hg.2 ⟨b, hV b (List.mem_cons_self ..), ?_⟩⟩
    unfold owns; rw [hb]; exact hk
   | succ i => simpa using h2 i p (by simpa using hi)
  ·simp at hh
theorem argsB_run [Glob] (h : Rel w0 m0 F X N st a w m) (m' : Nm) (V0 : List V) : ∀ {ts : List TypeId} {vs us : List V} {xs : List Value}, argsB T st ts vs = some us -> xs.length = vs.length -> (∀ v ∈ vs, v ∈ V0) →
 (∀ (i : Nat) (v : V), vs[i]? = some v -> ∃ x, xs[i]? = some x /\ RV w (Gd F m st.b) m v x) -> us.length = vs.length /\ ∀ (i : Nat) (u : V), us[i]? = some u -> ∃ x, xs[i]? = some x /\ RV0 w (LentF F m st V0) m' u x
 | ts, [], us, xs, hh, hl, _, hx => by simp [argsB] at hh; subst hh; simp
 | ts, v :: r, us, xs, hh, hl, hin, hx => by
  simp only [argsB] at hh
  split at hh
  ·rename_i u l hu hr
   simp only [Option.some.injEq] at hh; subst hh
   cases xs with
   | nil => simp at hl
   | cons x xs =>
    obtain ⟨h1, h2⟩ := argsB_run h m' V0 (xs := xs) hr (by simpa using hl) (fun v hv => hin v (List.mem_cons_of_mem _ hv)) (fun i v hi => by simpa using hx (i + 1) v (by simpa using hi))
    refine ⟨by simp [h1], fun i u' hi => ?_⟩
    cases i with
    | zero =>
     simp only [List.getElem?_cons_zero, Option.some.injEq] at hi
     subst hi
     obtain ⟨x', hx1, hx2⟩ := hx 0 v rfl
     simp only [List.getElem?_cons_zero, Option.some.injEq] at hx1
     subst hx1
     refine ⟨x, rfl, ?_⟩
     unfold argB at hu
     split at hu
     ·rename_i b
      split at hu
      ·rename_i e c l' hb
       simp only [Option.some.injEq] at hu
       subst hu
       rw [show x = m.r b from hx2]
       refine RP.of_row (h.blks b _ hb) ⟨Nat.le_refl _, fun _ _ _ => rfl, fun k _ hg => hg.1⟩ fun k hk hg => hg.2 ⟨b, ⟨_, hin _ (List.mem_cons_self ..), rfl⟩, ?_⟩
       unfold owns; rw [hb]; exact hk
      ·simp at hu
     ·rename_i lf
      split at hu
      ·rename_i ps hps
       simp only [Option.some.injEq] at hu
       subst hu
       obtain ⟨cs, rfl, hsz, hcs⟩ := hx2
       obtain ⟨g1, g2⟩ := lendL_run h (V0 := V0) hps (fun b hb => ⟨_, hin _ (List.mem_cons_self ..), hb⟩)
       have key : ∀ (j : Nat) (p : PV), ps[j]? = some p -> cs[j]? = some (cs.getD j undef) /\ p.one = true /\ RP w (LentF F m st V0) p (cs.getD j undef) := fun j p hj => by
        obtain ⟨c, hc, hg⟩ := g2 j p hj
        obtain ⟨y, y1, y2, y3⟩ := hcs j c hc
        have : cs.getD j undef = y := by simp [Array.getD_eq_getD_getElem?, y1]
        rw [this]
        exact ⟨y1, hg y y2 y3⟩
       exact .agg ps cs (fun j => cs.getD j undef) (by rw [hsz, g1]) (fun j p hj => (key j p hj).2.1) (fun j p hj => (key j p hj).1) (fun j p hj => (key j p hj).2.2)
      ·simp at hu
     ·exact argP_run (fun k hk => hk.1) hu hx2 m'
    | succ i => simpa using h2 i u' (by simpa using hi)
  ·simp at hh
def pos : List Nat -> Nat -> Option Nat
 | [], _ => none
 | a :: l, b => if a = b then some 0 else match pos l b with
  | some i => some (i + 1)
  | none => none
theorem pos_some : ∀ {l : List Nat} {b i : Nat}, pos l b = some i -> l[i]? = some b
 | [], _, _, h => by simp [pos] at h
 | a :: l, b, i, h => by
  simp only [pos] at h
  split at h
  ·simp only [Option.some.injEq] at h; subst h; simpa using by assumption
  ·split at h
   ·rename_i j hj
    simp only [Option.some.injEq] at h; subst h
    simpa using pos_some hj
   ·simp at h
theorem pos_none : ∀ {l : List Nat} {b : Nat}, pos l b = none -> b ∉ l
 | [], _, _ => by simp
 | a :: l, b, h => by
  simp only [pos] at h
  split at h
  ·simp at h
  ·rename_i hne
   split at h
   ·simp at h
   ·rename_i hn
    simp only [List.mem_cons, not_or]
    exact ⟨fun h => hne h.symm, pos_none hn⟩
theorem pos_get : ∀ {l : List Nat} {b i : Nat}, l.Nodup -> l[i]? = some b -> pos l b = some i
 | [], _, _, _, h => by simp at h
 | a :: l, b, i, hn, h => by
  rw [List.nodup_cons] at hn
  cases i with
  | zero => simp at h; simp [pos, h]
  | succ i =>
   simp only [List.getElem?_cons_succ] at h
   have hne : a ≠ b := fun he => hn.1 (he ▸ List.mem_of_getElem? h)
   simp [pos, hne, pos_get hn.2 h]
def inN (S : List Nat) (b : Nat) : Option Nat := match pos S b with
 | some i => some (1024 + i)
 | none => none
def blksOf (st : St) (ρ : Nat -> Option Nat) : List Nat -> Option (List Blk)
 | [] => some []
 | b :: l => match st.b b, blksOf st ρ l with
  | some blk, some r => some (renB ρ ρ blk :: r)
  | _, _ => none
theorem blksOf_get {ρ : Nat -> Option Nat} : ∀ {S : List Nat} {β : List Blk}, blksOf st ρ S = some β -> β.length = S.length /\ ∀ (i : Nat) (blk' : Blk), β[i]? = some blk' -> ∃ b blk, S[i]? = some b /\ st.b b = some blk /\ blk' = renB ρ ρ blk
 | [], β, h => by simp only [blksOf, Option.some.injEq] at h; subst h; simp
 | b :: S, β, h => by
  simp only [blksOf] at h
  split at h
  ·rename_i blk r hb hr
   simp only [Option.some.injEq] at h
   subst h
   obtain ⟨h1, h2⟩ := blksOf_get hr
   refine ⟨by simp [h1], fun i blk' hi => ?_⟩
   cases i with
   | zero => simp at hi; exact ⟨b, blk, rfl, hb, hi.symm⟩
   | succ i => simpa using h2 i blk' (by simpa using hi)
  ·simp at h
def argG (T : TypeId -> Option Ty) (S : List Nat) (t : TypeId) (v : V) : Option V :=
 match fix T t v with
 | .ptr b o => some (ren0 (inN S) (inN S) (.ptr b o))
 | .eptr b c i j => some (ren0 (inN S) (inN S) (.eptr b c i j))
 | .row b => some (ren0 (inN S) (inN S) (.row b))
 | .clo f cs => some (ren0 (inN S) (inN S) (.clo f cs))
 | .rptr e j => some (.rptr e j)
 | .ag l => match toP (.ag l) with
  | some p => some (.p p)
  | none => some (ren0 (inN S) (inN S) (.ag l))
 | v => match toP v with
  | some p => some (.p p)
  | none => none
def argsG (T : TypeId -> Option Ty) (S : List Nat) : List TypeId -> List V -> Option (List V)
 | _, [] => some []
 | ts, v :: r => match argG T S (ts.headD 0) v, argsG T S ts.tail r with
  | some x, some l => some (x :: l)
  | _, _ => none
def inM (m : Nm) (S : List Nat) : Nm := ⟨fun n => m.i (S.getD (n - 1024) 0), fun n => m.r (S.getD (n - 1024) 0)⟩
def RestF (F : Nat -> Prop) (m : Nm) (st : St) (S : List Nat) (k : Nat) : Prop := F k \/ ∃ b, pos S b = none /\ owns m st.b b k
theorem inM_sends [Glob] (m : Nm) (S : List Nat) : Sends m (inM m S) (inN S) (inN S) := by
 have key : ∀ b b', inN S b = some b' -> S.getD (b' - 1024) 0 = b := fun b b' h => by
  unfold inN at h
  split at h
  ·rename_i i hi
   simp only [Option.some.injEq] at h
   subst h
   rw [show 1024 + i - 1024 = i from by omega, List.getD_eq_getElem?_getD, pos_some hi]; rfl
  ·simp at h
 exact ⟨fun b b' h => by simp only [inM]; rw [key b b' h], fun b b' h => by simp only [inM]; rw [key b b' h]⟩
theorem Rel.enter [Glob] (h : Rel w0 m0 F X N st a w m) {S : List Nat} (hS : S.Nodup) {β : List Blk} (hβ : blksOf st (inN S) S = some β) :
 Hp w (RestF F m st S) (inM m S) (nmF β []) /\ (∀ n k, owns (inM m S) (nmF β []) n k -> ∃ b, pos S b = some (n - 1024) /\ 1024 <= n /\ n < 2048 /\ owns m st.b b k) ∧
  (∀ k, Gd (RestF F m st S) (inM m S) (nmF β []) k -> Gd F m st.b k) := by
 obtain ⟨hl, hg⟩ := blksOf_get hβ
 have hγ : ∀ n blk', nmF β [] n = some blk' -> 1024 <= n /\ n < 2048 /\ ∃ b blk, S[n - 1024]? = some b /\ st.b b = some blk /\ blk' = renB (inN S) (inN S) blk := fun n blk' hn => by
  unfold nmF at hn
  split at hn
  ·simp at hn
  ·split at hn
   ·obtain ⟨b, blk, h1, h2, h3⟩ := hg _ _ hn
    exact ⟨by omega, by assumption, b, blk, h1, h2, h3⟩
   ·simp at hn
 have hinv : ∀ {n b}, S[n - 1024]? = some b -> S.getD (n - 1024) 0 = b := fun hb => by rw [List.getD_eq_getElem?_getD, hb]; rfl
 obtain ⟨h1, h2, h3⟩ := h.hp.ren (F' := RestF F m st S) (m' := inM m S) (γ := nmF β []) (ρ := inN S) (fun n => S.getD (n - 1024) 0)
  (fun n blk' hn => by
   obtain ⟨-, -, b, blk, h1, h2, h3⟩ := hγ n blk' hn
   exact ⟨blk, by rw [hinv h1]; exact h2, h3, rfl, rfl⟩)
  (fun n n' hn hn' he => by
   obtain ⟨blk, hn⟩ := Option.isSome_iff_exists.1 hn
   obtain ⟨blk', hn'⟩ := Option.isSome_iff_exists.1 hn'
   obtain ⟨h1, -, b, -, h2, -, -⟩ := hγ n _ hn
   obtain ⟨h1', -, b', -, h2', -, -⟩ := hγ n' _ hn'
   rw [hinv h2, hinv h2'] at he
   subst he
   have e1 := pos_get hS h2
   have e2 := pos_get hS h2'
   rw [e1] at e2
   simp only [Option.some.injEq] at e2
   omega)
  (inM_sends m S) (fun k hk => by
   rcases hk with hf | ⟨b, hb, ho⟩
   ·exact .inl hf
   ·refine .inr ⟨b, ho, fun n hn he => ?_⟩
    obtain ⟨blk, hn⟩ := Option.isSome_iff_exists.1 hn
    obtain ⟨-, -, b', -, h2, -, -⟩ := hγ n _ hn
    rw [hinv h2] at he
    subst he
    rw [pos_get hS h2] at hb
    simp at hb)
 refine ⟨h1, fun n k ho => ?_, h3⟩
 obtain ⟨h4, h5⟩ := h2 n k ho
 obtain ⟨blk, hn⟩ := Option.isSome_iff_exists.1 h5
 obtain ⟨h6, h7, b, -, h8, -, -⟩ := hγ n _ hn
 exact ⟨b, pos_get hS h8, h6, h7, by rw [hinv h8] at h4; exact h4⟩
theorem argG_run [Glob] {S : List Nat} {G G' : Nat -> Prop} (hG : ∀ k, G' k -> G k) {t : TypeId} {v u : V} (h : argG T S t v = some u) {x : Value} (hx : RV w G m v x) : RV0 w G' (inM m S) u x := by
 have ht : Turn w w G G' := ⟨Nat.le_refl _, fun _ _ _ => rfl, fun k _ hg => hG k hg⟩
 unfold argG at h
 have hx' := hx.fix T t
 split at h
 case h_5 e j hf =>
  simp only [Option.some.injEq] at h; subst h
  rw [hf] at hx'
  obtain ⟨k, off, hx, hr⟩ := hx'
  exact ⟨k, off, hx, hr.move ht.size ht.block ht.less⟩
 case h_6 l hf =>
  rw [hf] at hx'
  split at h
  ·rename_i p hp
   simp only [Option.some.injEq] at h; subst h
   exact RP.mono hG (hx'.toP hp)
  ·simp only [Option.some.injEq] at h; subst h
   exact RV0.ren (v := .ag _) ht (inM_sends m S) hx'
 case h_7 =>
  split at h
  ·rename_i p hp
   simp only [Option.some.injEq] at h; subst h
   exact RP.mono hG (hx'.toP hp)
  ·simp at h
 all_goals
  rename_i hf
  simp only [Option.some.injEq] at h; subst h
  rw [hf] at hx'
 ·exact RV0.ren (v := .ptr _ _) ht (inM_sends m S) hx'
 ·exact RV0.ren (v := .eptr _ _ _ _) ht (inM_sends m S) hx'
 ·exact RV0.ren (v := .row _) ht (inM_sends m S) hx'
 ·exact RV0.ren (v := .clo _ _) ht (inM_sends m S) hx'
theorem argsG_run [Glob] {S : List Nat} {G G' : Nat -> Prop} (hG : ∀ k, G' k -> G k) : ∀ {ts : List TypeId} {vs us : List V} {xs : List Value}, argsG T S ts vs = some us -> xs.length = vs.length →
 (∀ (i : Nat) (v : V), vs[i]? = some v -> ∃ x, xs[i]? = some x /\ RV w G m v x) -> us.length = vs.length /\ ∀ (i : Nat) (u : V), us[i]? = some u -> ∃ x, xs[i]? = some x /\ RV0 w G' (inM m S) u x
 | ts, [], us, xs, h, hl, hx => by simp [argsG] at h; subst h; simp
 | ts, v :: r, us, xs, h, hl, hx => by
  simp only [argsG] at h
  split at h
  ·rename_i u l hu hr
   simp only [Option.some.injEq] at h; subst h
   cases xs with
   | nil => simp at hl
   | cons x xs =>
    obtain ⟨h1, h2⟩ := argsG_run hG (xs := xs) hr (by simpa using hl) (fun i v hi => by simpa using hx (i + 1) v (by simpa using hi))
    refine ⟨by simp [h1], fun i u' hi => ?_⟩
    cases i with
    | zero =>
     simp only [List.getElem?_cons_zero, Option.some.injEq] at hi
     subst hi
     obtain ⟨x', hx1, hx2⟩ := hx 0 v rfl
     simp only [List.getElem?_cons_zero, Option.some.injEq] at hx1
     subst hx1
     exact ⟨x, rfl, argG_run hG hu hx2⟩
    | succ i => simpa using h2 i u' (by simpa using hi)
  ·simp at h
def ouN (S A : List Nat) (n : Nat) : Option Nat := if n < 1024 then none else if n < 2048 then S[n - 1024]? else A[n - 2048]?
def kpI (A : List Nat) (b : Nat) : Option Nat := match pos A b with
 | some _ => none
 | none => some b
def kpR (S A : List Nat) (b : Nat) : Option Nat := match pos A b with
 | some _ => none
 | none => match pos S b with
  | some _ => none
  | none => some b
def lv (st : St) (S A : List Nat) (R β : List Blk) : St :=
 ⟨fun t => ren (kpI A) (kpR S A) (st.s t), fun b => match pos A b with
  | some j => (R[j]?).map (renB (ouN S A) (ouN S A))
  | none => match pos S b with
   | some i => (β[i]?).map (renB (ouN S A) (ouN S A))
   | none => (st.b b).map (renB (kpI A) (kpR S A))⟩
def ouM (m m2 : Nm) (S A : List Nat) : Nm :=
 ⟨fun b => match pos A b with
  | some j => m2.i (2048 + j)
  | none => m.i b,
  fun b => match pos A b with
   | some j => m2.r (2048 + j)
   | none => match pos S b with
    | some i => m2.r (1024 + i)
    | none => m.r b⟩
theorem Rel.leave [Glob] (h : Rel w0 m0 F X N st a w m) {S A : List Nat} (hS : S.Nodup) (hSl : S.length <= 1024) (hA : A.Nodup) (hAS : ∀ b ∈ A, b ∉ S /\ (b < 1024 \/ 2048 <= b)) {β : List Blk} (hβ : blksOf st (inN S) S = some β)
 {w' : World} (hk : Keeps (fun k => ∃ n, owns (inM m S) (nmF β []) n k) w w') {m2 : Nm} {β2 R : List Blk} (hp : Hp w' (RestF F m st S) m2 (nmF β2 R))
 (hown : ∀ n k, owns m2 (nmF β2 R) n k -> w.heap.size <= k \/ ∃ n, owns (inM m S) (nmF β []) n k) (hnam : ∀ n, 1024 <= n -> n < 2048 -> m2.i n = (inM m S).i n) :
 Rel w0 m0 F X N (lv st S A R β2) a w' (ouM m m2 S A) /\ ∀ v x, RV w' (Gd (RestF F m st S) m2 (nmF β2 R)) m2 v x -> RV w' (Gd F (ouM m m2 S A) (lv st S A R β2).b) (ouM m m2 S A) (ren (ouN S A) (ouN S A) v) x := by
 obtain ⟨-, hent, -⟩ := h.enter hS hβ
 have hsub : ∀ k, (∃ n, owns (inM m S) (nmF β []) n k) -> ∃ b i, pos S b = some i /\ owns m st.b b k := fun k ⟨n, ho⟩ => by
  obtain ⟨b, h1, -, -, h2⟩ := hent n k ho
  exact ⟨b, _, h1, h2⟩
 have hSi : ∀ {b i}, pos S b = some i -> i < 1024 := fun hb => by
  have := (List.getElem?_eq_some_iff.1 (pos_some hb)).1
  omega
 have hAn : ∀ {b i}, pos S b = some i -> pos A b = none := fun {b i} hb => by
  cases ha : pos A b with
  | none => rfl
  | some j => exact absurd (List.mem_of_getElem? (pos_some hb)) (hAS b (List.mem_of_getElem? (pos_some ha))).1
 have so : Sends m2 (ouM m m2 S A) (ouN S A) (ouN S A) := by
  have key : ∀ n b, ouN S A n = some b -> (1024 <= n /\ n < 2048 /\ pos S b = some (n - 1024)) \/ (2048 <= n /\ pos A b = some (n - 2048)) := fun n b hn => by
   unfold ouN at hn
   split at hn
   ·simp at hn
   ·split at hn
    ·exact .inl ⟨by omega, by assumption, pos_get hS hn⟩
    ·exact .inr ⟨by omega, pos_get hA hn⟩
  refine ⟨fun n b hn => ?_, fun n b hn => ?_⟩
  ·rcases key n b hn with ⟨h1, h2, h3⟩ | ⟨h1, h3⟩
   ·simp only [ouM, hAn h3]
    rw [hnam n h1 h2]
    simp only [inM]
    rw [List.getD_eq_getElem?_getD, pos_some h3]; rfl
   ·simp only [ouM, h3]
    rw [show 2048 + (n - 2048) = n from by omega]
  ·rcases key n b hn with ⟨h1, h2, h3⟩ | ⟨h1, h3⟩
   ·simp only [ouM, hAn h3, h3]
    rw [show 1024 + (n - 1024) = n from by omega]
   ·simp only [ouM, h3]
    rw [show 2048 + (n - 2048) = n from by omega]
 have sk : Sends m (ouM m m2 S A) (kpI A) (kpR S A) := by
  refine ⟨fun b b' hb => ?_, fun b b' hb => ?_⟩
  ·unfold kpI at hb
   split at hb
   ·simp at hb
   ·rename_i hn
    simp only [Option.some.injEq] at hb; subst hb
    simp [ouM, hn]
  ·unfold kpR at hb
   split at hb
   ·simp at hb
   ·rename_i hn
    split at hb
    ·simp at hb
    ·rename_i hn'
     simp only [Option.some.injEq] at hb; subst hb
     simp [ouM, hn, hn']
 have nmS : ∀ {i}, i < 1024 -> nmF β2 R (1024 + i) = β2[i]? := fun {i} hi => by
  unfold nmF
  rw [if_neg (by omega), if_pos (by omega), show 1024 + i - 1024 = i from by omega]
 have nmA : ∀ j, nmF β2 R (2048 + j) = R[j]? := fun j => by
  unfold nmF
  rw [if_neg (by omega), if_neg (by omega), show 2048 + j - 2048 = j from by omega]
 have oA : ∀ {b j k}, pos A b = some j -> (owns (ouM m m2 S A) (lv st S A R β2).b b k ↔ owns m2 (nmF β2 R) (2048 + j) k) := fun {b j k} hb => by
  cases hr : R[j]? with
  | none => simp [owns, lv, hb, hr, nmA j]
  | some blk => exact owns_blk (ρ := ouN S A) (σ := ouN S A) (by rw [nmA j, hr]) (by simp only [lv, hb, hr]; rfl) rfl (by simp [ouM, hb]) (.inl (by simp [ouM, hb]))
 have oS : ∀ {b i k}, pos S b = some i -> (owns (ouM m m2 S A) (lv st S A R β2).b b k ↔ owns m2 (nmF β2 R) (1024 + i) k) := fun {b i k} hb => by
  have hi := hSi hb
  have e1 : (ouM m m2 S A).i b = m2.i (1024 + i) := so.i _ _ (by unfold ouN; rw [if_neg (by omega), if_pos (by omega), show 1024 + i - 1024 = i from by omega]; exact pos_some hb)
  cases hr : β2[i]? with
  | none => simp [owns, lv, hAn hb, hb, hr, nmS hi]
  | some blk => exact owns_blk (ρ := ouN S A) (σ := ouN S A) (by rw [nmS hi, hr]) (by simp only [lv, hAn hb, hb, hr]; rfl) rfl e1 (.inl (by simp [ouM, hAn hb, hb]))
 have oR : ∀ {b k}, pos A b = none -> pos S b = none -> (owns (ouM m m2 S A) (lv st S A R β2).b b k ↔ owns m st.b b k) := fun {b k} ha hs => by
  cases hr : st.b b with
  | none => simp [owns, lv, ha, hs, hr]
  | some blk => exact owns_blk (ρ := kpI A) (σ := kpR S A) hr (by simp only [lv, ha, hs, hr]; rfl) rfl (by simp [ouM, ha]) (.inl (by simp [ouM, ha, hs]))
 have hcase : ∀ b, (∃ j, pos A b = some j) \/ (∃ i, pos S b = some i) \/ (pos A b = none /\ pos S b = none) := fun b => by
  cases ha : pos A b with
  | some j => exact .inl ⟨j, rfl⟩
  | none => cases hs : pos S b with
   | some i => exact .inr (.inl ⟨i, rfl⟩)
   | none => exact .inr (.inr ⟨rfl, rfl⟩)
 have fresh : ∀ n k, owns m2 (nmF β2 R) n k -> (w0.heap.size <= k \/ X k) /\ k < w'.heap.size /\ ¬ F k := fun n k ho => by
  refine ⟨?_, (hp.own n k ho).1, fun hf => (hp.own n k ho).2 (.inl hf)⟩
  rcases hown n k ho with h1 | h1
  ·exact .inl (Nat.le_trans h.keeps.size h1)
  ·obtain ⟨b, i, -, h2⟩ := hsub k h1
   exact (h.own b k h2).1
 have htw : Turn w w' (Gd F m st.b) (Gd F (ouM m m2 S A) (lv st S A R β2).b) := by
  refine ⟨hk.size, fun k hlt hg => hk.block k hlt fun ho => ?_, fun k hlt hg => ?_⟩
  ·obtain ⟨b, i, -, h2⟩ := hsub k ho
   exact hg (.inr ⟨b, h2⟩)
  ·have new : ∀ n, owns m2 (nmF β2 R) n k -> Gd F m st.b k := fun n ho => by
    rcases hown n k ho with h1 | h1
    ·omega
    ·obtain ⟨b, i, -, h2⟩ := hsub k h1
     exact .inr ⟨b, h2⟩
   rcases hg with hf | ⟨b, ho⟩
   ·exact .inl hf
   ·rcases hcase b with ⟨j, hj⟩ | ⟨i, hi⟩ | ⟨h1, h2⟩
    ·exact new _ ((oA hj).1 ho)
    ·exact new _ ((oS hi).1 ho)
    ·exact .inr ⟨b, (oR h1 h2).1 ho⟩
 have htn : Turn w' w' (Gd (RestF F m st S) m2 (nmF β2 R)) (Gd F (ouM m m2 S A) (lv st S A R β2).b) := by
  refine ⟨Nat.le_refl _, fun _ _ _ => rfl, fun k _ hg => ?_⟩
  rcases hg with hf | ⟨b, ho⟩
  ·exact .inl (.inl hf)
  ·rcases hcase b with ⟨j, hj⟩ | ⟨i, hi⟩ | ⟨h1, h2⟩
   ·exact .inr ⟨_, (oA hj).1 ho⟩
   ·exact .inr ⟨_, (oS hi).1 ho⟩
   ·exact .inl (.inr ⟨b, h2, (oR h1 h2).1 ho⟩)
 refine ⟨⟨h.keeps.trans hk fun i hy hi => ?_, h.fold, fun b k ho => ?_, fun b b' k ho ho' => ?_, h.size, fun t => (h.tmps t).ren htw sk, fun b blk hb => ?_, (h.defers.move htw.size htw.block htw.less), fun n h1 h2 => ?_, h.small, fun g e he => (h.glob g e he).move htw.size htw.block htw.less⟩, fun v x hv => hv.ren htn so⟩
 ·obtain ⟨b, j, -, h2⟩ := hsub i hy
  rcases (h.own b i h2).1 with h3 | h3
  ·omega
  ·exact h3
 ·rcases hcase b with ⟨j, hj⟩ | ⟨i, hi⟩ | ⟨h1, h2⟩
  ·exact fresh _ k ((oA hj).1 ho)
  ·exact fresh _ k ((oS hi).1 ho)
  ·have := h.own b k ((oR h1 h2).1 ho)
   exact ⟨this.1, Nat.lt_of_lt_of_le this.2.1 hk.size, this.2.2⟩
 ·have part : ∀ b, (∃ n, owns m2 (nmF β2 R) n k /\ ouN S A n = some b) \/ (pos A b = none /\ pos S b = none) \/ ¬ owns (ouM m m2 S A) (lv st S A R β2).b b k := fun b => by
   rcases hcase b with ⟨j, hj⟩ | ⟨i, hi⟩ | h1
   ·by_cases hob : owns (ouM m m2 S A) (lv st S A R β2).b b k
    ·exact .inl ⟨2048 + j, (oA hj).1 hob, by unfold ouN; rw [if_neg (by omega), if_neg (by omega), show 2048 + j - 2048 = j from by omega]; exact pos_some hj⟩
    ·exact .inr (.inr hob)
   ·by_cases hob : owns (ouM m m2 S A) (lv st S A R β2).b b k
    ·have := hSi hi
     exact .inl ⟨1024 + i, (oS hi).1 hob, by unfold ouN; rw [if_neg (by omega), if_pos (by omega), show 1024 + i - 1024 = i from by omega]; exact pos_some hi⟩
    ·exact .inr (.inr hob)
   ·exact .inr (.inl h1)
  rcases part b with ⟨n, h1, h2⟩ | ⟨h1, h2⟩ | h1
  ·rcases part b' with ⟨n', h3, h4⟩ | ⟨h3, h4⟩ | h3
   ·have := hp.uniq _ _ _ h1 h3
    subst this
    rw [h2] at h4
    simpa using h4
   ·exact absurd (.inr ⟨b', h4, (oR h3 h4).1 ho'⟩) (hp.own _ _ h1).2
   ·exact absurd ho' h3
  ·rcases part b' with ⟨n', h3, h4⟩ | ⟨h3, h4⟩ | h3
   ·exact absurd (.inr ⟨b, h2, (oR h1 h2).1 ho⟩) (hp.own _ _ h3).2
   ·exact h.uniq _ _ _ ((oR h1 h2).1 ho) ((oR h3 h4).1 ho')
   ·exact absurd ho' h3
  ·exact absurd ho h1
 ·rcases hcase b with ⟨j, hj⟩ | ⟨i, hi⟩ | ⟨h1, h2⟩
  ·simp only [lv, hj, Option.map_eq_some_iff] at hb
   obtain ⟨blk0, hb0, rfl⟩ := hb
   exact (hp.blks (2048 + j) blk0 (by rw [nmA j]; exact hb0)).ren htn so (by simp [ouM, hj]) (.inl (by simp [ouM, hj])) (fun _ _ => rfl)
  ·simp only [lv, hAn hi, hi, Option.map_eq_some_iff] at hb
   obtain ⟨blk0, hb0, rfl⟩ := hb
   have hlt := hSi hi
   exact (hp.blks (1024 + i) blk0 (by rw [nmS hlt]; exact hb0)).ren htn so
    (so.i _ _ (by unfold ouN; rw [if_neg (by omega), if_pos (by omega), show 1024 + i - 1024 = i from by omega]; exact pos_some hi)) (.inl (by simp [ouM, hAn hi, hi])) (fun _ _ => rfl)
  ·simp only [lv, h1, h2, Option.map_eq_some_iff] at hb
   obtain ⟨blk0, hb0, rfl⟩ := hb
   refine (h.blks b blk0 hb0).ren htw sk (by simp [ouM, h1]) (.inl (by simp [ouM, h1, h2])) (fun k hk' => ?_)
   have ho : owns m st.b b k := by unfold owns; rw [hb0]; cases blk0 <;> exact hk'
   refine hk.block k (h.own b k ho).2.1 fun hy => ?_
   obtain ⟨b', i, h3, h4⟩ := hsub k hy
   have := h.uniq _ _ _ ho h4
   subst this
   rw [h2] at h3
   simp at h3
 ·have hn : pos A n = none := by
   cases ha : pos A n with
   | none => rfl
   | some j => have := (hAS n (List.mem_of_getElem? (pos_some ha))).2; omega
  simp only [ouM, hn]
  exact h.nam n h1 h2
def frz (st : St) (b c : Nat) (l : List (List PV)) : St := ⟨fun t => sub b (.sl c l) (st.s t), fun b' => if b' = b then none else (st.b b').map (subB b (.sl c l))⟩
theorem Rel.frz [Glob] (h : Rel w0 m0 F X N st a w m) {b e c : Nat} {l : List (List PV)} (hb : st.b b = some (.row e c l)) : Rel w0 m0 F X N (Av.frz st b c l) a w m := h.freeze hb
def plC : List V -> Option (List PV)
 | [] => some []
 | .p q :: l => match plC l with
  | some r => some (q :: r)
  | none => none
 | _ :: _ => none
theorem plC_get : ∀ {l : List V} {r : List PV}, plC l = some r -> l.length = r.length /\ ∀ (j : Nat) (p : PV), r[j]? = some p -> l[j]? = some (.p p)
 | [], r, h => by simp [plC] at h; subst h; simp
 | v :: l, r, h => by
  cases v <;> simp only [plC] at h <;> try (simp at h; done)
  rename_i q
  cases hl : plC l with
  | none => rw [hl] at h; simp at h
  | some r0 =>
   rw [hl] at h
   simp only [Option.some.injEq] at h
   subst h
   obtain ⟨h1, h2⟩ := plC_get hl
   refine ⟨by simp [h1], fun j p hj => ?_⟩
   cases j with
   | zero => simpa using hj
   | succ j => simp only [List.getElem?_cons_succ] at hj ⊢; exact h2 j p hj
def subxC (b : Nat) (es : List PV) : Cap -> Cap
 | .box b' => if b' = b then .rp es 0 else .box b'
 | c => c
def subx0 (b : Nat) (es : List PV) : V -> V
 | .ptr b' o => if b' = b then .rptr es o else .ptr b' o
 | .clo f cs => .clo f (cs.map (subxC b es))
 | v => v
def subx (b : Nat) (es : List PV) : V -> V
 | .tup l => .tup (l.map (subx0 b es))
 | v => subx0 b es v
def subxB (b : Nat) (es : List PV) : Blk -> Blk
 | .box e cells => .box e (cells.map (subx0 b es))
 | .row e c l => .row e c l
 | .mp ks l => .mp ks l
theorem RV0.subx {w : World} {G G' : Nat -> Prop} {m : Nm} (ht : Turn w w G G') {v : V} {x : Value} (h : RV0 w G m v x) (b0 : Nat) (es : List PV) (hq : RE w G' es (m.i b0) 0) : RV0 w G' m (subx0 b0 es v) x := by
 cases v with
 | ptr b o =>
  by_cases hb : b = b0
  ·simp only [subx0, if_pos hb, RV0] at h ⊢
   exact ⟨m.i b0, 0, by rw [h, hb, Nat.zero_add], hq⟩
  ·simp only [subx0, if_neg hb, RV0] at h ⊢; exact h
 | clo f cs =>
  obtain ⟨xs, h1, h2, h3⟩ := h
  refine ⟨xs, h1, by rw [h2, List.length_map], fun i c hi => ?_⟩
  rw [List.getElem?_map] at hi
  cases hci : cs[i]? with
  | none => rw [hci] at hi; simp at hi
  | some c0 =>
   rw [hci] at hi
   simp only [Option.map_some, Option.some.injEq] at hi
   obtain ⟨y, h4, h5⟩ := h3 i c0 hci
   refine ⟨y, h4, ?_⟩
   subst hi
   cases c0 with
   | box b =>
    by_cases hb : b = b0
    ·simp only [subxC, if_pos hb]
     have h6 : y = .pointer (some ⟨m.i b, 0, none⟩) := h5
     exact ⟨m.i b0, 0, by rw [h6, hb], hq⟩
    ·simp only [subxC, if_neg hb]; exact h5
   | val p => exact RC.keep (c := .val p) ht h5
   | rp e j => exact RC.keep (c := .rp e j) ht h5
 | _ => exact RV0.keep ht h
theorem RV.subx {w : World} {G G' : Nat -> Prop} {m : Nm} (ht : Turn w w G G') {v : V} {x : Value} (h : RV w G m v x) (b0 : Nat) (es : List PV) (hq : RE w G' es (m.i b0) 0) : RV w G' m (subx b0 es v) x := by
 cases v with
 | tup l =>
  obtain ⟨xs, hx, hs, hl⟩ := h
  refine ⟨xs, hx, by simpa using hs, fun i v hv => ?_⟩
  rw [List.getElem?_map] at hv
  cases hli : l[i]? with
  | none => rw [hli] at hv; simp at hv
  | some v0 =>
   rw [hli] at hv
   simp only [Option.map_some, Option.some.injEq] at hv
   obtain ⟨y, hy, hr⟩ := hl i v0 hli
   exact ⟨y, hy, hv ▸ hr.subx ht b0 es hq⟩
 | p => exact RV.of0 (RV0.subx (v := .p _) ht h b0 es hq)
 | nil => exact RV.of0 (RV0.subx (v := .nil _) ht h b0 es hq)
 | full => exact RV.of0 (RV0.subx (v := .full _ _) ht h b0 es hq)
 | ptr => exact RV.of0 (RV0.subx (v := .ptr _ _) ht h b0 es hq)
 | eptr => exact RV.of0 (RV0.subx (v := .eptr _ _ _ _) ht h b0 es hq)
 | rptr => exact RV.of0 (RV0.subx (v := .rptr _ _) ht h b0 es hq)
 | row => exact RV.of0 (RV0.subx (v := .row _) ht h b0 es hq)
 | clo => exact RV.of0 (RV0.subx (v := .clo _ _) ht h b0 es hq)
 | ag => exact RV.of0 (RV0.subx (v := .ag _) ht h b0 es hq)
 | suf => exact RV.of0 (RV0.subx (v := .suf _ _ _) ht h b0 es hq)
 | junk => trivial
def frzx (st : St) (b : Nat) (es : List PV) : St := ⟨fun t => Av.subx b es (st.s t), fun b' => if b' = b then none else (st.b b').map (subxB b es)⟩
theorem Rel.frzx [Glob] {w0 : World} {m0 : Nm} {F X : Nat -> Prop} {N : Nat} {st : St} {a : Act} {w : World} {m : Nm} (h : Rel w0 m0 F X N st a w m) {b0 e : Nat} {cells : List V} {es : List PV}
 (hb : st.b b0 = some (.box e cells)) (hp : plC cells = some es) : Rel w0 m0 F X N (Av.frzx st b0 es) a w m := by
 have hiff : ∀ b k, owns m (fun b => if b = b0 then none else (st.b b).map (subxB b0 es)) b k ↔ b ≠ b0 /\ owns m st.b b k := fun b k => by
  unfold owns
  by_cases hne : b = b0
  ·simp [hne]
  ·simp only [ne_eq, hne, not_false_eq_true, true_and, if_false]
   cases hsb : st.b b with
   | none => simp
   | some blk => cases blk <;> simp [subxB]
 have ht : Turn w w (Gd F m st.b) (Gd F m (fun b => if b = b0 then none else (st.b b).map (subxB b0 es))) := by
  refine ⟨Nat.le_refl _, fun _ _ _ => rfl, fun k _ hg => ?_⟩
  rcases hg with hf | ⟨b, hb'⟩
  ·exact .inl hf
  ·exact .inr ⟨b, ((hiff b k).1 hb').2⟩
 have hq : RE w (Gd F m (fun b => if b = b0 then none else (st.b b).map (subxB b0 es))) es (m.i b0) 0 := by
  obtain ⟨cs, hc, hs, hl⟩ := h.blks b0 _ hb
  obtain ⟨h1, h2⟩ := plC_get hp
  have ho : owns m st.b b0 (m.i b0) := by unfold owns; rw [hb]
  refine ⟨fun _ => ⟨lt_of_heap hc, fun hg => ?_⟩, fun j p hj => ?_⟩
  ·rcases hg with hf | ⟨b, hb'⟩
   ·exact (h.own b0 _ ho).2.2 hf
   ·exact ((hiff b _).1 hb').1 (h.uniq _ _ _ ((hiff b _).1 hb').2 ho)
  ·obtain ⟨x, hx, hone, hr⟩ := hl j _ (h2 j p hj)
   have hr' : RP w _ p x := hr
   refine ⟨?_, x, by simpa [World.cell?, hc] using hx, hr'.move ht.size ht.block ht.less⟩
   cases p with
   | agg l => cases hr' with
    | agg l cs u hs hone' hcell hr => simp [Value.oneCell'] at hone
   | _ => rfl
 refine ⟨h.keeps, h.fold, fun b k hb' => h.own b k ((hiff b k).1 hb').2, fun b b' k hb1 hb2 => h.uniq b b' k ((hiff b k).1 hb1).2 ((hiff b' k).1 hb2).2, h.size,
  fun t => (h.tmps t).subx ht b0 _ hq, fun b blk hb' => ?_, (h.defers.move ht.size ht.block ht.less), h.nam, h.small, fun g e he => (h.glob g e he).move ht.size ht.block ht.less⟩
 simp only [Av.frzx] at hb'
 by_cases hne : b = b0
 ·simp [hne] at hb'
 ·simp only [if_neg hne] at hb'
  cases hsb : st.b b with
  | none => rw [hsb] at hb'; simp at hb'
  | some blk0 =>
   rw [hsb] at hb'
   simp only [Option.map_some, Option.some.injEq] at hb'
   subst hb'
   have h0 := h.blks b blk0 hsb
   cases blk0 with
   | row e' c' l' => exact h0.keep ht (fun _ _ => rfl)
   | mp ks' l' => exact h0.keep ht (fun _ _ => rfl)
   | box e' cells =>
    obtain ⟨cs, hc, hs, hl⟩ := h0
    refine ⟨cs, hc, by simpa using hs, fun j v hv => ?_⟩
    rw [List.getElem?_map] at hv
    cases hli : cells[j]? with
    | none => rw [hli] at hv; simp at hv
    | some v0 =>
     rw [hli] at hv
     simp only [Option.map_some, Option.some.injEq] at hv
     obtain ⟨y, hy, ho, hr⟩ := hl j v0 hli
     exact ⟨y, hy, ho, hv ▸ hr.subx ht b0 _ hq⟩
inductive Gh where
 | frz (b : Nat)
 | row (t e c : Nat)
 | bx (b : Nat)
 | cel (b j n e c : Nat)
def gh1 (st : St) : Gh -> St
 | .frz b => match st.b b with
  | some (.row _ c l) => Av.frz st b c l
  | _ => st
 | .row t e c => if t < 1024 then match st.s t with
  | .nil _ => ⟨fun t' => if t' = t then .row t else scr t (st.s t'), fun b => if b = t then some (.row e c []) else (st.b b).map (scrB t)⟩
  | _ => st
  else st
 | .bx b => match st.b b with
  | some (.box _ cells) => match plC cells with
   | some es => Av.frzx st b es
   | none => st
  | _ => st
 | .cel b j n e c => if n = b then st else match st.b b with
  | some (.box e0 cells) => match cells[j]? with
   | some (.nil _) => ⟨fun t => scr n (st.s t), fun b' => if b' = b then some (.box e0 ((cells.map (scr0 n)).set j (.row n))) else if b' = n then some (.row e c []) else (st.b b').map (scrB n)⟩
   | some (.p (.v (.slice none 0 0))) => ⟨fun t => scr n (st.s t), fun b' => if b' = b then some (.box e0 ((cells.map (scr0 n)).set j (.row n))) else if b' = n then some (.row e c []) else (st.b b').map (scrB n)⟩
   | _ => st
  | _ => st
def frzL (st : St) : List Gh -> St
 | [] => st
 | g :: r => frzL (gh1 st g) r
theorem frzL_append : ∀ (bs bs' : List Gh) (st : St), Av.frzL st (bs ++ bs') = Av.frzL (Av.frzL st bs) bs'
 | [], _, _ => rfl
 | _ :: r, bs', _ => frzL_append r bs' _
theorem Rel.setV [Glob] (h : Rel w0 m0 F X N st a w m) (t : Nat) (v : V) (hv : RV w (Gd F m st.b) m v (a.tmps.getD t undef)) : Rel w0 m0 F X N ⟨fun t' => if t' = t then v else st.s t', st.b⟩ a w m := by
 refine ⟨h.keeps, h.fold, h.own, h.uniq, h.size, fun t' => ?_, h.blks, h.defers, h.nam, h.small, h.glob⟩
 by_cases ht : t' = t
 ·subst ht; simp only [if_true]; exact hv
 ·simp only [if_neg ht]; exact h.tmps t'
theorem Rel.gh1 [Glob] (h : Rel w0 m0 F X N st a w m) (g : Gh) : ∃ m', Rel w0 m0 F X N (Av.gh1 st g) a w m' := by
 cases g with
 | frz b =>
  simp only [Av.gh1]
  split
  ·rename_i e c l hb
   exact ⟨m, h.frz hb⟩
  ·exact ⟨m, h⟩
 | row t e c =>
  simp only [Av.gh1]
  split
  ·rename_i hlt
   split
   ·rename_i c0 hs
    have hx : a.tmps.getD t undef = .slice none 0 0 := by
     have := h.tmps t
     rw [hs] at this
     exact this
    let m' : Nm := ⟨m.i, fun b => if b = t then .slice none 0 0 else m.r b⟩
    have h1 := h.turn t (some (.row e c [])) m' w (fun b hb => ⟨rfl, by simp [m', hb]⟩) (Keeps.refl _ _) (fun k ho => by simp [owns, m', ownB] at ho) (fun blk hb => by
     simp only [Option.some.injEq] at hb
     subst hb
     exact .inl ⟨by simp only [m', if_true]; exact .nil _, ⟨none, by simp [m']⟩, rfl⟩) (fun _ _ => rfl)
    exact ⟨m', h1.setV t (.row t) (.of0 (v := .row t) (by rw [hx]; simp [RV0, m']))⟩
   ·exact ⟨m, h⟩
  ·exact ⟨m, h⟩
 | bx b =>
  simp only [Av.gh1]
  split
  ·rename_i e cells hb
   split
   ·rename_i es hp
    exact ⟨m, h.frzx hb hp⟩
   ·exact ⟨m, h⟩
  ·exact ⟨m, h⟩
 | cel b j n e c =>
  simp only [Av.gh1]
  split
  ·exact ⟨m, h⟩
  ·rename_i hnb
   split
   ·rename_i e0 cells hb
    split
    ·rename_i c0 hj
     let m' : Nm := ⟨m.i, fun b => if b = n then .slice none 0 0 else m.r b⟩
     have h1 := h.turn n (some (.row e c [])) m' w (fun b hb => ⟨rfl, by simp [m', hb]⟩) (Keeps.refl _ _) (fun k ho => by simp [owns, m', ownB] at ho) (fun blk hb => by
      simp only [Option.some.injEq] at hb
      subst hb
      exact .inl ⟨by simp only [m', if_true]; exact .nil _, ⟨none, by simp [m']⟩, rfl⟩) (fun _ _ => rfl)
     have hb1 : (fun b' => if b' = n then some (.row e c []) else (st.b b').map (scrB n)) b = some (.box e0 (cells.map (scr0 n))) := by
      simp only [if_neg (fun hh : b = n => hnb hh.symm), hb, Option.map_some, scrB]
     have h2 := h1.store (b0 := b) (blk0 := .box e0 (cells.map (scr0 n))) (blk' := .box e0 ((cells.map (scr0 n)).set j (.row n))) hb1 trivial (w' := w) (Keeps.refl _ _) (by
      obtain ⟨cs, hc, hs, hl⟩ := h1.blks b _ hb1
      refine ⟨cs, hc, by simpa using hs, fun i v hv => ?_⟩
      by_cases hij : j = i
      ·subst hij
       have hjl : j < (cells.map (scr0 n)).length := by
        have := (List.getElem?_eq_some_iff.1 hj).1
        simpa using this
       rw [List.getElem?_set_self hjl] at hv
       simp only [Option.some.injEq] at hv
       subst hv
       obtain ⟨x, hx, ho, hr⟩ := hl j (.nil c0) (by rw [List.getElem?_map, hj]; rfl)
       refine ⟨x, hx, ho, ?_⟩
       have hx' : x = .slice none 0 0 := hr
       show x = m'.r n
       rw [hx']; simp [m']
      ·rw [List.getElem?_set_ne hij] at hv
       exact hl i v hv)
     exact ⟨m', h2⟩
    ·rename_i hj
     let m' : Nm := ⟨m.i, fun b => if b = n then .slice none 0 0 else m.r b⟩
     have h1 := h.turn n (some (.row e c [])) m' w (fun b hb => ⟨rfl, by simp [m', hb]⟩) (Keeps.refl _ _) (fun k ho => by simp [owns, m', ownB] at ho) (fun blk hb => by
      simp only [Option.some.injEq] at hb
      subst hb
      exact .inl ⟨by simp only [m', if_true]; exact .nil _, ⟨none, by simp [m']⟩, rfl⟩) (fun _ _ => rfl)
     have hb1 : (fun b' => if b' = n then some (.row e c []) else (st.b b').map (scrB n)) b = some (.box e0 (cells.map (scr0 n))) := by
      simp only [if_neg (fun hh : b = n => hnb hh.symm), hb, Option.map_some, scrB]
     have h2 := h1.store (b0 := b) (blk0 := .box e0 (cells.map (scr0 n))) (blk' := .box e0 ((cells.map (scr0 n)).set j (.row n))) hb1 trivial (w' := w) (Keeps.refl _ _) (by
      obtain ⟨cs, hc, hs, hl⟩ := h1.blks b _ hb1
      refine ⟨cs, hc, by simpa using hs, fun i v hv => ?_⟩
      by_cases hij : j = i
      ·subst hij
       have hjl : j < (cells.map (scr0 n)).length := by
        have := (List.getElem?_eq_some_iff.1 hj).1
        simpa using this
       rw [List.getElem?_set_self hjl] at hv
       simp only [Option.some.injEq] at hv
       subst hv
       obtain ⟨x, hx, ho, hr⟩ := hl j (.p (.v (.slice none 0 0))) (by rw [List.getElem?_map, hj]; rfl)
       refine ⟨x, hx, ho, ?_⟩
       have hx' : x = .slice none 0 0 := by have hr' : RP w _ (.v (.slice none 0 0)) x := hr; cases hr'; rfl
       show x = m'.r n
       rw [hx']; simp [m']
      ·rw [List.getElem?_set_ne hij] at hv
       exact hl i v hv)
     exact ⟨m', h2⟩
    ·exact ⟨m, h⟩
   ·exact ⟨m, h⟩
theorem Rel.frzL [Glob] : ∀ (bs : List Gh) {st : St} {m : Nm}, Rel w0 m0 F X N st a w m -> ∃ m', Rel w0 m0 F X N (Av.frzL st bs) a w m'
 | [], _, m, h => ⟨m, h⟩
 | g :: r, st, m, h => by
  obtain ⟨m', h'⟩ := h.gh1 g
  exact Rel.frzL r h'
def cat {α : Type} (mv : Bool) (a c : List α) : List α := match mv with
 | true => c ++ a
 | false => a ++ c
def catT (mv : Bool) (cs : List V) (ts : List TypeId) : List TypeId := match mv with
 | true => cs.map (fun _ => 0) ++ ts
 | false => ts
theorem run_enterC {g : FuncId} (hg : Enters P g) {mv : Bool} {cs : List Value} {o : Oper} {f : Operand} {as : Array Operand} {ts : Array TypeId} (ho : o.op = .call { callee := .value f, args := as, argTypes := ts }) (hf : a.eval f = fnv ⟨g, mv⟩ cs) :
 (execOp a.eval o).run P w = .ok (.enter g (cat mv (as.toList.map a.eval) cs).toArray) w := by
 obtain ⟨fn, h1, h2, h3⟩ := hg
 have h2' : ¬ fn.name = "runtime.NumGoroutine" := by simpa using h2
 have h3' : ¬ fn.body = none := by intro h0; rw [h0] at h3; simp at h3
 cases mv with
 | false =>
  simp only [execOp, ho, resolve, hf, fnv, Deferred.ofValue, cat]
  have he : (as.toList.map a.eval ++ cs).toArray = as.map a.eval ++ cs.toArray := by
   apply Array.ext'
   simp
  rw [he]
  simp [invoke, callFunc, h1, h2', h3']
 | true =>
  simp only [execOp, ho, resolve, hf, fnv, Deferred.ofValue, cat]
  have he : (cs ++ as.toList.map a.eval).toArray = cs.toArray ++ as.map a.eval := by
   apply Array.ext'
   simp
  rw [he]
  simp [invoke, callFunc, h1, h2', h3']
theorem wp_callC [Glob] {g : FuncId} {mv : Bool} {cs : List Value} {o : Oper} {f : Operand} {as : Array Operand} {ts : Array TypeId} (ho : o.op = .call { callee := .value f, args := as, argTypes := ts }) (hf : a.eval f = fnv ⟨g, mv⟩ cs)
 {R : Ending -> World -> Prop} (hc : CallX P g (cat mv (as.toList.map a.eval) cs).toArray w R) {K : Act -> World -> Prop} {Q : Exit -> Act -> World -> Prop}
 (hK : ∀ e w', R e w' -> (∃ x, e = .returned x /\ K (a.put o.dst x) w') \/ (∃ y, e = .panicked [{ v := y, recovered := false }] /\ Q (.panic [{ v := y, recovered := false }]) a w')) : o.wp P a w K Q := by
 unfold Oper.wp
 rcases hc with ⟨hg, hc⟩ | ⟨x, w', hrun, hr⟩
 ·rw [run_enterC hg ho hf]
  refine hc.mono fun e w' hr => ?_
  rcases hK e w' hr with ⟨x, rfl, hk⟩ | ⟨y, rfl, hk⟩
  ·exact hk
  ·exact hk
 ·have : (execOp a.eval o).run P w = .ok (.value x) w' := by
   cases mv with
   | false =>
    have he : (as.toList.map a.eval ++ cs).toArray = as.map a.eval ++ cs.toArray := by
     apply Array.ext'
     simp
    simp only [cat] at hrun
    rw [he] at hrun
    simp only [execOp, ho, resolve, hf, fnv, Deferred.ofValue]
    simp [invoke, hrun]
   | true =>
    have he : (cs ++ as.toList.map a.eval).toArray = cs.toArray ++ as.map a.eval := by
     apply Array.ext'
     simp
    simp only [cat] at hrun
    rw [he] at hrun
    simp only [execOp, ho, resolve, hf, fnv, Deferred.ofValue]
    simp [invoke, hrun]
  rw [this]
  rcases hK _ _ hr with ⟨x', h1, hk⟩ | ⟨y, h1, hk⟩
  ·simp only [Ending.returned.injEq] at h1
   subst h1; exact hk
  ·simp at h1
end
end Go.Av
