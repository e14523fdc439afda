/- Texts that the proof needs: AvCode. -/
import Derived.Test.YthiccfadhllajaaP10JudgePrimary
import Derived.Test.YthiccfadhllajaaP11JudgePrimary
import Derived.Scope
namespace Go.Av
set_option linter.unusedSimpArgs false
set_option linter.unusedVariables false
open Go
inductive AExit where
 | normal | exit (id : Nat) | ret | pan (y : Value)
def thenA (K : St -> Prop) (Q : AExit -> St -> Prop) : AExit -> St -> Prop
 | .normal, st => K st
 | e, st => Q e st
def blockA (id : Nat) (Q : AExit -> St -> Prop) : AExit -> St -> Prop
 | .exit i, st => if i = id then Q .normal st else Q (.exit i) st
 | e, st => Q e st
def ALoop (B : (AExit -> St -> Prop) -> St -> Prop) (Q : AExit -> St -> Prop) (st : St) : Prop :=
 ∃ (I : Nat -> St -> Prop), (∃ n, I n st) /\ ∀ n st', I n st' -> B (thenA (fun st'' => ∃ n', n' < n /\ I n' st'') Q) st'
def rndQ (Inv : Nat -> (Nat -> Option Blk) -> Prop) (QR : (Nat -> Option Blk) -> Prop) (pins : List Nat) (s : Nat -> V) (k : Nat) : AExit -> St -> Prop
 | .normal, st => Inv (k + 1) st.b /\ ∀ t ∈ pins, st.s t = s t
 | .ret, st => QR st.b /\ ∀ t ∈ pins, st.s t = s t
 | _, _ => False
def awpC [Glob] (P : Program) (T : TypeId -> Option Ty) (N : Nat) : Code -> (AExit -> St -> Prop) -> St -> Prop
 | .skip, Q, st => Q .normal st
 | .region _ ops draw, Q, st => if draw then awpDraw P T N ops st (Q .normal) (fun y => Q (.pan y)) else awpOps P T N ops ops.toList st (Q .normal) (fun y => Q (.pan y))
 | .seq x y, Q, st => awpC P T N x (thenA (fun st' => awpC P T N y Q st') Q) st
 | .cond c x y, Q, st => match evO st c with
  | .p (.v (.bool b)) => (b = true -> awpC P T N x Q st) /\ (b = false -> awpC P T N y Q st)
  | _ => False
 | .block id x, Q, st => awpC P T N x (blockA id Q) st
 | .loop x, Q, st => ∃ gs : List Gh, ALoop (fun Q' st' => awpC P T N x Q' st') Q (frzL st gs)
 | .exit id, Q, st => Q (.exit id) st
 | .ret, Q, st => ∃ gs : List Gh, Q .ret (frzL st gs)
 | .label _, Q, st => Q .normal st
 | .scope x, Q, st => awpC P T N x Q st
 | .rangeFunc f ps assign body, Q, st => ∃ (M : Nat) (pins : List Nat) (p1 p2 g c : Nat) (l : List (List PV)) (Inv : Nat -> (Nat -> Option Blk) -> Prop) (QR : (Nat -> Option Blk) -> Prop),
  N / 2048 % 2 = 1 /\ calmC assign = true /\ calmC body = true /\ ps = #[p1, p2] /\ p1 ≠ p2 /\ p1 < N % 2048 /\ p2 < N % 2048 /\ p1 ∉ pins /\ p2 ∉ pins /\ (∀ t, M / 2 ^ t % 2 = 1 ↔ t ∈ pins) /\ (∃ t, f = .tmp t /\ t ∈ pins) ∧
  evO st f = .clo ⟨g, false⟩ [.rp [.sl c l] 0] /\ IterB P g c /\ Enters P g /\ Inv 0 st.b ∧
  (∀ k β (hk : k < l.length), Inv k β -> awpC P T (N % 2048 + 4096 * M) assign (thenA (fun st' => awpC P T (N % 2048 + 4096 * M) body (rndQ Inv QR pins st.s k) st') (fun _ _ => False))
   ⟨fun t => if t = p2 then .p (.agg (l[l.length - 1 - k]'(by omega))) else if t = p1 then .p (.v (.int .i64 ((l.length - 1 - k : Nat) : Int))) else if t ∈ pins then st.s t else .junk, β⟩) ∧
  (∀ β, Inv l.length β -> Q .normal ⟨fun t => if t ∈ pins then st.s t else .junk, β⟩) /\ (∀ β, QR β -> Q .ret ⟨fun t => if t ∈ pins then st.s t else .junk, β⟩)
 | _, _, _ => False
section
variable {P : Program} {T : TypeId -> Option Ty} {w0 : World} {m0 : Nm} {F X : Nat -> Prop} {N : Nat}
def QQ [Glob] (w0 : World) (m0 : Nm) (F X : Nat -> Prop) (N : Nat) (Q : AExit -> St -> Prop) : Exit -> Act -> World -> Prop
 | .normal, a, w => ∃ st m, Q .normal st /\ Rel w0 m0 F X N st a w m
 | .exit i, a, w => ∃ st m, Q (.exit i) st /\ Rel w0 m0 F X N st a w m
 | .ret, a, w => ∃ st m, Q .ret st /\ Rel w0 m0 F X N st a w m
 | .panic chain, a, w => ∃ y st m, chain = [{ v := y, recovered := false }] /\ Q (.pan y) st /\ Rel w0 m0 F X N st a w m
 | _, _, _ => False
theorem min_of {p : Nat -> Prop} : ∀ n, p n -> ∃ n, p n /\ ∀ k, p k -> n <= k := by
 intro n
 induction n using Nat.strongRecOn with
 | _ n ih =>
  intro hn
  by_cases h : ∃ k, k < n /\ p k
  ·obtain ⟨k, hk, hp⟩ := h
   exact ih k hk hp
  ·exact ⟨n, hn, fun k hk => by
    rcases Nat.lt_or_ge k n with h1 | h1
    ·exact absurd ⟨k, h1, hk⟩ h
    ·exact h1⟩
theorem loop_run [Glob] {c : Code} {J : Nat -> Act -> World -> Prop} {Q : Exit -> Act -> World -> Prop} (round : ∀ n a w, J n a w -> c.wp P (Exit.then (fun a' w' => ∃ n', n' < n /\ J n' a' w') Q) a w) {n : Nat} {a : Act} {w : World} (h : J n a w) : (Code.loop c).wp P Q a w := by
 classical
 let μ : Act -> World -> Nat := fun a w => if h : ∃ n, J n a w /\ ∀ k, J k a w -> n <= k then Classical.choose h else 0
 have hμ : ∀ a w, (∃ n, J n a w) -> J (μ a w) a w /\ ∀ k, J k a w -> μ a w <= k := fun a w ⟨n, hn⟩ => by
  have hex := min_of (p := fun n => J n a w) n hn
  simp only [μ, dif_pos hex]
  exact Classical.choose_spec hex
 refine wp_loop (fun a w => ∃ n, J n a w) μ ⟨n, h⟩ fun a w hI => ?_
 obtain ⟨h1, h2⟩ := hμ a w hI
 refine wp_mono (round _ a w h1) fun e a' w' he => ?_
 cases e with
 | normal =>
  obtain ⟨n', hlt, hj⟩ := he
  exact ⟨⟨n', hj⟩, Nat.lt_of_le_of_lt ((hμ a' w' ⟨n', hj⟩).2 n' hj) hlt⟩
 | _ => exact he
theorem QQ_out [Glob] {Q : AExit -> St -> Prop} : ¬ LetsOut (QQ w0 m0 F X N Q) := fun ⟨_, _, h⟩ => h
theorem awpC_round [Glob] (hT : TabOK P T) (hm : P.follows .mixedOrders = true) (lid n : Nat) : ∀ (c : Code) (Q : AExit -> St -> Prop) (st : St) (a : Act) (w : World) (m : Nm), calmC c = true -> Rel w0 m0 F X N st a w m -> awpC P T N c Q st -> c.wpIn (rF lid) n P (QQ w0 m0 F X N Q) a w
 | .skip, Q, st, a, w, m, _, h, hv => wpIn_skip ⟨st, m, hv, h⟩
 | .region id ops draw, Q, st, a, w, m, hc, h, hv => by
  simp only [awpC] at hv
  cases draw with
  | true => exact wpIn_region_any hm (wpAny_round lid n QQ_out hc _ _ _ _ (awpDraw_any hT h (by simpa using hv) (fun st' a' w' m' hk hr => ⟨st', m', hk, hr⟩) fun y st' a' w' m' hk hr => ⟨y, st', m', rfl, hk, hr⟩))
  | false =>
   have hv' : awpOps P T N ops ops.toList st (Q .normal) (fun y => Q (.pan y)) := by simpa using hv
   exact wpIn_region_list (wpList_round lid n QQ_out _ _ _ hc (awpOps_run hT ops (fun st' a' w' m' hk hr => ⟨st', m', hk, hr⟩) (fun y st' a' w' m' hk hr => ⟨y, st', m', rfl, hk, hr⟩) _ st a w m h hv'))
 | .seq x y, Q, st, a, w, m, hc, h, hv => by
  simp only [calmC, Bool.and_eq_true] at hc
  refine wpIn_seq (wpIn_mono (awpC_round hT hm lid n x _ st a w m hc.1 h hv) fun e a' w' he => ?_)
  cases e with
  | normal =>
   obtain ⟨st', m', hq, hr⟩ := he
   exact awpC_round hT hm lid n y Q st' a' w' m' hc.2 hr hq
  | exit i => exact he
  | ret => exact he
  | goto _ => exact he.elim
  | panic _ => exact he
  | outgrown => exact he.elim
 | .cond c x y, Q, st, a, w, m, hc, h, hv => by
  simp only [calmC, Bool.and_eq_true] at hc
  simp only [awpC] at hv
  split at hv
  ·rename_i b hb
   have hcc := h.evO c
   rw [hb] at hcc
   exact wpIn_cond_split (RV.scal hcc) (fun ht => awpC_round hT hm lid n x Q st a w m hc.1 h (hv.1 ht)) (fun hf => awpC_round hT hm lid n y Q st a w m hc.2 h (hv.2 hf))
  ·exact hv.elim
 | .block id x, Q, st, a, w, m, hc, h, hv => by
  refine wpIn_block (wpIn_mono (awpC_round hT hm lid n x _ st a w m hc h hv) fun e a' w' he => ?_)
  cases e with
  | normal => exact he
  | exit i =>
   obtain ⟨st', m', hq, hr⟩ := he
   simp only [blockA] at hq
   simp only [Exit.inBlock]
   split at hq
   ·rename_i hi; rw [if_pos hi]; exact ⟨st', m', hq, hr⟩
   ·rename_i hi; rw [if_neg hi]; exact ⟨st', m', hq, hr⟩
  | ret => exact he
  | goto _ => exact he.elim
  | panic _ => exact he
  | outgrown => exact he.elim
 | .exit id, Q, st, a, w, m, _, h, hv => wpIn_exit ⟨st, m, hv, h⟩
 | .ret, Q, st, a, w, m, _, h, hv => by
  obtain ⟨gs, hv⟩ := hv
  obtain ⟨m, h⟩ := h.frzL gs
  exact wpIn_ret ⟨_, m, hv, h⟩
 | .loop _, _, _, _, _, _, hc, _, _ => by simp [calmC] at hc
 | .label _, _, _, _, _, _, hc, _, _ => by simp [calmC] at hc
 | .scope _, _, _, _, _, _, hc, _, _ => by simp [calmC] at hc
 | .goto _, _, _, _, _, _, hc, _, _ => by simp [calmC] at hc
 | .refuse _, _, _, _, _, _, hc, _, _ => by simp [calmC] at hc
 | .rangeFunc .., _, _, _, _, _, hc, _, _ => by simp [calmC] at hc
theorem rng_run [Glob] (hT : TabOK P T) (hmo : P.follows .mixedOrders = true) {f : Operand} {ps : Array Tmp} {assign body : Code} {Q : AExit -> St -> Prop} {st : St} {a : Act} {w : World} {m : Nm} (h : Rel w0 m0 F X N st a w m)
 (hv : awpC P T N (.rangeFunc f ps assign body) Q st) : (Code.rangeFunc f ps assign body).wp P (QQ w0 m0 F X N Q) a w := by
 obtain ⟨M, pins, p1, p2, g, c, l, Inv, QR, hN, hca, hcb, rfl, h12, hp1, hp2, hn1, hn2, hM, ⟨t, rfl, ht⟩, hf, hI, hE, h0, hround, hend, hret⟩ := hv
 have hsz := h.size
 have hsm := h.small.1
 have hev := h.evO (.tmp t)
 rw [hf] at hev
 obtain ⟨cs, hcs, hcl, hcap⟩ := hev
 obtain ⟨q, hq, -⟩ := hcap 0 _ rfl
 have hcs1 : cs = [q] := by
  match cs, hcl, hq with
  | [q'], _, hq => simp at hq; rw [hq]
 subst hcs1
 have hg : a.eval (.tmp t) = .func (.func g) #[] #[q] := hcs
 have hst : st.s t = .clo ⟨g, false⟩ [.rp [.sl c l] 0] := hf
 have htt : a.tmps.getD t undef = .func (.func g) #[] #[q] := hg
 obtain ⟨fng, hfg, hng, hbg⟩ := hE
 have eg : ∀ args w, (callFunc g args).run P w = .ok (.enter g args) w := fun args w => by
  have h2' : ¬ fng.name = "runtime.NumGoroutine" := by simpa using hng
  have h3' : ¬ fng.body = none := by intro h0; rw [h0] at hbg; simp at hbg
  simp [callFunc, hfg, h2', h3']
 refine (wpIn_wide (n := 3)).1 (wpIn_rangeFunc ?_)
 intro fn hfn
 obtain ⟨rec, hrec⟩ : ∃ rec : LoopState -> Option Code -> Loop, rec = fun st pe => { state := st, pending := pe, fn, tmps := a.tmps, params := #[p1, p2], assign, body, defers := w.heap.size } := ⟨_, rfl⟩
 obtain ⟨W1, hW1⟩ : ∃ W1, (w.alloc (.deferred (some []))).alloc (.loop (rec .ready none)) = W1 := ⟨_, rfl⟩
 have hws : W1.heap.size = w.heap.size + 2 := by rw [<- hW1]; show ((w.heap.push _).push _).size = _; simp
 have hL1 : W1.heap[w.heap.size + 1]? = some (.loop (rec .ready none)) := by
  rw [<- hW1]; show ((w.heap.push _).push _)[w.heap.size + 1]? = _
  rw [Array.getElem?_push, if_pos (by simp)]
 have hD1 : W1.heap[w.heap.size]? = some (.deferred (some [])) := by
  rw [<- hW1]; show ((w.heap.push _).push _)[w.heap.size]? = _
  rw [Array.getElem?_push, if_neg (by simp), Array.getElem?_push, if_pos rfl]
 have hls1 : LS W1 m st.b F w.heap.size pins st.s a.tmps st.b W1 m := by rw [<- hW1]; exact h.ls pins
 refine ⟨w.heap.size + 1, [{ target := .collected w.heap.size, args := #[] }], W1, { target := .fn (.func g) #[q], args := #[.func (.yield (w.heap.size + 1)) #[] #[]] }, W1, g,
  #[.func (.yield (w.heap.size + 1)) #[] #[], q], W1, ?_, ?_, ?_, ?_, fun _ => by omega, ?_⟩
 ·rw [<- hW1, hrec]; exact run_enterLoop_outer _ _ _ _ _
 ·simp only [resolve, hg]
  simp [go_sem]
 ·intro f' hf'; trivial
 ·simp [invoke, go_sem, eg]
 ·refine (hI l (w.heap.size + 1) q
   (fun k W => ∃ β m', Inv k β /\ LS W1 m st.b F w.heap.size pins st.s a.tmps β W m' /\ W.heap[w.heap.size + 1]? = some (.loop (rec .ready none)) /\ W.heap[w.heap.size]? = some (.deferred (some [])))
   (fun W => ∃ β m', QR β /\ LS W1 m st.b F w.heap.size pins st.s a.tmps β W m' /\ W.heap[w.heap.size + 1]? = some (.loop (rec .done (some .ret))) /\ W.heap[w.heap.size]? = some (.deferred (some [])))
   W1 ?_ ⟨st.b, m, h0, hls1, hL1, hD1⟩).mono ?_
  ·rintro k W ⟨β, m', hi, hl, hL, hD⟩
   have htm := hl.tm t ht
   rw [hst, htt] at htm
   obtain ⟨cs', hc1, hc2, hc3⟩ := htm
   obtain ⟨y, hy, hyr⟩ := hc3 0 _ rfl
   have hyq : y = q := by
    have : cs' = [q] := by
     simp only [fnv, Value.func.injEq] at hc1
     have := hc1.2.2
     have h2 := congrArg Array.toList this
     simpa using h2.symm
    rw [this] at hy; simpa using hy.symm
   subst hyq
   obtain ⟨bk, off, hy1, hre⟩ := hyr
   refine ⟨_, bk, off, by rw [hy1]; rfl, hre, fun hk x hx => ?_⟩
   have hy := run_yield (P := P) (args := #[.int .i64 ((l.length - 1 - k : Nat) : Int), x]) hL (by rw [hrec]; rfl)
   rw [hrec] at hy
   have hzip : ((#[p1, p2].zip #[Value.int .i64 ((l.length - 1 - k : Nat) : Int), x]).foldl (fun tmps (t, a) => tmps.setIfInBounds t a) a.tmps) = (a.tmps.setIfInBounds p1 (.int .i64 ((l.length - 1 - k : Nat) : Int))).setIfInBounds p2 x := by simp
   simp only [hzip] at hy
   have hlt : w.heap.size + 1 < W.heap.size := (Array.getElem?_eq_some_iff.1 hL).1
   have hrel := hl.rel (M := M) (v1 := .p (.v (.int .i64 ((l.length - 1 - k : Nat) : Int)))) (v2 := .p (.agg l[l.length - 1 - k])) hsz hsm h12 hp1 hp2 (fun t ht => (hM t).1 ht) hn1 hn2 (.of0 (v := .p _) (.v _ rfl)) (.of0 (v := .p _) hx)
   have hnot : ∀ {m' : Nm} {β : Nat -> Option Blk} {W : World} {j : Nat}, Hp W (fun k => F k \/ k = w.heap.size \/ k = w.heap.size + 1) m' β -> (j = w.heap.size \/ j = w.heap.size + 1) -> ¬ ∃ b, owns m' β b j := fun hp hj ⟨b, ho⟩ => (hp.own b _ ho).2 (.inr hj)
   refine ⟨fn, _, assign, body, hy, roundIn_of_wpIn hfn (wpIn_mono (awpC_round hT hmo (w.heap.size + 1) 1 assign _ _ _ W _ hca hrel (hround k β hk hi)) ?_)⟩
   intro e a1 w1 hq1
   cases e with
   | normal =>
    obtain ⟨st1, m1, hb1, hr1⟩ := hq1
    have hL1 : w1.heap[w.heap.size + 1]? = some (.loop (rec .ready none)) := (hr1.keeps.block _ hlt (hnot hl.hp (.inr rfl))).trans hL
    have hD1 : w1.heap[w.heap.size]? = some (.deferred (some [])) := (hr1.keeps.block _ (by omega) (hnot hl.hp (.inl rfl))).trans hD
    have hs1 := hr1.keeps.size
    obtain ⟨w2, hw2⟩ : ∃ w2, w2 = w1.putObj (w.heap.size + 1) (.loop { rec .ready none with state := .busy }) := ⟨_, rfl⟩
    have hs2 : w2.heap.size = w1.heap.size := by rw [hw2]; simp
    have ho2 : ∀ j, j ≠ w.heap.size + 1 -> w2.heap[j]? = w1.heap[j]? := fun j hj => by rw [hw2]; exact World.putObj_heap_other hj
    have hL2 : w2.heap[w.heap.size + 1]? = some (.loop { rec .ready none with state := .busy }) := by rw [hw2]; exact World.putObj_heap_same (by omega)
    have hD2 : w2.heap[w.heap.size]? = some (.deferred (some [])) := (ho2 _ (by omega)).trans hD1
    have hr2 := hr1.rebase (w' := w2) (fun j hj => ho2 j fun hh => hj (.inr (.inr hh))) (by omega) (hr1.defers.1 (by omega))
    refine ⟨w2, by rw [hw2]; exact run_beginRound hL1 (by rw [hrec]), wpIn_mono (awpC_round hT hmo (w.heap.size + 1) 1 body _ st1 a1 w2 m1 hcb hr2 hb1) ?_⟩
    have fin : ∀ (st3 : St) (a3 : Act) (w3 : World) (m3 : Nm), Rel w2 ⟨m'.i, fun t => a.tmps.getD t undef⟩ (fun k => F k \/ k = w.heap.size \/ k = w.heap.size + 1) (fun k => ∃ b, owns m1 st1.b b k) (N % 2048 + 4096 * M) st3 a3 w3 m3 -> (∀ t ∈ pins, st3.s t = st.s t) →
     LS W1 m st.b F w.heap.size pins st.s a.tmps st3.b w3 m3 /\ w3.heap[w.heap.size + 1]? = some (.loop { rec .ready none with state := .busy }) /\ w3.heap[w.heap.size]? = some (.deferred (some [])) := fun st3 a3 w3 m3 hr3 hpin => by
     have hW1W := hl.keeps.size
     refine ⟨⟨hr3.hp, fun t ht => ?_, fun b j ho => ?_, ?_, fun n h1 h2 => (hr3.nam n h1 h2).trans (hl.nam n h1 h2)⟩, (hr3.keeps.block _ (by omega) (hnot hr2.hp (.inr rfl))).trans hL2, (hr3.keeps.block _ (by omega) (hnot hr2.hp (.inl rfl))).trans hD2⟩
     ·have h4 := hr3.tmps t
      rw [hpin t ht, hr3.small.2 t (by rw [show (N % 2048 + 4096 * M) / 4096 = M by omega]; exact (hM t).2 ht)] at h4
      exact h4
     ·rcases (hr3.own b j ho).1 with h4 | ⟨b', h4⟩
      ·exact .inl (by omega)
      ·rcases (hr1.own b' j h4).1 with h5 | ⟨b'', h5⟩
       ·exact .inl (by omega)
       ·exact hl.own b'' j h5
     ·refine ((hl.keeps.trans hr1.keeps fun i hi hlt => ?_).trans (Y := fun j => j = w.heap.size + 1) (c := w2) ⟨by rw [hw2]; rfl, by rw [hw2]; rfl, by rw [hw2]; rfl, by omega, fun j _ hj => ho2 j hj⟩ fun i hi _ => .inr (.inr hi)).trans hr3.keeps fun i hi hlt => ?_
      ·obtain ⟨b, ho⟩ := hi
       rcases hl.own b i ho with h4 | h4
       ·omega
       ·exact .inl h4
      ·obtain ⟨b, ho⟩ := hi
       rcases (hr1.own b i ho).1 with h4 | ⟨b', h4⟩
       ·omega
       ·rcases hl.own b' i h4 with h5 | h5
        ·omega
        ·exact .inl h5
    intro e a3 w3 hq3
    cases e with
    | normal =>
     obtain ⟨st3, m3, ⟨hi3, hpin⟩, hr3⟩ := hq3
     obtain ⟨hl3, hL3, hD3⟩ := fin st3 a3 w3 m3 hr3 hpin
     have hrun := run_endRound (P := P) none hL3
     refine ⟨_, _, hrun, .inl ⟨rfl, st3.b, m3, hi3, hl3.put _, ?_, ?_⟩⟩
     ·rw [World.putObj_heap_same (Array.getElem?_eq_some_iff.1 hL3).1, hrec]; rfl
     ·rw [World.putObj_heap_other (by omega)]; exact hD3
    | ret =>
     obtain ⟨st3, m3, ⟨hi3, hpin⟩, hr3⟩ := hq3
     obtain ⟨hl3, hL3, hD3⟩ := fin st3 a3 w3 m3 hr3 hpin
     have hrun := run_endRound (P := P) (some .ret) hL3
     refine ⟨_, _, hrun, .inr ⟨rfl, st3.b, m3, hi3, hl3.put _, ?_, ?_⟩⟩
     ·rw [World.putObj_heap_same (Array.getElem?_eq_some_iff.1 hL3).1, hrec]; rfl
     ·rw [World.putObj_heap_other (by omega)]; exact hD3
    | exit i => obtain ⟨_, _, hh, _⟩ := hq3; exact hh.elim
    | goto _ => exact hq3.elim
    | panic _ => obtain ⟨_, _, _, _, hh, _⟩ := hq3; exact hh.elim
    | outgrown => exact hq3.elim
   | exit i => obtain ⟨_, _, hh, _⟩ := hq1; exact hh.elim
   | ret => obtain ⟨_, _, hh, _⟩ := hq1; exact hh.elim
   | goto _ => exact hq1.elim
   | panic _ => obtain ⟨_, _, _, _, hh, _⟩ := hq1; exact hh.elim
   | outgrown => exact hq1.elim
  ·rintro e W2 ⟨⟨v, rfl⟩, (⟨β, m', hi, hl, hL, hD⟩ | ⟨β, m', hi, hl, hL, hD⟩)⟩
   ·have hrun := run_endLoop (P := P) hL (by rw [hrec]; simp)
    rw [hrec] at hrun
    rw [<- hW1] at hl
    exact ⟨none, _, hrun, _, m', hend β hi, h.left hN (hl.put _) (by rw [World.putObj_heap_other (by omega)]; exact hD)⟩
   ·have hrun := run_endLoop (P := P) hL (by rw [hrec]; simp)
    rw [hrec] at hrun
    rw [<- hW1] at hl
    exact ⟨some .ret, _, hrun, wpIn_ret ⟨_, m', hret β hi, h.left hN (hl.put _) (by rw [World.putObj_heap_other (by omega)]; exact hD)⟩⟩
theorem awpC_run [Glob] (hT : TabOK P T) (hm : P.follows .mixedOrders = true) : ∀ (c : Code) (Q : AExit -> St -> Prop) (st : St) (a : Act) (w : World) (m : Nm), Rel w0 m0 F X N st a w m -> awpC P T N c Q st -> c.wp P (QQ w0 m0 F X N Q) a w
 | .skip, Q, st, a, w, m, h, hv => wp_skip ⟨st, m, hv, h⟩
 | .region id ops draw, Q, st, a, w, m, h, hv => by
  simp only [awpC] at hv
  cases draw with
  | true => exact awpDraw_run hT hm h (by simpa using hv) (fun st' a' w' m' hk hr => ⟨st', m', hk, hr⟩) fun y st' a' w' m' hk hr => ⟨y, st', m', rfl, hk, hr⟩
  | false =>
   have hv' : awpOps P T N ops ops.toList st (Q .normal) (fun y => Q (.pan y)) := by simpa using hv
   exact wp_region_list (awpOps_run hT ops (fun st' a' w' m' hk hr => ⟨st', m', hk, hr⟩) (fun y st' a' w' m' hk hr => ⟨y, st', m', rfl, hk, hr⟩) _ st a w m h hv')
 | .seq x y, Q, st, a, w, m, h, hv => by
  refine wp_seq (wp_mono (awpC_run hT hm x _ st a w m h hv) fun e a' w' he => ?_)
  cases e with
  | normal =>
   obtain ⟨st', m', hq, hr⟩ := he
   exact awpC_run hT hm y Q st' a' w' m' hr hq
  | exit i => exact he
  | ret => exact he
  | goto _ => exact he.elim
  | panic _ => exact he
  | outgrown => exact he.elim
 | .cond c x y, Q, st, a, w, m, h, hv => by
  simp only [awpC] at hv
  split at hv
  ·rename_i b hb
   have hc := h.evO c
   rw [hb] at hc
   exact wp_cond_split (RV.scal hc) (fun ht => awpC_run hT hm x Q st a w m h (hv.1 ht)) (fun hf => awpC_run hT hm y Q st a w m h (hv.2 hf))
  ·exact hv.elim
 | .block id x, Q, st, a, w, m, h, hv => by
  refine wp_block (wp_mono (awpC_run hT hm x _ st a w m h hv) fun e a' w' he => ?_)
  cases e with
  | normal => exact he
  | exit i =>
   obtain ⟨st', m', hq, hr⟩ := he
   simp only [blockA] at hq
   simp only [Exit.inBlock]
   split at hq
   ·rename_i hi; rw [if_pos hi]; exact ⟨st', m', hq, hr⟩
   ·rename_i hi; rw [if_neg hi]; exact ⟨st', m', hq, hr⟩
  | ret => exact he
  | goto _ => exact he.elim
  | panic _ => exact he
  | outgrown => exact he.elim
 | .loop x, Q, st, a, w, m, h, hv => by
  obtain ⟨gs, I, ⟨n, hn⟩, hround⟩ := hv
  obtain ⟨m, h⟩ := h.frzL gs
  refine loop_run (J := fun n a w => ∃ st m, I n st /\ Rel w0 m0 F X N st a w m) (fun n a w ⟨st', m', hi, hr⟩ => ?_) (n := n) ⟨_, m, hn, h⟩
  refine wp_mono (awpC_run hT hm x _ st' a w m' hr (hround n st' hi)) fun e a' w' he => ?_
  cases e with
  | normal =>
   obtain ⟨st'', m'', ⟨n', hlt, hi'⟩, hr'⟩ := he
   exact ⟨n', hlt, st'', m'', hi', hr'⟩
  | exit i => exact he
  | ret => exact he
  | goto _ => exact he.elim
  | panic _ => exact he
  | outgrown => exact he.elim
 | .exit id, Q, st, a, w, m, h, hv => wp_exit ⟨st, m, hv, h⟩
 | .ret, Q, st, a, w, m, h, hv => by
  obtain ⟨gs, hv⟩ := hv
  obtain ⟨m, h⟩ := h.frzL gs
  exact wp_ret ⟨_, m, hv, h⟩
 | .label _, Q, st, a, w, m, h, hv => wp_label ⟨st, m, hv, h⟩
 | .rangeFunc f ps assign body, Q, st, a, w, m, h, hv => rng_run hT hm h hv
 | .scope x, Q, st, a, w, m, h, hv => by
  refine wp_scope_straight (wp_mono (awpC_run hT hm x Q st a w m h hv) fun e a' w' he => ?_)
  cases e with
  | goto _ => exact he.elim
  | _ => exact he
 | .goto .., _, _, _, _, _, _, hv => hv.elim
 | .refuse .., _, _, _, _, _, _, hv => hv.elim
end
def resP (T : TypeId -> Option Ty) (st : St) (t : TypeId) : V -> Option PV
 | .row b => match st.b b with
  | some (.row _ c l) => some (.sl c l)
  | _ => none
 | v => toP (fix T t v)
def resF (st : St) (ρ : Nat -> Option Nat) : Fc -> Option Fc
 | .row b => match ρ b with
  | some b' => some (.row b')
  | none => match st.b b with
   | some (.row _ c l) => some (.p (.sl c l))
   | _ => none
 | .p p => some (.p p)
 | .nil c => some (.nil c)
def resFs (st : St) (ρ : Nat -> Option Nat) : List Fc -> Option (List Fc)
 | [] => some []
 | c :: l => match resF st ρ c, resFs st ρ l with
  | some c', some l' => some (c' :: l')
  | _, _ => none
theorem resFs_get {st : St} {ρ : Nat -> Option Nat} : ∀ {l l' : List Fc}, resFs st ρ l = some l' -> l'.length = l.length /\ ∀ (i : Nat) (c' : Fc), l'[i]? = some c' -> ∃ c, l[i]? = some c /\ resF st ρ c = some c'
 | [], l', h => by simp only [resFs, Option.some.injEq] at h; subst h; simp
 | c :: l, l', h => by
  simp only [resFs] at h
  split at h
  ·rename_i c1 l1 hc hl
   simp only [Option.some.injEq] at h
   subst h
   obtain ⟨h1, h2⟩ := resFs_get hl
   refine ⟨by simp [h1], fun i c' hi => ?_⟩
   cases i with
   | zero => simp at hi; subst hi; exact ⟨c, rfl, hc⟩
   | succ i => simpa using h2 i c' (by simpa using hi)
  ·simp at h
def resV (T : TypeId -> Option Ty) (st : St) (ρ : Nat -> Option Nat) (t : TypeId) : V -> Option V
 | .ptr b o => match ρ b with
  | some b' => some (.ptr b' o)
  | none => none
 | .clo f cs => match renCs ρ cs with
  | some cs' => some (.clo f cs')
  | none => none
 | .row b => match ρ b with
  | some b' => some (.row b')
  | none => match st.b b with
   | some (.row _ c l) => some (.p (.sl c l))
   | _ => none
 | .ag l => match resFs st ρ l with
  | some l' => match toPF l' with
   | some ps => some (.p (.agg ps))
   | none => some (.ag l')
  | none => none
 | v => match toP (fix T t v) with
  | some p => some (.p p)
  | none => none
def resL (T : TypeId -> Option Ty) (st : St) (ρ : Nat -> Option Nat) : List ResultVar -> List TypeId -> Option (List V)
 | [], _ => some []
 | .tmp t :: r, ts => match resV T st ρ (ts.headD 0) (st.s t), resL T st ρ r ts.tail with
  | some p, some l => some (p :: l)
  | _, _ => none
 | .cell a t :: r, ts => match ld T st t (st.s a) with
  | some u => match resV T st ρ (ts.headD 0) u, resL T st ρ r ts.tail with
   | some p, some l => some (p :: l)
   | _, _ => none
  | none => none
def tupV : List V -> V
 | [v] => v
 | l => .tup l
def gaN (ns : List Nat) (n : Nat) : Option Nat := if 1024 <= n /\ n < 2048 then some n else match pos ns n with
 | some j => some (2048 + j)
 | none => none
def outB (st : St) (ns : List Nat) (n : Nat) : List Blk -> Prop
 | [] => True
 | blk :: r => (∃ b0, st.b n = some b0 /\ blk = renB (gaN ns) (gaN ns) b0) /\ outB st ns (n + 1) r
def outR (st : St) (ns : List Nat) : List Nat -> List Blk -> Prop
 | [], [] => True
 | n :: r, blk :: l => (∃ b0, st.b n = some b0 /\ blk = renB (gaN ns) (gaN ns) b0) /\ outR st ns r l
 | _, _ => False
def ARes (T : TypeId -> Option Ty) (st : St) (rs : List ResultVar) (ts : List TypeId) : Out -> Prop
 | .ret v R β => ∃ ns : List Nat, ns.Nodup /\ (∀ n ∈ ns, n < 1024 \/ 2048 <= n) /\ outR st ns ns R /\ outB st ns 1024 β /\ β.length <= 1024 /\ ∃ l, resL T st (gaN ns) rs ts = some l /\ v = tupV l
 | .pan _ _ => False
def AResP (st : St) (y : Value) : Out -> Prop
 | .ret _ _ _ => False
 | .pan y' β => y' = y /\ outB st [] 1024 β /\ β.length <= 1024
def initS (args : List V) (β : List Blk) : St :=
 ⟨fun t => match args[t]? with
  | some v => v
  | none => .tup [],
  nmF β []⟩
section
variable {P : Program} {T : TypeId -> Option Ty} {w0 : World} {m0 : Nm} {F X : Nat -> Prop} {N : Nat} {st : St} {a : Act} {w : World} {m : Nm}
def resOf (tmps : Array Value) : ResultVar -> Sem Value
 | .tmp t => pure (tmps.getD t undef)
 | .cell a t => do loadVar t (← asAddr (tmps.getD a undef))
structure Goes (F : Nat -> Prop) (m : Nm) (β : Nat -> Option Blk) (ρ : Nat -> Option Nat) (G' : Nat -> Prop) (m' : Nm) : Prop where
 sends : Sends m m' ρ ρ
 less : ∀ k, G' k -> Gd F m β k
 free : ∀ b k, owns m β b k -> ρ b = none -> ¬ G' k
theorem resV_run [Glob] (h : Rel w0 m0 F X N st a w m) {ρ : Nat -> Option Nat} {G' : Nat -> Prop} {m' : Nm} (hg : Goes F m st.b ρ G' m') {t : TypeId} {v u : V} (hv : resV T st ρ t v = some u) {x : Value} (hx : RV w (Gd F m st.b) m v x) : RV0 w G' m' u x := by
 have ht : Turn w w (Gd F m st.b) G' := ⟨Nat.le_refl _, fun _ _ _ => rfl, fun k _ hk => hg.less k hk⟩
 unfold resV at hv
 split at hv
 ·rename_i b o
  split at hv
  ·rename_i b' hb
   simp only [Option.some.injEq] at hv
   subst hv
   have := RV0.ren (v := .ptr b o) ht hg.sends hx
   simp only [ren0, hb] at this
   exact this
  ·simp at hv
 ·rename_i f cs
  split at hv
  ·rename_i cs' hc
   simp only [Option.some.injEq] at hv
   subst hv
   have := RV0.ren (v := .clo f cs) ht hg.sends hx
   simp only [ren0, hc] at this
   exact this
  ·simp at hv
 ·rename_i b
  split at hv
  ·rename_i b' hb
   simp only [Option.some.injEq] at hv
   subst hv
   have := RV0.ren (v := .row b) ht hg.sends hx
   simp only [ren0, hb] at this
   exact this
  ·rename_i hb0
   split at hv
   ·rename_i e c l hb
    simp only [Option.some.injEq] at hv
    subst hv
    rw [show x = m.r b from hx]
    refine RP.of_row (h.blks b _ hb) ht (fun k hk hf => ?_)
    have ho : owns m st.b b k := by unfold owns; rw [hb]; exact hk
    exact hg.free b k ho hb0 hf
   ·simp at hv
 ·rename_i l
  split at hv
  ·rename_i l' hl'
   have h0 : RV0 w G' m' (.ag l') x := by
    obtain ⟨cs, hx', hl, hcs⟩ := (show RV0 w _ m (.ag l) x from hx)
    obtain ⟨h1, h2⟩ := resFs_get hl'
    refine ⟨cs, hx', by rw [hl, h1], fun i c' hi => ?_⟩
    obtain ⟨c, h3, h4⟩ := h2 i c' hi
    obtain ⟨y, h5, h6, h7⟩ := hcs i c h3
    refine ⟨y, h5, h6, ?_⟩
    cases c with
    | p p =>
     simp only [resF, Option.some.injEq] at h4
     subst h4
     exact RF.keep (m := m') (c := .p p) ht h7
    | nil c0 =>
     simp only [resF, Option.some.injEq] at h4
     subst h4
     exact h7
    | row b =>
     simp only [resF] at h4
     split at h4
     ·rename_i b' hb
      simp only [Option.some.injEq] at h4
      subst h4
      show y = _
      rw [hg.sends.r b b' hb]; exact h7
     ·rename_i hb0
      split at h4
      ·rename_i e c l hb
       simp only [Option.some.injEq] at h4
       subst h4
       show RP w G' _ y
       rw [show y = m.r b from h7]
       refine RP.of_row (h.blks b _ hb) ht (fun k hk hf => ?_)
       have ho : owns m st.b b k := by unfold owns; rw [hb]; exact hk
       exact hg.free b k ho hb0 hf
      ·simp at h4
   split at hv
   ·rename_i ps hps
    simp only [Option.some.injEq] at hv
    subst hv
    exact h0.toPag hps
   ·simp only [Option.some.injEq] at hv
    subst hv
    exact h0
  ·simp at hv
 ·split at hv
  ·rename_i p hp
   simp only [Option.some.injEq] at hv
   subst hv
   exact ((hx.fix T t).toP hp).mono hg.less
  ·simp at hv
theorem resL_run [Glob] (hT : TabOK P T) (h : Rel w0 m0 F X N st a w m) {ρ : Nat -> Option Nat} {G' : Nat -> Prop} {m' : Nm} (hg : Goes F m st.b ρ G' m') : ∀ (rs : List ResultVar) (ts : List TypeId) {ps : List V}, resL T st ρ rs ts = some ps →
 ∃ xs : List Value, (rs.mapM (resOf a.tmps)).run P w = .ok xs w /\ xs.length = ps.length ∧
  ∀ (i : Nat) (p : V), ps[i]? = some p -> ∃ x, xs[i]? = some x /\ RV0 w G' m' p x
 | [], ts, ps, hv => by
  simp only [resL, Option.some.injEq] at hv
  subst hv
  exact ⟨[], by simp, rfl, fun i p hi => by simp at hi⟩
 | .tmp t :: r, ts, ps, hv => by
  simp only [resL] at hv
  split at hv
  ·rename_i p l hp hl
   simp only [Option.some.injEq] at hv
   subst hv
   obtain ⟨xs, h1, h2, h3⟩ := resL_run hT h hg r ts.tail hl
   refine ⟨a.tmps.getD t undef :: xs, ?_, by simp [h2], fun i q hi => ?_⟩
   ·rw [List.mapM_cons, Sem.run_bind]
    simp only [resOf, Sem.run_pure, Result.andThen_ok, Sem.run_bind, h1]
   ·cases i with
    | zero => simp only [List.getElem?_cons_zero, Option.some.injEq] at hi; subst hi; exact ⟨_, rfl, resV_run h hg hp (h.tmps t)⟩
    | succ i => simpa using h3 i q (by simpa using hi)
  ·simp at hv
 | .cell c t :: r, ts, ps, hv => by
  simp only [resL] at hv
  split at hv
  ·rename_i v hv1
   split at hv
   ·rename_i p l hv2 hl
    simp only [Option.some.injEq] at hv
    subst hv
    obtain ⟨x, hx1, hx2⟩ := ld_run hT h hv1 (h.tmps c)
    obtain ⟨xs, h1, h2, h3⟩ := resL_run hT h hg r ts.tail hl
    have hload : (resOf a.tmps (.cell c t)).run P w = .ok x w := by
     have hptr : ∃ ad, a.tmps.getD c undef = .pointer (some ad) := by
      have hc := h.tmps c
      cases hsc : st.s c <;> rw [hsc] at hv1 hc <;> simp only [ld, reduceCtorEq] at hv1
      ·exact ⟨_, hc⟩
      ·obtain ⟨k, -, he⟩ := hc; exact ⟨_, he⟩
      ·obtain ⟨k, off, he, -⟩ := hc; exact ⟨_, he⟩
     obtain ⟨ad, had⟩ := hptr
     rw [had] at hx1
     simp only [resOf, had]
     simpa [Instr.loadAt, Instr.sureAddr, asAddr] using hx1
    refine ⟨x :: xs, ?_, by simp [h2], fun i q hi => ?_⟩
    ·rw [List.mapM_cons, Sem.run_bind, hload]
     simp only [Sem.run_pure, Result.andThen_ok, Sem.run_bind, h1]
    ·cases i with
     | zero => simp only [List.getElem?_cons_zero, Option.some.injEq] at hi; subst hi; exact ⟨_, rfl, resV_run h hg hv2 hx2⟩
     | succ i => simpa using h3 i q (by simpa using hi)
   ·simp at hv
  ·simp at hv
theorem results_eq (fn : Func) (tmps : Array Value) (P : Program) (w : World) {xs : List Value} (h : (fn.results.toList.mapM (resOf tmps)).run P w = .ok xs w) :
 (results fn tmps).run P w = .ok (if xs.length = 1 then xs.headD undef else .tuple xs.toArray) w := by
 have h1 : (fn.results.mapM (resOf tmps)).run P w = .ok xs.toArray w := by
  rw [Array.mapM_eq_mapM_toList]
  simp [h]
 have h2 : results fn tmps = (do let vs ← fn.results.mapM (resOf tmps); pure (if h : vs.size = 1 then vs[0] else .tuple vs) : Sem Value) := rfl
 rw [h2, Sem.run_bind, h1]
 simp only [Result.andThen_ok, Sem.run_pure]
 congr 1
 by_cases hx : xs.length = 1
 ·match xs, hx with
  | [x], _ => simp
 ·rw [if_neg hx, dif_neg (by simpa using hx)]
theorem outB_get {ns : List Nat} : ∀ {β : List Blk} {n : Nat}, outB st ns n β -> ∀ (i : Nat) (blk : Blk), β[i]? = some blk -> ∃ b0, st.b (n + i) = some b0 /\ blk = renB (gaN ns) (gaN ns) b0
 | [], _, _, i, blk, h => by simp at h
 | blk0 :: r, n, ⟨h0, h1⟩, i, blk, h => by
  cases i with
  | zero => simp at h; subst h; exact h0
  | succ i =>
   obtain ⟨b0, h2, h3⟩ := outB_get h1 i blk (by simpa using h)
   exact ⟨b0, by rw [<- h2]; congr 1; omega, h3⟩
theorem outR_get {ns : List Nat} : ∀ {ms : List Nat} {R : List Blk}, outR st ns ms R -> ∀ (i : Nat) (blk : Blk), R[i]? = some blk -> ∃ n b0, ms[i]? = some n /\ st.b n = some b0 /\ blk = renB (gaN ns) (gaN ns) b0
 | [], [], _, i, blk, h => by simp at h
 | n :: ms, blk0 :: r, ⟨⟨b0, h0, h0'⟩, h1⟩, i, blk, h => by
  cases i with
  | zero => simp at h; subst h; exact ⟨n, b0, rfl, h0, h0'⟩
  | succ i => simpa using outR_get h1 i blk (by simpa using h)
 | [], _ :: _, h, _, _, _ => h.elim
 | _ :: _, [], h, _, _, _ => h.elim
def gaI (ns : List Nat) (n : Nat) : Nat := if n < 2048 then n else ns.getD (n - 2048) 0
theorem Rel.goes [Glob] (h : Rel w0 m0 F X N st a w m) {ns : List Nat} (hn : ns.Nodup) (hns : ∀ n ∈ ns, n < 1024 \/ 2048 <= n) {R β : List Blk} (hR : outR st ns ns R) (hβ : outB st ns 1024 β) :
 ∃ m', Hp w F m' (nmF β R) /\ (∀ n k, owns m' (nmF β R) n k -> w0.heap.size <= k \/ X k) /\ (∀ n, 1024 <= n -> n < 2048 -> m'.i n = m0.i n) /\ Goes F m st.b (gaN ns) (Gd F m' (nmF β R)) m' := by
 let m' : Nm := ⟨fun n => m.i (gaI ns n), fun n => m.r (gaI ns n)⟩
 have hγ : ∀ n blk', nmF β R n = some blk' -> (1024 <= n /\ (n < 2048 \/ (2048 <= n /\ ns[n - 2048]? = some (gaI ns n)))) /\ ∃ b0, st.b (gaI ns n) = some b0 /\ blk' = renB (gaN ns) (gaN ns) b0 := fun n blk' hh => by
  unfold nmF at hh
  split at hh
  ·simp at hh
  ·split at hh
   ·rename_i h1 h2
    obtain ⟨b0, h3, h4⟩ := outB_get hβ _ _ hh
    rw [show 1024 + (n - 1024) = n from by omega] at h3
    exact ⟨⟨by omega, .inl h2⟩, b0, by simp [gaI, h2, h3], h4⟩
   ·rename_i h1 h2
    obtain ⟨n0, b0, h3, h4, h5⟩ := outR_get hR _ _ hh
    have e : gaI ns n = n0 := by simp [gaI, h2, List.getD_eq_getElem?_getD, h3]
    exact ⟨⟨by omega, .inr ⟨by omega, by rw [e]; exact h3⟩⟩, b0, by rw [e]; exact h4, h5⟩
 have hs : Sends m m' (gaN ns) (gaN ns) := by
  have key : ∀ b b', gaN ns b = some b' -> gaI ns b' = b := fun b b' hb => by
   unfold gaN at hb
   split at hb
   ·rename_i h1
    simp only [Option.some.injEq] at hb
    subst hb
    simp [gaI, h1.2]
   ·split at hb
    ·rename_i j hj
     simp only [Option.some.injEq] at hb
     subst hb
     have := pos_some hj
     simp [gaI, show ¬ 2048 + j < 2048 from by omega, List.getD_eq_getElem?_getD, this]
    ·simp at hb
  exact ⟨fun b b' hb => by simp only [m']; rw [key b b' hb], fun b b' hb => by simp only [m']; rw [key b b' hb]⟩
 obtain ⟨h1, h2, h3⟩ := h.hp.ren (F' := F) (m' := m') (γ := nmF β R) (ρ := gaN ns) (gaI ns)
  (fun n blk' hh => by
   obtain ⟨-, b0, h4, h5⟩ := hγ n blk' hh
   exact ⟨b0, h4, h5, rfl, rfl⟩)
  (fun n n' hh hh' he => by
   obtain ⟨blk, hh⟩ := Option.isSome_iff_exists.1 hh
   obtain ⟨blk', hh'⟩ := Option.isSome_iff_exists.1 hh'
   obtain ⟨⟨g1, g2⟩, -⟩ := hγ n _ hh
   obtain ⟨⟨g1', g2'⟩, -⟩ := hγ n' _ hh'
   rcases g2 with g2 | ⟨g2, g3⟩
   ·have e1 : gaI ns n = n := by simp [gaI, g2]
    rcases g2' with g2' | ⟨g2', g3'⟩
    ·have e2 : gaI ns n' = n' := by simp [gaI, g2']
     rw [e1, e2] at he; exact he
    ·have := hns _ (List.mem_of_getElem? g3')
     rw [<- he, e1] at this
     omega
   ·rcases g2' with g2' | ⟨g2', g3'⟩
    ·have e2 : gaI ns n' = n' := by simp [gaI, g2']
     have := hns _ (List.mem_of_getElem? g3)
     rw [he, e2] at this
     omega
    ·rw [he] at g3
     have e1 := pos_get hn g3
     have e2 := pos_get hn g3'
     rw [e1] at e2
     simp only [Option.some.injEq] at e2
     omega)
  hs (fun k hk => .inl hk)
 refine ⟨m', h1, fun n k ho => (h.own _ k (h2 n k ho).1).1, fun n g1 g2 => ?_, hs, h3, fun b k ho hb hg => ?_⟩
 ·simp only [m', gaI, if_pos g2]
  exact h.nam n g1 g2
 ·rcases hg with hf | ⟨n, ho'⟩
  ·exact (h.own b k ho).2.2 hf
  ·obtain ⟨h4, h5⟩ := h2 n k ho'
   have e := h.uniq _ _ _ h4 ho
   obtain ⟨blk, hh⟩ := Option.isSome_iff_exists.1 h5
   obtain ⟨⟨g1, g2⟩, -⟩ := hγ n _ hh
   rcases g2 with g2 | ⟨g2, g3⟩
   ·rw [<- e] at hb
    simp [gaI, g2, gaN, g1] at hb
   ·rw [e] at g3
    have := pos_get hn g3
    unfold gaN at hb
    split at hb
    ·simp at hb
    ·rw [this] at hb
     simp at hb
theorem ARes_run [Glob] (hT : TabOK P T) (h : Rel w0 m0 F X N st a w m) {fn : Func} {out : Out} (hv : ARes T st fn.results.toList fn.resultTypes.toList out) :
 ∃ x, (results fn a.tmps).run P w = .ok x w /\ OutR w0 F X m0 (.returned x) w out := by
 cases out with
 | pan y β => exact hv.elim
 | ret v R β =>
  obtain ⟨ns, hn, hns, hR, hβ, -, l, hl, rfl⟩ := hv
  obtain ⟨m', h1, h2, h3, h4⟩ := h.goes hn hns hR hβ
  obtain ⟨xs, h5, h6, h7⟩ := resL_run hT h h4 _ _ hl
  refine ⟨_, results_eq fn a.tmps P w h5, _, m', rfl, h1, h2, h3, ?_⟩
  match l, xs, h6, h7 with
  | [], [], _, _ => exact ⟨#[], rfl, rfl, fun i v hi => by simp at hi⟩
  | [v], [x], _, h7 =>
   obtain ⟨x', h8, h9⟩ := h7 0 v rfl
   simp only [List.getElem?_cons_zero, Option.some.injEq] at h8
   subst h8
   simpa [tupV] using RV.of0 h9
  | v0 :: v1 :: l, x0 :: x1 :: xs, h6, h7 =>
   refine ⟨(x0 :: x1 :: xs).toArray, by simp, by simpa using h6, fun i v hi => ?_⟩
   obtain ⟨y, h8, h9⟩ := h7 i v hi
   exact ⟨y, by simpa using h8, h9⟩
theorem ARes_runW [Glob] (hT : TabOK P T) (h : Rel w0 m0 F X N st a w m) {fn : Func} {v : V} {R β : List Blk} (hv : ARes T st fn.results.toList fn.resultTypes.toList (.ret v R β)) :
 ∃ x m', (results fn a.tmps).run P w = .ok x w /\ (∀ n, 1024 <= n -> n < 2048 -> m'.r n = m.r n) /\ RV w (Gd F m' (nmF β R)) m' v x := by
 obtain ⟨ns, hn, hns, hR, hβ, -, l, hl, rfl⟩ := hv
 obtain ⟨m', h1, h2, h3, h4⟩ := h.goes hn hns hR hβ
 obtain ⟨xs, h5, h6, h7⟩ := resL_run hT h h4 _ _ hl
 refine ⟨_, m', results_eq fn a.tmps P w h5, fun n g1 g2 => h4.sends.r n n (by unfold gaN; rw [if_pos ⟨g1, g2⟩]), ?_⟩
 match l, xs, h6, h7 with
 | [], [], _, _ => exact ⟨#[], rfl, rfl, fun i v hi => by simp at hi⟩
 | [v], [x], _, h7 =>
  obtain ⟨x', h8, h9⟩ := h7 0 v rfl
  simp only [List.getElem?_cons_zero, Option.some.injEq] at h8
  subst h8
  simpa [tupV] using RV.of0 h9
 | v0 :: v1 :: l, x0 :: x1 :: xs, h6, h7 =>
  refine ⟨(x0 :: x1 :: xs).toArray, by simp, by simpa using h6, fun i v hi => ?_⟩
  obtain ⟨y, h8, h9⟩ := h7 i v hi
  exact ⟨y, by simpa using h8, h9⟩
theorem AResP_run [Glob] (h : Rel w0 m0 F X N st a w m) {y : Value} {out : Out} (hv : AResP st y out) : OutR w0 F X m0 (.panicked [{ v := y, recovered := false }]) w out := by
 cases out with
 | ret v R β => exact hv.elim
 | pan y' β =>
  obtain ⟨rfl, hβ, -⟩ := hv
  obtain ⟨m', h1, h2, h3, -⟩ := h.goes (ns := []) List.nodup_nil (fun n hn => by simp at hn) (R := []) trivial hβ
  exact ⟨m', rfl, h1, h2, h3⟩
theorem getD_append_undef (xs : Array Value) (n t : Nat) : (xs ++ Array.replicate n undef).getD t undef = xs.getD t undef := by
 rw [Array.getD_eq_getD_getElem?, Array.getD_eq_getD_getElem?]
 by_cases h : t < xs.size
 ·rw [Array.getElem?_append_left h]
 ·rw [Array.getElem?_append_right (by omega), Array.getElem?_eq_none (by omega : xs.size <= t), Array.getElem?_replicate]
  split <;> rfl
theorem ACon.of_body [Glob] (hT : TabOK P T) (hm : P.follows .mixedOrders = true) {f : FuncId} {fn : Func} {body : Code} (hf : P.funcs[f]? = some fn) (hname : (fn.name == "runtime.NumGoroutine") = false) (hb : fn.body = some body) {args : List V} {β : List Blk} {out : Out}
 (hN : args.length <= fn.ntmps) (hN2 : fn.ntmps <= 1024) (hv : awpC P T fn.ntmps body (fun e st => match e with | .exit _ => False | .pan y => AResP st y out | _ => ARes T st fn.results.toList fn.resultTypes.toList out) (initS args β)) : Con P f args β out := by
 refine fun F w m xs hp hlen har => .inl ⟨⟨fn, hf, hname, by rw [hb]; rfl⟩, ?_⟩
 have hrel : Rel w m F (fun k => ∃ n, owns m (nmF β []) n k) fn.ntmps (initS args β) { tmps := xs.toArray ++ Array.replicate (fn.ntmps - xs.toArray.size) undef, defers := [] } w m := by
  refine ⟨Keeps.refl _ _, hp.fold, fun b k ho => ⟨.inr ⟨b, ho⟩, hp.own b k ho⟩, hp.uniq, ?_, fun t => ?_, hp.blks, .nil, fun _ _ _ => rfl, ⟨by omega, fun t ht => by rw [show fn.ntmps / 4096 = 0 by omega] at ht; simp at ht⟩, hp.glob⟩
  ·simp; omega
  ·rw [getD_append_undef]
   cases hat : args[t]? with
   | none =>
    have : xs.toArray.getD t undef = undef := by
     have h1 : xs.length <= t := by rw [hlen]; exact List.getElem?_eq_none_iff.1 hat
     rw [Array.getD_eq_getD_getElem?, Array.getElem?_eq_none (by simpa using h1)]; rfl
    rw [this]
    simp only [initS, hat]
    exact ⟨#[], rfl, rfl, fun i v hi => by simp at hi⟩
   | some u =>
    obtain ⟨x, hx, hr⟩ := har t u hat
    have hx' : xs.toArray.getD t undef = x := by rw [Array.getD_eq_getD_getElem?]; simp [hx]
    rw [hx']
    simp only [initS, hat]
    exact .of0 hr
 refine calls_of_wp hf hb (wp_mono (awpC_run hT hm body _ _ _ w m hrel hv) fun e a' w' he => ?_)
 cases e with
 | normal =>
  obtain ⟨st', m', hq, hr⟩ := he
  obtain ⟨x, h1, h2⟩ := ARes_run hT hr hq
  exact bodyPost_end h1 (hr.defers.1 (by omega)) ⟨hr.keeps, h2⟩
 | exit i => obtain ⟨st', m', hq, hr⟩ := he; exact hq.elim
 | ret =>
  obtain ⟨st', m', hq, hr⟩ := he
  obtain ⟨x, h1, h2⟩ := ARes_run hT hr hq
  exact bodyPost_ret h1 (hr.defers.1 (by omega)) ⟨hr.keeps, h2⟩
 | goto _ => exact he.elim
 | panic chain =>
  obtain ⟨y, st', m', rfl, hq, hr⟩ := he
  exact ⟨hr.defers.1 (by omega), hr.keeps, AResP_run hr hq⟩
 | outgrown => exact he.elim
theorem ConW.of_body [Glob] (hT : TabOK P T) (hm : P.follows .mixedOrders = true) {f : FuncId} {fn : Func} {body : Code} (hf : P.funcs[f]? = some fn) (hname : (fn.name == "runtime.NumGoroutine") = false) (hb : fn.body = some body) {args : List V} {e c : Nat} {l0 l1 : List (List PV)} {v : V}
 (hN : args.length <= fn.ntmps) (hN2 : fn.ntmps <= 1024) (h0 : args[0]? = some (.row 1024)) (hfl : flatW v = true) (hv : awpC P T (fn.ntmps + 4096) body (fun e' st => match e' with | .exit _ => False | .pan _ => False | _ => ARes T st fn.results.toList fn.resultTypes.toList (.ret v [] [.row e c l1]) /\ st.s 0 = .row 1024 /\ st.b 1024 = some (.row e c l1)) (initS args [.row e c l0])) : ConW P f args e c l0 l1 v := by
 refine fun F w m xs hp hlen har => .inl ⟨⟨fn, hf, hname, by rw [hb]; rfl⟩, ?_⟩
 obtain ⟨x0, hx0, hr0⟩ := har 0 _ h0
 have hr0 : x0 = m.r 1024 := hr0
 have hpos : 0 < fn.ntmps := by
  have : 0 < args.length := (List.getElem?_eq_some_iff.1 h0).1
  omega
 have hmod : (fn.ntmps + 4096) % 2048 = fn.ntmps := by omega
 have hdf : (fn.ntmps + 4096) / 2048 % 2 = 0 := by omega
 have hpn : (fn.ntmps + 4096) / 4096 = 1 := by omega
 have hx0' : (xs.toArray ++ Array.replicate (fn.ntmps - xs.toArray.size) undef).getD 0 undef = x0 := by
  rw [getD_append_undef, Array.getD_eq_getD_getElem?]; simp [hx0]
 have hrel : Rel w ⟨m.i, fun n => if n = 0 then x0 else m.r n⟩ F (fun k => ∃ n, owns m (nmF [.row e c l0] []) n k) (fn.ntmps + 4096) (initS args [.row e c l0]) { tmps := xs.toArray ++ Array.replicate (fn.ntmps - xs.toArray.size) undef, defers := [] } w m := by
  refine ⟨Keeps.refl _ _, hp.fold, fun b k ho => ⟨.inr ⟨b, ho⟩, hp.own b k ho⟩, hp.uniq, ?_, fun t => ?_, hp.blks, .nil, fun _ _ _ => rfl, ⟨by omega, fun t ht => ?_⟩, hp.glob⟩
  ·simp; omega
  ·rw [getD_append_undef]
   cases hat : args[t]? with
   | none =>
    have : xs.toArray.getD t undef = undef := by
     have h1 : xs.length <= t := by rw [hlen]; exact List.getElem?_eq_none_iff.1 hat
     rw [Array.getD_eq_getD_getElem?, Array.getElem?_eq_none (by simpa using h1)]; rfl
    rw [this]
    simp only [initS, hat]
    exact ⟨#[], rfl, rfl, fun i v hi => by simp at hi⟩
   | some u =>
    obtain ⟨x, hx, hr⟩ := har t u hat
    have hx' : xs.toArray.getD t undef = x := by rw [Array.getD_eq_getD_getElem?]; simp [hx]
    rw [hx']
    simp only [initS, hat]
    exact .of0 hr
  ·rw [hpn] at ht
   have h00 : t = 0 := by
    rcases Nat.eq_zero_or_pos t with h | h
    ·exact h
    ·have : 1 < 2 ^ t := Nat.one_lt_two_pow (by omega)
     rw [Nat.div_eq_of_lt this] at ht; simp at ht
   subst h00
   simpa using hx0'
 have fin : ∀ (st' : St) (a' : Act) (w' : World) (m' : Nm), (ARes T st' fn.results.toList fn.resultTypes.toList (.ret v [] [.row e c l1]) /\ st'.s 0 = .row 1024 /\ st'.b 1024 = some (.row e c l1)) -> Rel w ⟨m.i, fun n => if n = 0 then x0 else m.r n⟩ F (fun k => ∃ n, owns m (nmF [.row e c l0] []) n k) (fn.ntmps + 4096) st' a' w' m' →
  ∃ x, (results fn a'.tmps).run P w' = .ok x w' /\ a'.defers = [] /\ (Keeps (fun k => ∃ n, owns m (nmF [.row e c l0] []) n k) w w' /\ ∃ x', Ending.returned x = .returned x' /\ Hp w' F m (nmF [.row e c l1] []) /\ RV w' (Gd F m (nmF [.row e c l1] [])) m v x') := fun st' a' w' m' ⟨hq, hs0, hs1⟩ hr => by
  obtain ⟨x, m3, h1, hm3, hvx⟩ := ARes_runW hT hr hq
  obtain ⟨ns, hn, -, hR, -, -, l, hl, rfl⟩ := hq
  have hns : ns = [] := by cases ns with
   | nil => rfl
   | cons n ns => exact hR.elim
  have hmr : m'.r 1024 = m.r 1024 := by
   have h2 := hr.tmps 0
   rw [hs0] at h2
   have h2 : a'.tmps.getD 0 undef = m'.r 1024 := h2
   have h3 := hr.small.2 0 (by rw [hpn])
   rw [<- h2, h3, <- hr0]; rfl
  have hown : ∀ n k, owns m (nmF [.row e c l1] []) n k -> n = 1024 /\ owns m' st'.b 1024 k := fun n k ho => by
   unfold owns at ho
   by_cases hn : n = 1024
   ·subst hn
    refine ⟨rfl, ?_⟩
    unfold owns
    rw [hs1]
    simp only [hmr]
    simpa [nmF] using ho
   ·have : nmF [.row e c l1] [] n = none := by
     unfold nmF
     split
     ·rfl
     ·split
      ·rw [List.getElem?_eq_none (by simp; omega)]
      ·simp
    rw [this] at ho; exact ho.elim
  have hgd : ∀ k, Gd F m (nmF [.row e c l1] []) k -> Gd F m' st'.b k := fun k hk => by
   rcases hk with hk | ⟨n, hk⟩
   ·exact .inl hk
   ·exact .inr ⟨1024, (hown n k hk).2⟩
  refine ⟨x, h1, hr.defers.1 hdf, hr.keeps, x, rfl, ⟨fun k hk => Nat.lt_of_lt_of_le (hr.fold k hk) hr.keeps.size, fun n k ho => (hr.own _ k (hown n k ho).2).2, fun n n' k h2 h3 => by rw [(hown n k h2).1, (hown n' k h3).1], fun n blk hb => ?_, fun g e he => (hr.glob g e he).less hgd⟩, ?_⟩
  ·have hn : n = 1024 /\ blk = .row e c l1 := by
    unfold nmF at hb
    split at hb
    ·simp at hb
    ·split at hb
     ·rename_i h4 h5
      have : n - 1024 = 0 := by
       have := (List.getElem?_eq_some_iff.1 hb).1
       simp at this; omega
      rw [this] at hb
      exact ⟨by omega, by simpa using hb.symm⟩
     ·simp at hb
   obtain ⟨rfl, rfl⟩ := hn
   have h6 := (hr.blks 1024 _ hs1).keep (w' := w') (G' := Gd F m (nmF [.row e c l1] [])) ⟨Nat.le_refl _, fun _ _ _ => rfl, fun k _ hk => hgd k hk⟩ fun _ _ => rfl
   simp only [RB] at h6 ⊢
   rw [hmr] at h6
   exact h6
  ·refine hvx.flatW hfl fun k hk => ?_
   rcases hk with hk | ⟨n, hk⟩
   ·exact .inl hk
   ·obtain ⟨rfl, -⟩ := hown n k hk
    refine .inr ⟨1024, ?_⟩
    unfold owns at hk ⊢
    have e1 : nmF [Blk.row e c l1] [] 1024 = some (.row e c l1) := by simp [nmF]
    rw [e1] at hk ⊢
    simp only at hk ⊢
    rw [hm3 1024 (by omega) (by omega), hmr]
    exact hk
 refine calls_of_wp hf hb (wp_mono (awpC_run hT hm body _ _ _ w m hrel hv) fun e a' w' he => ?_)
 cases e with
 | normal =>
  obtain ⟨st', m', hq, hr⟩ := he
  obtain ⟨x, h1, h2, h3⟩ := fin st' a' w' m' hq hr
  exact bodyPost_end h1 h2 h3
 | exit i => obtain ⟨st', m', hq, hr⟩ := he; exact hq.elim
 | ret =>
  obtain ⟨st', m', hq, hr⟩ := he
  obtain ⟨x, h1, h2, h3⟩ := fin st' a' w' m' hq hr
  exact bodyPost_ret h1 h2 h3
 | goto _ => exact he.elim
 | panic chain => obtain ⟨y, st', m', rfl, hq, hr⟩ := he; exact hq.elim
 | outgrown => exact he.elim
end
end Go.Av
namespace Go.Av
open Go
theorem TyOK.of {P : Program} {t : TypeId} {y : Ty} {z : Value} (hinfo : (P.info? t).map (fun i => (i.zero, i.size, i.bytes)) = some (some z, y.size, y.bytes)) (hl : y.zero.length = y.size)
 (hz : z.cells.toList.map some = y.zero.map zval) (htup : (match z with | .tuple _ => false | _ => true) = true)
 (kind : match y.kd with
 | .slice e => P.underlying t = some (.slice e)
 | .struct fs => ∃ f, P.underlying t = some (.struct f) /\ f.toList.map (fun f => (f.offset, f.type)) = fs
 | .array n e => P.underlying t = some (.array n e)
 | .int k => P.underlying t = some (.int k)
 | .str => P.underlying t = some .string
 | .bool => P.underlying t = some .bool
 | .sc => ∃ d, P.underlying t = some d /\ (d matches .struct _ | .array _ _) = false
 | .map k e ks => P.underlying t = some (.map k e) /\ KeyOK P k ks)
 (hagg : ∀ cs, z = .agg cs -> y.kd.isAgg = true)
 (eq : ∀ ks, y.eq = some ks -> y.kd.isAgg = true /\ ∀ xs ys : List Value, fitsL ks xs -> fitsL ks ys -> ∀ w,
  (Op.equal t (.agg xs.toArray) (.agg ys.toArray)).run P w = .ok (ceq xs ys) w /\ P.eqGuardType P.depth t = false) : TyOK P t y := by
 cases hi : P.info? t with
 | none => rw [hi] at hinfo; simp at hinfo
 | some i =>
  rw [hi] at hinfo
  simp only [Option.map_some, Option.some.injEq, Prod.mk.injEq] at hinfo
  exact ⟨hl, ⟨i, z, hi, hinfo.2.1, hinfo.2.2, hinfo.1, hz, hagg, fun cs hc => by subst hc; simp at htup⟩, kind, eq⟩
def structOf (P : Program) (t : TypeId) : Option (List (Nat × TypeId)) :=
 match P.underlying t with
 | some (.struct f) => some (f.toList.map fun f => (f.offset, f.type))
 | _ => none
theorem structOf_spec {P : Program} {t : TypeId} {fs : List (Nat × TypeId)} (h : structOf P t = some fs) : ∃ f, P.underlying t = some (.struct f) /\ f.toList.map (fun f => (f.offset, f.type)) = fs := by
 unfold structOf at h
 split at h
 ·rename_i f hf
  simp only [Option.some.injEq] at h
  exact ⟨f, hf, h⟩
 ·simp at h
def scOf (P : Program) (t : TypeId) : Bool :=
 match P.underlying t with
 | some (.struct _) | some (.array _ _) | none => false
 | _ => true
theorem scOf_spec {P : Program} {t : TypeId} (h : scOf P t = true) : ∃ d, P.underlying t = some d /\ (d matches .struct _ | .array _ _) = false := by
 unfold scOf at h
 cases hu : P.underlying t with
 | none => rw [hu] at h; simp at h
 | some d =>
  rw [hu] at h
  refine ⟨d, rfl, ?_⟩
  cases d <;> first | rfl | simp at h
section
variable {P : Program} {T : TypeId -> Option Ty} {N : Nat}
theorem awpC_seq_k [Glob] {x y : Code} {Q : AExit -> St -> Prop} {st : St} (h : ∀ K : St -> Prop, (∀ st', awpC P T N y Q st' -> K st') -> awpC P T N x (thenA K Q) st) : awpC P T N (.seq x y) Q st :=
 h _ fun _ h => h
theorem awpC_reg [Glob] {id : Nat} {ops : Array Oper} {Q : AExit -> St -> Prop} {st : St} (h : awpOps P T N ops ops.toList st (Q .normal) (fun y => Q (.pan y))) : awpC P T N (.region id ops false) Q st := h
theorem awpC_loop [Glob] {x : Code} {Q : AExit -> St -> Prop} {st : St} (gs : List Gh) (I : Nat -> St -> Prop) (n : Nat) (h0 : I n (frzL st gs)) (h : ∀ (K : St -> Prop) n st', (∀ (s : St) n', n' < n -> I n' s -> K s) -> I n st' -> awpC P T N x (thenA K Q) st') : awpC P T N (.loop x) Q st :=
 ⟨gs, I, ⟨n, h0⟩, fun n st' hi => h _ n st' (fun _ n' hlt hi' => ⟨n', hlt, hi'⟩) hi⟩
theorem ACon.of_body' [Glob] (hT : TabOK P T) (hm : P.follows .mixedOrders = true) {f : FuncId} {fn : Func} {body : Code} (hf : P.funcs[f]? = some fn) (hname : (fn.name == "runtime.NumGoroutine") = false) (hb : fn.body = some body) {N : Nat} (hN' : fn.ntmps = N) {args : List V} {β : List Blk} {out : Out}
 (hN : args.length <= N) (hN2 : N <= 1024) (h : ∀ Q : AExit -> St -> Prop, (∀ st, ARes T st fn.results.toList fn.resultTypes.toList out -> Q .ret st) -> (∀ st, ARes T st fn.results.toList fn.resultTypes.toList out -> Q .normal st) -> (∀ y st, AResP st y out -> Q (.pan y) st) -> awpC P T N body Q (initS args β)) : Con P f args β out := by
 subst hN'
 exact ACon.of_body hT hm hf hname hb hN hN2 (h _ (fun _ h => h) (fun _ h => h) (fun _ _ h => h))
end
end Go.Av
