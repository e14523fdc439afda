/- Texts that the proof needs: AvApp. -/
import Derived.Test.YthiccfadhllajaaP6JudgePrimary
namespace Go.Av
set_option linter.unusedSimpArgs false
set_option linter.unusedVariables false
open Go
section
variable {P : Program} {T : TypeId -> Option Ty} {w0 : World} {m0 : Nm} {F X : Nat -> Prop} {N : Nat} {st : St} {a : Act} {w : World} {m : Nm}
theorem app_none {t tx e : TypeId} (ht : P.underlying t = some (.slice e)) {i : TypeInfo} (hi : P.info? e = some i) (htx : SrcT P tx)
 (ts : Array TypeId) (hts : ts[0]? = some t /\ ts[1]? = some tx) (ty : TypeId) {b : Option Addr} {n cap : Nat} (hn : n <= cap) {x : Value} {c : Nat} (hc : i.size = c) {G : Nat -> Prop} {news : List Value} (hs : Src P w G c [] x news) :
 (Builtin.append_ ts ty #[.slice b n cap, x]).run P w = .ok (.slice b n cap) w := by
 have hf := hs.first w rfl
 have hnl : news = [] := List.length_eq_zero_iff.1 (by rw [hs.len]; simp)
 subst hnl hc
 simp only [List.length_nil] at hf
 rcases hs.shape with ⟨bx, capx, rfl⟩ | ⟨s, rfl, hl⟩
 ·simp only [List.length_nil] at hf ⊢
  rcases htx with ⟨ex, htx⟩ | htx <;> cases b <;>
   simp [Builtin.append_, hts.1, hts.2, run_underlying ht, run_underlying htx, sizeOf, typeInfo, hi, Builtin.lenOf, hn, hf, storeCells]
 ·have hs0 : s.size = 0 := by have := congrArg List.length hl; simpa [bytesL] using this.symm
  rcases htx with ⟨ex, htx⟩ | htx <;> cases b <;>
   simp [Builtin.append_, hts.1, hts.2, run_underlying ht, run_underlying htx, sizeOf, typeInfo, hi, Builtin.lenOf, hn, hf, hs0, storeCells]
theorem app_room [Glob] {t tx e : TypeId} (ht : P.underlying t = some (.slice e)) {i : TypeInfo} (hi : P.info? e = some i) (htx : SrcT P tx)
 (ts : Array TypeId) (hts : ts[0]? = some t /\ ts[1]? = some tx) (ty : TypeId) {g n cap : Nat} {cur : Array Value} (hg : w.heap[g]? = some (.cells cur e (0, 0))) {x : Value} {c : Nat} (hc : i.size = c) {G : Nat -> Prop} {l : List (List PV)} {news : List Value} (hs : Src P w G c l x news)
 (hroom : n + l.length <= cap) (hfit : n * c + news.length <= cur.size) :
 (Builtin.append_ ts ty #[.slice (some ⟨g, 0, none⟩) n cap, x]).run P w = .ok (.slice (some ⟨g, 0, none⟩) (n + l.length) cap) (w.setRow g (cur.toList.take (n * c) ++ news ++ cur.toList.drop (n * c + news.length)).toArray) := by
 have hf := hs.first w rfl
 have hst := run_storeCells_at P g (n * c) e news 0 cur w hg (by simpa using hfit) hs.one
 simp only [Nat.add_zero] at hst
 subst hc
 rcases hs.shape with ⟨bx, capx, rfl⟩ | ⟨s, rfl, hl⟩
 ·rcases htx with ⟨ex, htx⟩ | htx <;>
   simp [Builtin.append_, hts.1, hts.2, run_underlying ht, run_underlying htx, sizeOf, typeInfo, hi, Builtin.lenOf, hroom, hf, addr_add, hst]
 ·have hll : l.length = s.size := by rw [hl]; exact bytesL_len s
  rw [hll] at hf hroom ⊢
  rcases htx with ⟨ex, htx⟩ | htx <;>
   simp [Builtin.append_, hts.1, hts.2, run_underlying ht, run_underlying htx, sizeOf, typeInfo, hi, Builtin.lenOf, hroom, hf, addr_add, hst]
theorem app_grow [Glob] {t tx e : TypeId} (ht : P.underlying t = some (.slice e)) {i : TypeInfo} (hi : P.info? e = some i) {z : Value} (hz : i.zero = some z) (htx : SrcT P tx)
 (ts : Array TypeId) (hts : ts[0]? = some t /\ ts[1]? = some tx) (ty : TypeId) {b : Option Addr} {cap : Nat} {x : Value} {c : Nat} (hc : i.size = c) {G : Nat -> Prop} {l0 l : List (List PV)} {olds news : List Value}
 (ho : Src P w G c l0 (.slice b l0.length cap) olds) (hs : Src P w G c l x news) (hroom : cap < l0.length + l.length) (hb : (l0.length + l.length) * i.bytes <= 140737488355328) (hb0 : i.bytes ≠ 0) :
 (Builtin.append_ ts ty #[.slice b l0.length cap, x]).run P w = .ok (.slice (some ⟨w.heap.size, 0, none⟩) (l0.length + l.length) (grownCap w (l0.length + l.length) cap e))
  (w.drew.alloc (.cells (olds.toArray ++ news.toArray ++ Builtin.zeroCells z.cells (grownCap w (l0.length + l.length) cap e - (l0.length + l.length))) e)) := by
 have hf := hs.first w.drew rfl
 have hfo := ho.first w.drew rfl
 have hn : ¬ (l0.length + l.length <= cap) := by omega
 have h48 := growslice_fits (need := l0.length + l.length) (old := cap) (bytes := i.bytes) (by omega) hb
 have h48' : ¬ (281474976710656 < Builtin.nextslicecap (l0.length + l.length) cap * i.bytes) := by omega
 subst hc
 rcases hs.shape with ⟨bx, capx, rfl⟩ | ⟨s, rfl, hl⟩
 ·rcases htx with ⟨ex, htx⟩ | htx
  all_goals simp [Builtin.append_, hts.1, hts.2, run_underlying ht, run_underlying htx, sizeOf, typeInfo, zeroValue, hi, hz, Builtin.lenOf, hn, h48', hb0, Question.forced, hf, hfo, newRow, grownCap]
  all_goals congr 2
  all_goals apply Array.ext'
  all_goals simp [List.append_assoc]
 ·have hll : l.length = s.size := by rw [hl]; exact bytesL_len s
  rw [hll] at hf hn h48' ⊢
  rcases htx with ⟨ex, htx⟩ | htx
  all_goals simp [Builtin.append_, hts.1, hts.2, run_underlying ht, run_underlying htx, sizeOf, typeInfo, zeroValue, hi, hz, Builtin.lenOf, hn, h48', hb0, Question.forced, hf, hfo, newRow, grownCap]
  all_goals congr 2
  all_goals apply Array.ext'
  all_goals simp [List.append_assoc]
theorem zeroCells_size (z : Array Value) (n : Nat) : (Builtin.zeroCells z n).size = n * z.size := by simp [Builtin.zeroCells]
theorem EL_take [Glob] {G : Nat -> Prop} {c : Nat} {l : List (List PV)} {xs : List Value} (h : EL w G c l (fun n => xs[n]?)) (hx : xs.length = l.length * c) (r : Array Value) : EL w G c l (fun n => (xs.toArray ++ r)[n]?) :=
 h.congr fun n hn => by
  show (xs.toArray ++ r)[n]? = xs[n]?
  rw [Array.getElem?_append_left (by simpa [hx] using hn)]
  simp
theorem RBr_grown [Glob] {G : Nat -> Prop} {c e cap : Nat} {l : List (List PV)} {xs : List Value} (hl0 : 0 < l.length) (hx : xs.length = l.length * c) (h : EL w G c l (fun n => xs[n]?)) {W : World} {z : Array Value} (hz : z.size = c)
 (hcap : l.length <= cap) (hm : cap <= maxLen) {k : Nat} (hh : W.heap[k]? = some (.cells (xs.toArray ++ Builtin.zeroCells z (cap - l.length)) e (0, 0))) : RBr W w G e c l (.slice (some ⟨k, 0, none⟩) l.length cap) := by
 refine .inr ⟨k, cap, _, rfl, by omega, hcap, hm, hh, ?_, EL_take h hx _⟩
 rw [Array.size_append, zeroCells_size, hz]
 simp only [List.size_toArray, hx]
 rw [<- Nat.add_mul]
 congr 1
 omega
theorem grownCap_bounds (w : World) (need old : Nat) (e : TypeId) (h : need <= 9223372036854775807) : need <= grownCap w need old e /\ grownCap w need old e <= maxLen := by
 have h1 := grownCap_ge w need old e
 have h2 := grownCap_le_maxLen w need old e (by unfold maxLen; exact h)
 exact ⟨h1, h2⟩
theorem RBr.RP [Glob] {wc we : World} {G G' : Nat -> Prop} {e c : Nat} {l : List (List PV)} {x : Value} (h : RBr wc we G e c l x) (ht : Turn we wc G G') (hG : ∀ k, ownB x = some k -> ¬ G' k) : Av.RP wc G' (.sl c l) x :=
 RP.of_row (m := ⟨fun _ => 0, fun _ => x⟩) (b := 0) (e := e) (h.RB (m := ⟨fun _ => 0, fun _ => x⟩) (b := 0) ht rfl) ⟨Nat.le_refl _, fun _ _ _ => rfl, fun _ _ hg => hg⟩ hG
theorem app_row [Glob] {t tx e : TypeId} (ht : P.underlying t = some (.slice e)) {i : TypeInfo} (hi : P.info? e = some i) {z : Value} (hz : i.zero = some z) (hzs : z.cells.size = i.size) (htx : SrcT P tx)
 (ts : Array TypeId) (hts : ts[0]? = some t /\ ts[1]? = some tx) (ty : TypeId) {c : Nat} (hc : i.size = c) {l0 l : List (List PV)} {s x : Value} {news : List Value} (hs : Src P w (Gd F m st.b) c l x news)
 (hb : (l0.length + l.length) * i.bytes <= 140737488355328) (h63 : l0.length + l.length <= 9223372036854775807) (hb0 : i.bytes ≠ 0) (hc0 : 0 < c) {Y : Nat -> Prop}
 (hrow : RBr w w (Gd F m st.b) e c l0 s /\ (∀ k, ownB s = some k -> Y k) ∨
  (∃ b olds, s = .slice b l0.length l0.length /\ Src P w (Gd F m st.b) c l0 s olds /\ (l ≠ [] \/ (l0 = [] /\ RP w (Gd F m st.b) (.sl c []) s)))) :
 ∃ v w', (Builtin.append_ ts ty #[s, x]).run P w = .ok v w' /\ Keeps (fun k => Y k) w w' /\ RBr w' w (Gd F m st.b) e c (l0 ++ l) v /\ ∀ k, ownB v = some k -> (Y k \/ w.heap.size <= k) /\ k < w'.heap.size := by
 have hnews := hs.len
 have grow : ∀ {b : Option Addr} {cap : Nat} {olds : List Value}, s = .slice b l0.length cap -> Src P w (Gd F m st.b) c l0 s olds -> cap < l0.length + l.length →
  ∃ v w', (Builtin.append_ ts ty #[s, x]).run P w = .ok v w' /\ Keeps (fun k => Y k) w w' /\ RBr w' w (Gd F m st.b) e c (l0 ++ l) v /\ ∀ k, ownB v = some k -> (Y k \/ w.heap.size <= k) /\ k < w'.heap.size := fun {b cap olds} hsv ho hlt => by
  subst hsv
  have hrun := app_grow ht hi hz htx ts hts ty hc ho hs hlt hb hb0
  obtain ⟨hg1, hg2⟩ := grownCap_bounds w (l0.length + l.length) cap e h63
  generalize grownCap w (l0.length + l.length) cap e = C at hrun hg1 hg2
  have hsize : w.heap.size < (w.drew.alloc (.cells (olds.toArray ++ news.toArray ++ Builtin.zeroCells z.cells (C - (l0.length + l.length))) e)).heap.size := by
   show w.heap.size < (w.heap.push _).size
   simp
  refine ⟨_, _, hrun, ⟨rfl, rfl, rfl, Nat.le_of_lt hsize, fun k hk _ => Go.RowKit.Below.heap_alloc w.drew _ k hk⟩, ?_, fun k hk => ?_⟩
  ·have e1 : (l0 ++ l).length = l0.length + l.length := by simp
   have hxl : (olds ++ news).length = (l0 ++ l).length * c := by rw [List.length_append, ho.len, hs.len, List.length_append, Nat.add_mul]
   have hh : (w.drew.alloc (.cells (olds.toArray ++ news.toArray ++ Builtin.zeroCells z.cells (C - (l0.length + l.length))) e)).heap[w.heap.size]? = some (.cells ((olds ++ news).toArray ++ Builtin.zeroCells z.cells (C - (l0 ++ l).length)) e (0, 0)) := by
    have := heap_alloc_new w.drew (.cells (olds.toArray ++ news.toArray ++ Builtin.zeroCells z.cells (C - (l0.length + l.length))) e)
    rw [e1]
    simpa using this
   have := RBr_grown (w := w) (z := z.cells) (xs := olds ++ news) (by rw [e1]; omega) hxl (ho.els.append ho.len hs.els) (by rw [hzs, hc]) (by rw [e1]; exact hg1) hg2 hh
   rw [e1] at this
   exact this
  ·simp only [ownB] at hk
   split at hk
   ·simp at hk
   ·simp only [Option.some.injEq] at hk
    subst hk
    exact ⟨.inr (Nat.le_refl _), hsize⟩
 have none_ : ∀ {b : Option Addr} {cap : Nat}, s = .slice b l0.length cap -> l0.length <= cap -> l = [] -> (Builtin.append_ ts ty #[s, x]).run P w = .ok s w := fun {b cap} hsv hle hl => by
  subst hsv hl
  exact app_none ht hi htx ts hts ty hle hc hs
 rcases hrow with ⟨hrb, hob⟩ | ⟨b, olds, hsv, ho, hcase⟩
 ·have hrb' := hrb
  rcases hrb with ⟨h0, ⟨b, hb'⟩, hl0⟩ | ⟨k, cap, cur, hr, hcap0, hlc, hcm, hh, hsz, hl⟩
  ·by_cases hle : l = []
   ·refine ⟨s, w, none_ (by rw [hb', hl0]; rfl) (by simp [hl0]) hle, Keeps.refl _ _, by rw [hle, List.append_nil]; exact hrb', fun k hk => by rw [hb'] at hk; cases b <;> simp [ownB] at hk⟩
   ·have hpos : 0 < l.length := List.length_pos_iff.2 hle
    have hsrc : Src P w (Gd F m st.b) c l0 s [] := by rw [hb', hl0]; exact src_empty _ _
    exact grow (by rw [hb', hl0]; rfl) hsrc (by omega)
  ·have hks : ownB s = some k := by simp [hr, ownB]; omega
   have hok := hob k hks
   by_cases hroom : l0.length + l.length <= cap
   ·subst hr
    have hfit : l0.length * c + news.length <= cur.size := by
     rw [hnews, hsz, <- Nat.add_mul]; exact Nat.mul_le_mul_right _ hroom
    have hrun := app_room ht hi htx ts hts ty hh hc hs hroom hfit
    have hkp := (Keeps.setRow w k (cur.toList.take (l0.length * c) ++ news ++ cur.toList.drop (l0.length * c + news.length)).toArray).mono (Y := fun k => Y k) (fun k' hk' => by subst hk'; exact hok)
    refine ⟨_, _, hrun, hkp, ?_, fun k' hk' => ?_⟩
    ·have e1 : l0.length + l.length = (l0 ++ l).length := by simp
     rw [e1]
     have e2 : ∀ n, (cur.toList.take (l0.length * c) ++ news ++ cur.toList.drop (l0.length * c + news.length)).toArray[n]? = if l0.length * c <= n /\ n < l0.length * c + news.length then news[n - l0.length * c]? else cur[n]? := fun n => by
      have := splice_get cur.toList news (l0.length * c) n (by simpa using hfit)
      rw [List.getElem?_toArray, this]
      simp
     refine .inr ⟨k, cap, _, rfl, hcap0, by rw [<- e1]; exact hroom, hcm, setRow_heap w _ _ _ _ _ hh, by simp; omega, fun i' el hi' => ?_⟩
     by_cases hlt : i' < l0.length
     ·rw [List.getElem?_append_left hlt] at hi'
      refine ⟨(hl i' el hi').1, fun j p hj => ?_⟩
      obtain ⟨h1, u, h2, h3⟩ := (hl i' el hi').2 j p hj
      refine ⟨h1, u, ?_, h3⟩
      have hjj := (List.getElem?_eq_some_iff.1 hj).1
      rw [(hl i' el hi').1] at hjj
      have : (i' + 1) * c <= l0.length * c := Nat.mul_le_mul_right _ hlt
      rw [Nat.add_mul, Nat.one_mul] at this
      exact (e2 _).trans (by rw [if_neg (by omega)]; exact h2)
     ·rw [List.getElem?_append_right (by omega)] at hi'
      refine ⟨(hs.els _ el hi').1, fun j p hj => ?_⟩
      obtain ⟨h1, u, h2, h3⟩ := (hs.els _ el hi').2 j p hj
      refine ⟨h1, u, ?_, h3⟩
      have h2' : news[(i' - l0.length) * c + j]? = some u := h2
      have hlt2 := (List.getElem?_eq_some_iff.1 h2').1
      have e3 : (i' - l0.length) * c = i' * c - l0.length * c := Nat.sub_mul _ _ _
      have : l0.length * c <= i' * c := Nat.mul_le_mul_right _ (by omega)
      exact (e2 _).trans (by rw [if_pos (by omega), show i' * c + j - l0.length * c = (i' - l0.length) * c + j from by omega]; exact h2')
    ·simp only [ownB, if_neg (show ¬ cap = 0 by omega), Option.some.injEq] at hk'
     subst hk'
     exact ⟨.inl hok, by simp; exact lt_of_heap hh⟩
   ·have hsrc : ∃ olds, Src P w (Gd F m st.b) c l0 s olds := by
     rw [hr]
     refine src_of_cells hc0 (fun i el hi => ⟨(hl i el hi).1, fun j p hj => ?_⟩)
     obtain ⟨h1, u, h2, h3⟩ := (hl i el hi).2 j p hj
     exact ⟨h1, u, by simpa [World.cell?, hh] using h2, h3⟩
    obtain ⟨olds, ho⟩ := hsrc
    exact grow hr ho (by omega)
 ·by_cases hle : l = []
  ·rcases hcase with h1 | ⟨h1, h2⟩
   ·exact absurd hle h1
   ·refine ⟨s, w, none_ hsv (Nat.le_refl _) hle, Keeps.refl _ _, by rw [hle, h1]; exact .inl ⟨h2, ⟨b, by rw [hsv, h1]; rfl⟩, rfl⟩, fun k hk => ?_⟩
    rw [hsv, h1] at hk
    cases b with
    | none => simp [ownB] at hk
    | some b => simp [ownB] at hk
  ·have hpos : 0 < l.length := List.length_pos_iff.2 hle
   exact grow hsv ho (by omega)
end
end Go.Av
