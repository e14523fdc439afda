/- Texts that the proof needs: AvSrc. -/
import Derived.Laws.Cover4
import Derived.Laws.Runes
import Derived.Test.YthiccfadhllajaaP2JudgePrimary
import Derived.Laws.BytesString
import Derived.Lib.ConvBytes
namespace Go.Av
set_option linter.unusedSimpArgs false
set_option linter.unusedVariables false
open Go
def bytesL (s : ByteArray) : List (List PV) := s.data.toList.map fun b => [.v (.int .u8 b.toNat)]
theorem bytesL_len (s : ByteArray) : (bytesL s).length = s.size := by simp [bytesL]
def unL : List (List PV) -> Option (List Int)
 | [] => some []
 | [.v (.int .u8 n)] :: l => match unL l with
  | some ns => some (n :: ns)
  | none => none
 | _ => none
def strOf (ns : List Int) : ByteArray := ns.foldl (fun r n => r.push (UInt8.ofNat n.toNat)) ByteArray.empty
def SrcT (P : Program) (tx : TypeId) : Prop := (∃ ex, P.underlying tx = some (.slice ex)) \/ P.underlying tx = some .string
def EL (w : World) (G : Nat -> Prop) (c : Nat) (l : List (List PV)) (get : Nat -> Option Value) : Prop :=
 ∀ (i : Nat) (el : List PV), l[i]? = some el -> el.length = c /\ ∀ (j : Nat) (p : PV), el[j]? = some p -> p.one = true /\ ∃ u, get (i * c + j) = some u /\ RP w G p u
def srcL (st : St) (c : Nat) : V -> Option (List (List PV))
 | .p (.sl c' l) => if c' = c then some l else none
 | .full c' l => if c' = c then some l else none
 | .nil _ => some []
 | .row b => match st.b b with
  | some (.row _ c' l) => if c' = c then some l else none
  | _ => none
 | .p (.v (.string s)) => if c = 1 then some (bytesL s) else none
 | _ => none
structure Src (P : Program) (w : World) (G : Nat -> Prop) (c : Nat) (l : List (List PV)) (x : Value) (news : List Value) : Prop where
 shape : (∃ b cap, x = .slice b l.length cap) \/ ∃ s, x = .string s /\ l = bytesL s
 len : news.length = l.length * c
 first : ∀ W : World, W.heap = w.heap -> (Builtin.firstCells c l.length x).run P W = .ok news.toArray W
 one : ∀ v ∈ news, v.oneCell' = true
 els : EL w G c l (fun n => news[n]?)
section
variable {P : Program} {T : TypeId -> Option Ty} {w0 : World} {m0 : Nm} {F X : Nat -> Prop} {N : Nat} {st : St} {a : Act} {w : World} {m : Nm}
theorem Rel.gd_lt' [Glob] (h : Rel w0 m0 F X N st a w m) : ∀ k, Gd F m st.b k -> k < w.heap.size := fun k hg => by
 rcases hg with hf | ⟨b, hb⟩
 ·exact Nat.lt_of_lt_of_le (h.fold k hf) h.keeps.size
 ·exact (h.own b k hb).2.1
theorem RV.scal {G : Nat -> Prop} {x q : Value} (h : RV w G m (.p (.v x)) q) : q = x := by
 cases (show RP w _ _ q from h); rfl
theorem cell_heap {W w : World} (h : W.heap = w.heap) (a : Addr) : W.cell? a = w.cell? a := by simp [World.cell?, h]
theorem src_of_cells [Glob] {G : Nat -> Prop} {c : Nat} (hc : 0 < c) {l : List (List PV)} {k off cap : Nat} (he : ∀ (i : Nat) (e : List PV), l[i]? = some e -> e.length = c /\ REc w G e k (off + i * c)) :
 ∃ news, Src P w G c l (.slice (some ⟨k, off, none⟩) l.length cap) news := by
 have hcell : ∀ n, n < l.length * c -> ∃ (p : PV) (u : Value), w.cell? ⟨k, off + n, none⟩ = some u /\ p.one = true /\ RP w G p u := fun n hn => by
  have hi : n / c < l.length := (Nat.div_lt_iff_lt_mul hc).2 hn
  have hj : n % c < c := Nat.mod_lt _ hc
  obtain ⟨h1, h2⟩ := he (n / c) l[n / c] (List.getElem?_eq_getElem hi)
  obtain ⟨h3, u, h4, h5⟩ := h2 (n % c) (l[n / c][n % c]'(by omega)) (List.getElem?_eq_getElem (by omega))
  refine ⟨_, u, ?_, h3, h5⟩
  have e : off + n / c * c + n % c = off + n := by
   have := Nat.div_add_mod n c
   rw [Nat.mul_comm] at this; omega
  rw [<- e]; exact h4
 refine ⟨(List.range (l.length * c)).map fun n => (w.cell? ⟨k, off + n, none⟩).getD undef, .inl ⟨_, _, rfl⟩, by simp, fun W hW => ?_, fun v hv => ?_, fun i el hi => ⟨(he i el hi).1, fun j p hj => ?_⟩⟩
 ·refine run_firstCells_some W c l.length _ l.length cap _ (by simp) (fun j v hj => ?_)
  rw [List.getElem?_map] at hj
  by_cases hjl : j < l.length * c
  ·rw [List.getElem?_range hjl] at hj
   simp only [Option.map_some, Option.some.injEq] at hj
   obtain ⟨p, u, h1, -, -⟩ := hcell j hjl
   rw [addr_add, cell_heap hW, <- hj, h1]; rfl
  ·rw [List.getElem?_eq_none (by simpa using hjl)] at hj; simp at hj
 ·obtain ⟨n, hn, rfl⟩ := List.mem_map.1 hv
  obtain ⟨p, u, h1, h2, h3⟩ := hcell n (by simpa using hn)
  rw [h1]; exact h3.oneCell h2
 ·obtain ⟨h1, u, h2, h3⟩ := (he i el hi).2 j p hj
  have hil := (List.getElem?_eq_some_iff.1 hi).1
  have hjl := (List.getElem?_eq_some_iff.1 hj).1
  rw [(he i el hi).1] at hjl
  have hb : (i + 1) * c <= l.length * c := Nat.mul_le_mul_right _ hil
  rw [Nat.add_mul, Nat.one_mul] at hb
  refine ⟨h1, u, ?_, h3⟩
  show ((List.range (l.length * c)).map fun n => (w.cell? ⟨k, off + n, none⟩).getD undef)[i * c + j]? = some u
  rw [Nat.add_assoc] at h2
  rw [List.getElem?_map, List.getElem?_range (by omega)]
  simp [h2]
theorem src_empty {G : Nat -> Prop} {c : Nat} (b : Option Addr) (cap : Nat) : Src P w G c [] (.slice b 0 cap) [] := by
 refine ⟨.inl ⟨b, cap, rfl⟩, by simp, fun W _ => ?_, fun v hv => by simp at hv, fun i el hi => by simp at hi⟩
 cases b with
 | none => simp [Builtin.firstCells]
 | some b => simp [Builtin.firstCells, loadCells, loadCellsFrom]
theorem src_RP [Glob] {G : Nat -> Prop} {c : Nat} (hc : 0 < c) {l : List (List PV)} {x : Value} (h : RP w G (.sl c l) x) : ∃ news, Src P w G c l x news := by
 rcases h.slI with ⟨b0, rfl, rfl⟩ | ⟨k, off, cap, rfl, -, -, -, h4⟩
 ·exact ⟨[], src_empty _ _⟩
 ·exact src_of_cells hc h4
theorem srcL_run [Glob] (h : Rel w0 m0 F X N st a w m) {c : Nat} (hc : 0 < c) {v : V} {l : List (List PV)} (hv : srcL st c v = some l) {x : Value} (hx : RV w (Gd F m st.b) m v x) : ∃ news, Src P w (Gd F m st.b) c l x news := by
 unfold srcL at hv
 split at hv
 ·split at hv
  ·simp only [Option.some.injEq] at hv; subst hv; rename_i h1; subst h1; exact src_RP hc hx
  ·simp at hv
 ·split at hv
  ·simp only [Option.some.injEq] at hv; subst hv; rename_i h1; subst h1; exact src_RP hc hx.1
  ·simp at hv
 ·simp only [Option.some.injEq] at hv; subst hv
  rw [show x = .slice none 0 0 from hx]
  exact ⟨[], src_empty _ _⟩
 ·rename_i b
  split at hv
  ·rename_i e c' l' hb
   split at hv
   ·rename_i h1
    subst h1
    simp only [Option.some.injEq] at hv; subst hv
    rw [show x = m.r b from hx]
    rcases h.blks b _ hb with ⟨-, ⟨a', ha⟩, hl0⟩ | ⟨g, cap, cur, hr, hc0, hlc, hcm, hh, hs, hl⟩
    ·rw [ha, hl0]; exact ⟨[], src_empty _ _⟩
    ·rw [hr]
     refine src_of_cells hc (fun i el hi => ⟨(hl i el hi).1, fun j p hj => ?_⟩)
     obtain ⟨h1, u, h2, h3⟩ := (hl i el hi).2 j p hj
     exact ⟨h1, u, by simpa [World.cell?, hh] using h2, h3⟩
   ·simp at hv
  ·simp at hv
 ·rename_i s
  split at hv
  ·rename_i h1
   subst h1
   simp only [Option.some.injEq] at hv; subst hv
   have hx := RV.scal hx
   subst hx
   refine ⟨s.data.toList.map fun b => .int .u8 b.toNat, .inr ⟨s, rfl, rfl⟩, by simp [bytesL], fun W _ => ?_, fun v hv => ?_, fun i e hi => ?_⟩
   ·have : (bytesL s).length = s.size := bytesL_len s
    simp [Builtin.firstCells, this]
    apply Array.ext'
    simp
   ·obtain ⟨b, -, rfl⟩ := List.mem_map.1 hv; rfl
   ·simp only [bytesL, List.getElem?_map, Option.map_eq_some_iff] at hi
    obtain ⟨b, hb, rfl⟩ := hi
    refine ⟨rfl, fun j p hj => ?_⟩
    cases j with
    | zero =>
     simp at hj; subst hj
     exact ⟨rfl, .int .u8 b.toNat, by simp [hb], .v _ rfl⟩
    | succ j => simp at hj
  ·simp at hv
 ·simp at hv
theorem bytes_run {G : Nat -> Prop} {l : List (List PV)} {x : Value} {news : List Value} (hs : Src P w G 1 l x news) (hx : ∃ b n c, x = .slice b n c) {ns : List Int} (hn : unL l = some ns) {src dst e : TypeId}
 (h1 : P.underlying src = some (.slice e)) (h2 : P.underlying e = some (.int .u8)) (h3 : P.underlying dst = some .string) : (convert src dst x).run P w = .ok (.string (strOf ns)) w := by
 have hnews : ∀ (l : List (List PV)) (ns : List Int) (news : List Value), unL l = some ns -> news.length = l.length * 1 -> EL w G 1 l (fun n => news[n]?) -> news = ns.map (Value.int .u8) := by
  intro l
  induction l with
  | nil => intro ns news hn hl _; simp [unL] at hn; subst hn; simpa using List.length_eq_zero_iff.1 (by simpa using hl)
  | cons el l ih =>
   intro ns news hn hl he
   unfold unL at hn
   split at hn
   ·simp at *
   ·rename_i n l' heq
    simp only [List.cons.injEq] at heq
    obtain ⟨rfl, rfl⟩ := heq
    split at hn
    ·rename_i ns' hns
     simp only [Option.some.injEq] at hn; subst hn
     cases news with
     | nil => simp at hl
     | cons v news =>
      obtain ⟨-, h0⟩ := he 0 _ rfl
      obtain ⟨-, u, hu, hr⟩ := h0 0 _ rfl
      simp at hu; subst hu
      cases hr
      rw [List.map_cons, ih ns' news hns (by simpa using hl) fun i e hi => ?_]
      obtain ⟨g1, g2⟩ := he (i + 1) e (by simpa using hi)
      exact ⟨g1, fun j p hj => by
       obtain ⟨k1, u, k2, k3⟩ := g2 j p hj
       exact ⟨k1, u, by rw [show (i + 1) * 1 + j = (i * 1 + j) + 1 by omega] at k2; simpa using k2, k3⟩⟩
    ·simp at hn
   ·simp at hn
 have hnw := hnews l ns news hn hs.len hs.els
 subst hnw
 have hf := hs.first w rfl
 rcases hs.shape with ⟨b, cap, rfl⟩ | ⟨s, rfl, -⟩
 ·rw [run_convert_bytes_string w src dst e b _ cap h1 h2 h3]
  cases b with
  | none =>
   have h0 : (ns.map (Value.int .u8)) = [] := by simpa [Builtin.firstCells] using hf.symm
   have : ns = [] := by simpa using h0
   subst this
   simp [Conv.bytesToString, strOf]
  | some a =>
   exact run_bytesToString w a _ cap ns (by simpa [Builtin.firstCells] using hf)
 ·obtain ⟨b, n, c, hx⟩ := hx
  simp at hx
def unR : List (List PV) -> Option (List Int)
 | [] => some []
 | [.v (.int .i32 n)] :: l => match unR l with
  | some ns => some (n :: ns)
  | none => none
 | _ => none
theorem runes_run {G : Nat -> Prop} {l : List (List PV)} {x : Value} {news : List Value} (hs : Src P w G 1 l x news) (hx : ∃ b n c, x = .slice b n c) {ns : List Int} (hn : unR l = some ns) {src dst e : TypeId}
 (h1 : P.underlying src = some (.slice e)) (h2 : P.underlying e = some (.int .i32)) (h3 : P.underlying dst = some .string) : (convert src dst x).run P w = .ok (.string (Go.runesBytes ns)) w := by
 have hnews : ∀ (l : List (List PV)) (ns : List Int) (news : List Value), unR l = some ns -> news.length = l.length * 1 -> EL w G 1 l (fun n => news[n]?) -> news = ns.map (Value.int .i32) := by
  intro l
  induction l with
  | nil => intro ns news hn hl _; simp [unR] at hn; subst hn; simpa using List.length_eq_zero_iff.1 (by simpa using hl)
  | cons el l ih =>
   intro ns news hn hl he
   unfold unR at hn
   split at hn
   ·simp at *
   ·rename_i n l' heq
    simp only [List.cons.injEq] at heq
    obtain ⟨rfl, rfl⟩ := heq
    split at hn
    ·rename_i ns' hns
     simp only [Option.some.injEq] at hn; subst hn
     cases news with
     | nil => simp at hl
     | cons v news =>
      obtain ⟨-, h0⟩ := he 0 _ rfl
      obtain ⟨-, u, hu, hr⟩ := h0 0 _ rfl
      simp at hu; subst hu
      cases hr
      rw [List.map_cons, ih ns' news hns (by simpa using hl) fun i e hi => ?_]
      obtain ⟨g1, g2⟩ := he (i + 1) e (by simpa using hi)
      exact ⟨g1, fun j p hj => by
       obtain ⟨k1, u, k2, k3⟩ := g2 j p hj
       exact ⟨k1, u, by rw [show (i + 1) * 1 + j = (i * 1 + j) + 1 by omega] at k2; simpa using k2, k3⟩⟩
    ·simp at hn
   ·simp at hn
 have hnw := hnews l ns news hn hs.len hs.els
 subst hnw
 have hf := hs.first w rfl
 rcases hs.shape with ⟨b, cap, rfl⟩ | ⟨s, rfl, -⟩
 ·rw [run_convert_runes_string w src dst e b _ cap h1 h2 h3]
  cases b with
  | none =>
   have h0 : (ns.map (Value.int .i32)) = [] := by simpa [Builtin.firstCells] using hf.symm
   have : ns = [] := by simpa using h0
   subst this
   rfl
  | some a =>
   exact run_runesToString w a _ cap ns (by simpa [Builtin.firstCells] using hf)
 ·obtain ⟨b, n, c, hx⟩ := hx
  simp at hx
end
end Go.Av
