/- Texts that the proof needs: NU1. -/
import Derived.Test.YtjekjpgccnhobaaDoorP16ConfigBack
import Derived.Test.YtjekjpgccnhobaaDoorP18ConfigBack
import Derived.Test.YtjekjpgccnhobaaDoorP19ConfigBack
import Derived.WalkKit
import Derived.Laws.RangeString
import Derived.Laws.RangeAny
import Derived.LoopTactic
/- The number that a text begins with: what it is. -/
namespace Go.Proofs.YtjekjpgccnhobaaDoor
set_option linter.unusedSimpArgs false
set_option linter.unusedVariables false
open Go Go.Av Go.RowKit
def isD (b : UInt8) : Bool := decide (48 ≤ b.toNat ∧ b.toNat ≤ 57)
def dgN (l : List UInt8) : Nat := ((l.takeWhile isD).take 3).length
def valD (l : List UInt8) : Int := l.foldl (fun n b => 10 * n + ((b.toNat : Int) - 48)) 0
def yG (l : List UInt8) : Int := if dgN l = 0 ∨ (1 < dgN l ∧ l.head? = some 48) then -1 else valD (l.take (dgN l))
def yB (l : List UInt8) : List UInt8 := l.drop (dgN l)
theorem tw_take (p : UInt8 → Bool) : ∀ (l : List UInt8) (k : Nat), k ≤ (l.takeWhile p).length → (l.takeWhile p).take k = l.take k
  | [],k,h=>by simp
  | b :: l, k, h => by
    cases k with
    | zero=>simp
    | succ k =>
      cases hb : p b with
      | true =>
        simp only [List.takeWhile_cons,hb,if_true,List.length_cons] at h ⊢
        rw [List.take_succ_cons,List.take_succ_cons,tw_take p l k (by omega)]
      | false=>simp [List.takeWhile_cons,hb] at h
theorem tw_stop (p : UInt8 → Bool) : ∀ (l : List UInt8) (k : Nat) (b : UInt8), k ≤ (l.takeWhile p).length → l[k]? = some b → (p b = false → (l.takeWhile p).length = k) ∧ (p b = true → k < (l.takeWhile p).length)
  | [],k,b,h,hk=>by simp at hk
  | a :: l, k, b, h, hk => by
    cases ha : p a with
    | false =>
      simp only [List.takeWhile_cons,ha] at h ⊢
      have : k = 0:=by simpa using h
      subst this
      simp at hk;subst hk
      simp [ha]
    | true =>
      simp only [List.takeWhile_cons,ha,if_true,List.length_cons] at h ⊢
      cases k with
      | zero=>simp at hk;subst hk;simp [ha]
      | succ k =>
        have:=tw_stop p l k b (by omega) (by simpa using hk)
        exact ⟨fun h1=>by have:=this.1 h1;omega,fun h1=>by have:=this.2 h1;omega⟩
theorem dgN_eq (l : List UInt8) : dgN l = min 3 (l.takeWhile isD).length := by simp [dgN]
theorem dg_stop {l : List UInt8} {k : Nat} (hk : k ≤ dgN l) (h : k = 3 ∨ (∃ b, l[k]? = some b ∧ isD b = false) ∨ l.length ≤ k) : dgN l = k := by
  rw [dgN_eq] at hk ⊢
  rcases h with rfl | ⟨b,hb,hd⟩ | h
  · omega
  · have:=(tw_stop isD l k b (by omega) hb).1 hd;omega
  · have : (l.takeWhile isD).length ≤ l.length := (List.takeWhile_sublist _).length_le
    omega
theorem dg_go {l : List UInt8} {k : Nat} {b : UInt8} (hk : k ≤ dgN l) (h3 : ¬ k = 3) (hb : l[k]? = some b) (hd : isD b = true) : k + 1 ≤ dgN l := by
  rw [dgN_eq] at hk ⊢
  have:=(tw_stop isD l k b (by omega) hb).2 hd;omega
theorem valD_snoc {l : List UInt8} {k : Nat} {b : UInt8} (hb : l[k]? = some b) : valD (l.take (k + 1)) = 10 * valD (l.take k) + ((b.toNat : Int) - 48) := by
  rw [List.take_add_one,hb]
  simp [valD,List.foldl_append]
theorem valD_le : ∀ (k : Nat) (l : List UInt8), k ≤ dgN l → 0 ≤ valD (l.take k) ∧ valD (l.take k) < 10 ^ k
  | 0,l,_=>by simp [valD]
  | k + 1, l, h => by
    obtain ⟨h1,h2⟩:=valD_le k l (by omega)
    have h4:=h
    rw [dgN_eq] at h4
    have hl : k < (l.takeWhile isD).length:=by omega
    have hl2 : (l.takeWhile isD).length ≤ l.length:=(List.takeWhile_sublist _).length_le
    have hb : l[k]? = some (l[k]'(by omega)):=List.getElem?_eq_getElem _
    have hd : isD (l[k]'(by omega)) = true := by
      cases hd : isD (l[k]'(by omega)) with
      | true=>rfl
      | false=>have:=(tw_stop isD l k _ (by omega) hb).1 hd;omega
    rw [valD_snoc hb]
    simp only [isD,decide_eq_true_eq] at hd
    have : (10 : Int) ^ (k + 1) = 10 ^ k * 10:=Int.pow_succ 10 k
    omega
theorem valD_lt {k : Nat} {l : List UInt8} (h : k ≤ dgN l) : 0 ≤ valD (l.take k) ∧ valD (l.take k) < 1000 := by
  have h1:=valD_le k l h
  have h3 : k ≤ 3:=by rw [dgN_eq] at h;omega
  have : (10 : Int) ^ k ≤ 1000 := by
    match k,h3 with
    | 0,_=>decide
    | 1,_=>decide
    | 2,_=>decide
    | 3,_=>decide
  omega
theorem zF {w : World} (s : ByteArray) (pos : Nat) : Keeps (fun _ => False) w (w.iter s pos) := by
  refine ⟨rfl,rfl,rfl,?_,fun i hi _=>?_⟩
  · show w.heap.size ≤ (w.heap.push _).size
    simp
  · show (w.heap.push _)[i]? = w.heap[i]?
    rw [Array.getElem?_push_lt hi,Array.getElem?_eq_getElem hi]
theorem numI_neg {l : List UInt8} {k : Nat} (hD : dgN l = k) (h : k = 0 ∨ (1 < k ∧ ∃ h0 : 0 < l.length, ((l[0]'h0).toNat : Int) = 48)) : yG l = -1 := by
  unfold yG
  rw [hD]
  refine if_pos (h.imp id fun ⟨h1,h0,h2⟩=>⟨h1,?_⟩)
  rw [List.head?_eq_getElem?,List.getElem?_eq_getElem h0]
  congr 1
  exact UInt8.toNat_inj.1 (by rw [show (48 : UInt8).toNat = 48 from rfl];omega)
theorem numI_pos {l : List UInt8} {k : Nat} (hD : dgN l = k) (h : ¬ k = 0 ∧ (k ≤ 1 ∨ ∃ h0 : 0 < l.length, ¬ ((l[0]'h0).toNat : Int) = 48)) : yG l = valD (l.take k) := by
  unfold yG
  rw [hD]
  refine if_neg (fun g=>g.elim h.1 fun ⟨g1,g2⟩=>?_)
  rcases h.2 with h | ⟨h0,h⟩
  · omega
  · rw [List.head?_eq_getElem?, List.getElem?_eq_getElem h0, xA] at g2
    rw [g2] at h
    exact h rfl
theorem numR_eq {l : List UInt8} {k : Nat} (hD : dgN l = k) : yB l = l.drop k := by unfold yB; rw [hD]
theorem dec_dig {l : List UInt8} {k : Nat} (h : k < l.length) : (isD l[k] = true ∧ Utf8.decode (bs l) k = (l[k].toNat, 1) ∧ 48 ≤ l[k].toNat ∧ l[k].toNat ≤ 57) ∨ (isD l[k] = false ∧ ((Utf8.decode (bs l) k).1 < 48 ∨ 57 < (Utf8.decode (bs l) k).1)) := by
  have hs : k < (bs l).size:=by simpa using h
  have e : (bs l)[k]'hs = l[k]:=rfl
  by_cases ha : ((bs l)[k]'hs).toNat < 128
  · have hdec := decode_ascii (bs l) k hs ha
    rw [e] at hdec
    cases hd : isD l[k] with
    | true =>
      have:=hd
      simp only [isD,decide_eq_true_eq] at this
      exact .inl ⟨rfl,hdec,this.1,this.2⟩
    | false =>
      have:=hd
      simp only [isD,decide_eq_false_iff_not] at this
      refine .inr ⟨rfl,?_⟩
      rw [hdec]
      dsimp only
      omega
  · have h2 := decode_high (bs l) k hs (by omega)
    rw [e] at ha
    refine .inr ⟨?_,.inr (by omega)⟩
    simp only [isD,decide_eq_false_iff_not]
    omega
set_option maxRecDepth 1000000 in
set_option maxHeartbeats 4000000 in
theorem number_walk (l : List UInt8) (hl : l.length ≤ 9223372036854775807) (w : World) :
    Calls Tryd.prog 42 #[.string (bs l)] w fun e w'=>e = .returned (.tuple #[.int .i64 (yG l),.string (bs (yB l))]) ∧ Keeps (fun _=>False) w w':=by
  have hsz : (bs l).size = l.length:=by simp
  go_enter Tryd.func42,Tryd.ntmps42
  go_wp2
  go_loopw [4,5] (fun n en w'=>∃ pos : Nat,w' = w.iter (bs l) pos ∧ n = .int .i64 (valD (l.take pos)) ∧ en = .int .i64 pos ∧ pos ≤ dgN l) (fun _ _ w'=>l.length - w'.iterPos w.heap.size)
  case atStart=>exact ⟨0,rfl,rfl,rfl,Nat.zero_le _⟩
  case round =>
    obtain ⟨pos,rfl,rfl,rfl,hp⟩:=hrel
    have hp3 : pos ≤ 3:=by rw [dgN_eq] at hp;omega
    have hpl : pos ≤ l.length := by
      rw [dgN_eq] at hp
      have:=(List.takeWhile_sublist isD (l:=l)).length_le;omega
    by_cases hlt : pos < l.length
    · have hlt' : pos < (bs l).size := by omega
      have hb : l[pos]? = some l[pos]:=List.getElem?_eq_getElem hlt
      have hnx : ∀ ty,(Instr.next (.pointer (some ⟨w.heap.size,0,none⟩)) true ty).run Tryd.prog (w.iter (bs l) pos) = _:=fun ty=>run_next_any w (bs l) pos ty hlt'
      rcases dec_dig hlt with ⟨hd,he,hd1,hd2⟩ | ⟨hd,hc⟩
      · by_cases h3 : pos = 3
        · have hD : dgN l = pos := dg_stop hp (.inl h3)
          have hR:=numR_eq hD
          have h3' : 3 ≤ pos:=by omega
          clear h3
          rw [he] at hnx
          go_wp2
          all_goals (first|(exfalso;omega)|(exfalso;simp at *;omega)|(have hI:=numI_neg hD (.inl (by omega));go_region;all_goals (go_wp2;go_ret2;exact ⟨by simp_all,⟨rfl,rfl,rfl,(zF (bs l) _).size,(zF (bs l) _).block⟩⟩))|(have hI:=numI_neg hD (.inr ⟨by omega,by omega,by simp at *;omega⟩);go_region;all_goals (go_wp2;go_ret2;exact ⟨by simp_all,⟨rfl,rfl,rfl,(zF (bs l) _).size,(zF (bs l) _).block⟩⟩))|(have hI:=numI_pos hD ⟨by omega,.inr ⟨by omega,by simp at *;omega⟩⟩;go_region;all_goals (go_wp2;go_ret2;exact ⟨by simp_all,⟨rfl,rfl,rfl,(zF (bs l) _).size,(zF (bs l) _).block⟩⟩))|(have hI:=numI_pos hD ⟨by omega,.inl (by omega)⟩;go_region;all_goals (go_wp2;go_ret2;exact ⟨by simp_all,⟨rfl,rfl,rfl,(zF (bs l) _).size,(zF (bs l) _).block⟩⟩)) | skip)
        · rw [he] at hnx
          have hv:=valD_lt hp
          go_wp2
          all_goals (first|(exfalso;omega)|(exfalso;simp at *;omega) | skip)
          exact ⟨⟨pos + 1,rfl,(valD_snoc hb).symm,by omega,dg_go hp h3 hb hd⟩,by omega⟩
      · have hD : dgN l = pos := dg_stop hp (.inr (.inl ⟨_, hb, hd⟩))
        have hR:=numR_eq hD
        go_wp2
        all_goals (first|(exfalso;omega)|(exfalso;simp at *;omega)|(have hI:=numI_neg hD (.inl (by omega));go_region;all_goals (go_wp2;go_ret2;exact ⟨by simp_all,⟨rfl,rfl,rfl,(zF (bs l) _).size,(zF (bs l) _).block⟩⟩))|(have hI:=numI_neg hD (.inr ⟨by omega,by omega,by simp at *;omega⟩);go_region;all_goals (go_wp2;go_ret2;exact ⟨by simp_all,⟨rfl,rfl,rfl,(zF (bs l) _).size,(zF (bs l) _).block⟩⟩))|(have hI:=numI_pos hD ⟨by omega,.inr ⟨by omega,by simp at *;omega⟩⟩;go_region;all_goals (go_wp2;go_ret2;exact ⟨by simp_all,⟨rfl,rfl,rfl,(zF (bs l) _).size,(zF (bs l) _).block⟩⟩))|(have hI:=numI_pos hD ⟨by omega,.inl (by omega)⟩;go_region;all_goals (go_wp2;go_ret2;exact ⟨by simp_all,⟨rfl,rfl,rfl,(zF (bs l) _).size,(zF (bs l) _).block⟩⟩)) | skip)
    · have hnx : ∀ ty, (Instr.next (.pointer (some ⟨w.heap.size, 0, none⟩)) true ty).run Tryd.prog (w.iter (bs l) pos) = _ := fun ty => run_next_end w (bs l) pos ty (by omega)
      have hD : dgN l = pos:=dg_stop hp (.inr (.inr (by omega)))
      have hR:=numR_eq hD
      go_wp2
      all_goals (first|(exfalso;omega)|(exfalso;simp at *;omega)|(have hI:=numI_neg hD (.inl (by omega));go_region;all_goals (go_wp2;go_ret2;exact ⟨by simp_all,⟨rfl,rfl,rfl,(zF (bs l) _).size,(zF (bs l) _).block⟩⟩))|(have hI:=numI_neg hD (.inr ⟨by omega,by omega,by simp at *;omega⟩);go_region;all_goals (go_wp2;go_ret2;exact ⟨by simp_all,⟨rfl,rfl,rfl,(zF (bs l) _).size,(zF (bs l) _).block⟩⟩))|(have hI:=numI_pos hD ⟨by omega,.inr ⟨by omega,by simp at *;omega⟩⟩;go_region;all_goals (go_wp2;go_ret2;exact ⟨by simp_all,⟨rfl,rfl,rfl,(zF (bs l) _).size,(zF (bs l) _).block⟩⟩))|(have hI:=numI_pos hD ⟨by omega,.inl (by omega)⟩;go_region;all_goals (go_wp2;go_ret2;exact ⟨by simp_all,⟨rfl,rfl,rfl,(zF (bs l) _).size,(zF (bs l) _).block⟩⟩)) | skip)
end Go.Proofs.YtjekjpgccnhobaaDoor
