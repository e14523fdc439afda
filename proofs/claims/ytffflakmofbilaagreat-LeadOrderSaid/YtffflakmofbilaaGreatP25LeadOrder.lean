/- Texts that the proof needs: QC QD QE QF QG HH IB. -/
import Derived.Test.YtffflakmofbilaaGreatP24LeadOrder
import Derived.Test.YtffflakmofbilaaGreatP18LeadOrder
import Derived.Test.YtffflakmofbilaaGreatP12LeadOrder
import Derived.WalkKit
import Derived.TacticsInMore
import Derived.LoopNIn
import Derived.LoopIn
import Derived.OwnWalkIn
namespace Go.Proofs.YtffflakmofbilaaGreat
set_option linter.unusedSimpArgs false
set_option linter.unusedVariables false
open Go Go.Av
attribute [local irreducible] Go.Av.yA Go.Av.zR Go.Av.xZ Go.Av.zJ Go.Av.xV Go.Av.zG Go.Av.Con
def wsum : List Mb -> Int
 | []=>0
 | m :: l=>(if m.r = 1 then m.w else 0) + wsum l
def cnt : List Mb -> Int
 | []=>0
 | m :: l=>(if m.r = 1 then 1 else 0) + cnt l
theorem sums (kind : Int) (l : List Mb) : ∀ p, fine p l = true -> 0 <= wsum l /\ 0 <= cnt l /\ (cnt l = 0 -> wsum l = 0) /\ (kind = 1 -> wF kind l = decide (0 < cnt l)) /\ (kind ≠ 1 -> wF kind l = decide (0 < wsum l)) := by
 induction l with
 | nil=>intro p h;simp [wsum,cnt,wF]
 | cons m l ih =>
  intro p h
  simp only [fine,Bool.and_eq_true,decide_eq_true_eq] at h
  obtain ⟨⟨ho,hp⟩,hf⟩:=h
  obtain ⟨e1,e2,e3,e4,e5⟩:=ih _ hf
  have hw:=ho.2.2.1
  simp only [wsum,cnt,wF,List.any_cons,carrier] at *
  by_cases hr : m.r = 1
  ·simp only [hr, if_true, decide_true, Bool.true_and]
   refine ⟨by omega,by omega,by omega,fun hk=>?_,fun hk=>?_⟩
   ·simp [hk];omega
   ·rw [e5 hk]
    by_cases g : 0 < m.w
    ·simp [hk,g];omega
    ·simp [hk,show m.w = 0 by omega]
  ·simp only [hr, if_false, decide_false, Bool.false_and, Bool.false_or, Int.zero_add]
   exact ⟨e1,e2,e3,e4,e5⟩
set_option maxHeartbeats 8000000 in
theorem check04_con (c : Cf) (hl : c.ms.length <= 1000000) : zB Tryz.prog 31 [.p (.agg c.cells)] (.p (I (check c))) := by
 obtain ⟨ep,n,kind,l⟩:=c
 simp only [Cf.cells,check,ranged] at hl ⊢
 by_cases g1 : kind < 1
 ·have g1' : ¬ 1 <= kind := by omega
  refine zK Tryz.tab Tryz.mixed Tryz.func31 rfl rfl Tryz.ntmps31 (by simp) (by simp) fun Q hr hn=>?_
  repeat' first|(refine hK _ ?_;clear hK)|(refine zT fun K hK=>?_)|(refine zS ?_;simp only [tZ,tY,strip])|((first | refine wOs fun K hK=>?_ | refine zW ?_);simp [g1])|(refine zL ?_;try simp)|(refine wOn ?_;try simp only [zZ])
  all_goals apply hr
  all_goals simp [Tryz.f31,g1']
 by_cases g2 : 3 < kind
 ·have g2' : ¬ kind <= 3 := by omega
  refine zK Tryz.tab Tryz.mixed Tryz.func31 rfl rfl Tryz.ntmps31 (by simp) (by simp) fun Q hr hn=>?_
  repeat' first|(refine hK _ ?_;clear hK)|(refine zT fun K hK=>?_)|(refine zS ?_;simp only [tZ,tY,strip])|((first | refine wOs fun K hK=>?_ | refine zW ?_);simp [g1,g2])|(refine zL ?_;try simp)|(refine wOn ?_;try simp only [zZ])
  all_goals apply hr
  all_goals simp [Tryz.f31,g2']
 by_cases g3 : ep < 0
 ·have g3' : ¬ 0 <= ep := by omega
  refine zK Tryz.tab Tryz.mixed Tryz.func31 rfl rfl Tryz.ntmps31 (by simp) (by simp) fun Q hr hn=>?_
  repeat' first|(refine hK _ ?_;clear hK)|(refine zT fun K hK=>?_)|(refine zS ?_;simp only [tZ,tY,strip])|((first | refine wOs fun K hK=>?_ | refine zW ?_);simp [g1,g2,g3])|(refine zL ?_;try simp)|(refine wOn ?_;try simp only [zZ])
  all_goals apply hr
  all_goals simp [Tryz.f31,g3']
 by_cases g4 : 1099511627776 < ep
 ·have g4' : ¬ ep <= 1099511627776 := by omega
  refine zK Tryz.tab Tryz.mixed Tryz.func31 rfl rfl Tryz.ntmps31 (by simp) (by simp) fun Q hr hn=>?_
  repeat' first|(refine hK _ ?_;clear hK)|(refine zT fun K hK=>?_)|(refine zS ?_;simp only [tZ,tY,strip])|((first | refine wOs fun K hK=>?_ | refine zW ?_);simp [g1,g2,g3,g4])|(refine zL ?_;try simp)|(refine wOn ?_;try simp only [zZ])
  all_goals apply hr
  all_goals simp [Tryz.f31,g4']
 by_cases g5 : n < 0
 ·have g5' : ¬ 0 <= n := by omega
  refine zK Tryz.tab Tryz.mixed Tryz.func31 rfl rfl Tryz.ntmps31 (by simp) (by simp) fun Q hr hn=>?_
  repeat' first|(refine hK _ ?_;clear hK)|(refine zT fun K hK=>?_)|(refine zS ?_;simp only [tZ,tY,strip])|((first | refine wOs fun K hK=>?_ | refine zW ?_);simp [g1,g2,g3,g4,g5])|(refine zL ?_;try simp)|(refine wOn ?_;try simp only [zZ])
  all_goals apply hr
  all_goals simp [Tryz.f31,g5']
 by_cases g6 : 1099511627776 < n
 ·have g6' : ¬ n <= 1099511627776 := by omega
  refine zK Tryz.tab Tryz.mixed Tryz.func31 rfl rfl Tryz.ntmps31 (by simp) (by simp) fun Q hr hn=>?_
  repeat' first|(refine hK _ ?_;clear hK)|(refine zT fun K hK=>?_)|(refine zS ?_;simp only [tZ,tY,strip])|((first | refine wOs fun K hK=>?_ | refine zW ?_);simp [g1,g2,g3,g4,g5,g6])|(refine zL ?_;try simp)|(refine wOn ?_;try simp only [zZ])
  all_goals apply hr
  all_goals simp [Tryz.f31,g6']
 rw [if_pos ⟨⟨by omega,by omega⟩,⟨by omega,by omega⟩,⟨by omega,by omega⟩⟩]
 refine zK Tryz.tab Tryz.mixed Tryz.func31 rfl rfl Tryz.ntmps31 (by simp) (by simp) fun Q hr hn=>?_
 repeat' first|(refine hK _ ?_;clear hK)|(refine zT fun K hK=>?_)|(refine zS ?_;simp only [tZ,tY,strip])|((first | refine wOs fun K hK=>?_ | refine zW ?_);simp [g1,g2,g3,g4,g5,g6])|(first | refine zU ?_)|(refine zP ?_;try simp)|(refine wOn ?_;try simp only [zZ])
 refine yJ (fun N st => ∃ (k : Nat) (a b : Int), k + N = l.length /\ st.s 1 = .ptr 1 0 /\ st.b 1 = some (.box 28 [.p (I ep), .p (I n), .p (I kind), .p (.sl 4 (mbs l))]) /\ st.s 40 = .p (.sl 4 (mbs l)) /\ st.s 41 = .p (I l.length) /\ st.s 42 = .p (I k) /\ st.s 3 = .p (I a) /\ st.s 4 = .p (I b) /\ fine (prevI l k) (l.drop k) = fine (-1) l ∧
  (0 <= a /\ a <= 100 * k /\ a + wsum (l.drop k) = wsum l) /\ (0 <= b /\ b <= k /\ b + cnt (l.drop k) = cnt l)) l.length ⟨0,0,0,by simp [prevI_zero]⟩ fun K N st hL ⟨k,a,b,hk,h1,b1,h40,h41,h42,h3,h4,hi,⟨ha0,ha1,ha⟩,⟨hb0,hb1,hb⟩⟩=>?_
 by_cases hlt : k < l.length
 ·have hw := yF k _ hlt (by omega)
  have hwb : IntKind.i64.wrap (b + 1) = b + 1:=by rw [yV] <;> omega
  rw [List.drop_eq_getElem_cons hlt,fine] at hi
  rw [List.drop_eq_getElem_cons hlt,wsum] at ha
  rw [List.drop_eq_getElem_cons hlt,cnt] at hb
  have cr:=ok04_con l[k]
  simp only [Mb.cells] at cr
  by_cases o1 : okM l[k]
  ·rw [decide_eq_true o1] at cr
   have hw0:=o1.2.2.1
   have hwa : IntKind.i64.wrap (a + l[k].w) = a + l[k].w:=by rw [yV] <;> omega
   by_cases o2 : 0 < k
   ·have o2' : (0 : Int) < k := by omega
    have hw1 : IntKind.i64.wrap ((k : Int) - 1) = ((k - 1 : Nat) : Int):=by rw [yV] <;> omega
    have hk1 : k - 1 < l.length:=by omega
    rw [prevI_pos l k o2 hlt] at hi
    by_cases o3 : l[k].i <= l[k - 1].i
    ·repeat' first | (refine hK _ ?_; clear hK) | (refine zT fun K hK => ?_) | ((first | refine zS ?_ | refine yZ rfl (by kernel_rfl) ?_); simp only [tZ, tY, strip]) | ((first | refine wOs fun K hK => ?_ | refine wQs fun K hK => ?_ | refine zM ?_ | refine zW ?_); simp [h1, b1, h40, h41, h42, hlt, o2, hw1, hk1, o3]) | (first | refine zU ?_) | ((first | refine zL ?_ | refine zP ?_); try simp) | ((first | refine wOn ?_ | refine wQn ?_); try simp only [zZ]) | (refine zJ.pure (cr) rfl ?_)
     all_goals apply hr
     all_goals simp [Tryz.f31]
     all_goals rw [decide_eq_false (by omega)] at hi
     all_goals simp [<- hi]
    ·rw [decide_eq_true ⟨o1, by omega⟩, Bool.true_and] at hi
     by_cases o4 : l[k].r = 1
     ·rw [o4] at cr
      repeat' first|(refine hK _ ?_;clear hK)|(refine zT fun K hK=>?_)|((first | refine zS ?_ | refine yZ rfl (by kernel_rfl) ?_);simp only [tZ,tY,strip])|((first | refine wOs fun K hK=>?_ | refine wQs fun K hK=>?_ | refine zM ?_ | refine zW ?_);simp [h1,b1,h40,h41,h42,h3,h4,hlt,hw,o2,hw1,hk1,o3,o4,hwa,hwb])|(first | refine zU ?_)|(refine zP ?_;try simp)|((first | refine wOn ?_ | refine wQn ?_);try simp only [zZ])|(refine zJ.pure (cr) rfl ?_)
      refine hL _ (N - 1) (by omega) ⟨k + 1,a + l[k].w,b + 1,by omega,?_⟩
      rw [if_pos o4] at ha hb
      simp [h1,b1,h40,h41]
      rw [prevI_succ l k hlt]
      refine ⟨hi,⟨by omega,by omega,by omega⟩,by omega,by omega⟩
     ·repeat' first | (refine hK _ ?_; clear hK) | (refine zT fun K hK => ?_) | ((first | refine zS ?_ | refine yZ rfl (by kernel_rfl) ?_); simp only [tZ, tY, strip]) | ((first | refine wOs fun K hK => ?_ | refine wQs fun K hK => ?_ | refine zM ?_ | refine zW ?_); simp [h1, b1, h40, h41, h42, hlt, hw, o2, hw1, hk1, o3, o4]) | (first | refine zU ?_) | (refine zP ?_; try simp) | ((first | refine wOn ?_ | refine wQn ?_); try simp only [zZ]) | (refine zJ.pure (cr) rfl ?_)
      refine hL _ (N - 1) (by omega) ⟨k + 1,a,b,by omega,?_⟩
      rw [if_neg o4] at ha hb
      simp [h1,b1,h40,h41,h3,h4]
      rw [prevI_succ l k hlt]
      refine ⟨hi,⟨by omega,by omega,by omega⟩,by omega,by omega,by omega⟩
   ·obtain rfl : k = 0 := by omega
    have:=o1.1.1
    rw [prevI_zero,decide_eq_true ⟨o1,by omega⟩,Bool.true_and] at hi
    simp at h42 hw
    by_cases o4 : l[0].r = 1
    ·rw [o4] at cr
     repeat' first|(refine hK _ ?_;clear hK)|(refine zT fun K hK=>?_)|((first | refine zS ?_ | refine yZ rfl (by kernel_rfl) ?_);simp only [tZ,tY,strip])|((first | refine wOs fun K hK=>?_ | refine wQs fun K hK=>?_ | refine zM ?_ | refine zW ?_);simp [h1,h40,h41,h42,h3,h4,hlt,hw,o4,hwa,hwb])|(first | refine zU ?_)|(refine zP ?_;try simp)|((first | refine wOn ?_ | refine wQn ?_);try simp only [zZ])|(refine zJ.pure (cr) rfl ?_)
     refine hL _ (N - 1) (by omega) ⟨0 + 1,a + l[0].w,b + 1,by omega,?_⟩
     rw [if_pos o4] at ha hb
     rw [prevI_succ l 0 hlt]
     simp [h1,b1,h40,h41]
     rw [<- List.drop_one]
     simp only [Nat.zero_add] at ha hb hi
     refine ⟨hi,⟨by omega,by omega,by omega⟩,by omega,by omega,by omega⟩
    ·repeat' first | (refine hK _ ?_; clear hK) | (refine zT fun K hK => ?_) | ((first | refine zS ?_ | refine yZ rfl (by kernel_rfl) ?_); simp only [tZ, tY, strip]) | ((first | refine wOs fun K hK => ?_ | refine wQs fun K hK => ?_ | refine zM ?_ | refine zW ?_); simp [h1, h40, h41, h42, hlt, hw, o4]) | (first | refine zU ?_) | (refine zP ?_; try simp) | ((first | refine wOn ?_ | refine wQn ?_); try simp only [zZ]) | (refine zJ.pure (cr) rfl ?_)
     refine hL _ (N - 1) (by omega) ⟨0 + 1,a,b,by omega,?_⟩
     rw [if_neg o4] at ha hb
     rw [prevI_succ l 0 hlt]
     simp [h1,b1,h40,h41,h3,h4]
     rw [<- List.drop_one]
     simp only [Nat.zero_add] at ha hb hi
     refine ⟨hi,⟨by omega,by omega,by omega⟩,by omega,by omega,by omega⟩
  ·rw [decide_eq_false o1] at cr
   repeat' first|(refine hK _ ?_;clear hK)|(refine zT fun K hK=>?_)|((first | refine zS ?_ | refine yZ rfl (by kernel_rfl) ?_);simp only [tZ,tY,strip])|((first | refine wOs fun K hK=>?_ | refine wQs fun K hK=>?_ | refine zM ?_ | refine zW ?_);simp [h1,h40,h41,h42,hlt])|(first | refine zU ?_)|((first | refine zL ?_ | refine zP ?_);try simp)|((first | refine wOn ?_ | refine wQn ?_);try simp only [zZ])|(refine zJ.pure (cr) rfl ?_)
   all_goals apply hr
   all_goals simp [Tryz.f31]
   all_goals simp [<- hi,o1]
 ·rw [List.drop_of_length_le (by omega)] at hi ha hb
  have hi' : fine (-1) l = true:=hi ▸ rfl
  obtain ⟨e1,e2,e3,e4,e5⟩:=sums kind l _ hi'
  simp only [wsum,cnt,Int.add_zero] at ha hb
  subst ha hb
  by_cases g5 : cnt l = 0
  ·repeat' first | (refine hK _ ?_; clear hK) | (clear hK; refine hK _ ?_; clear hK) | (refine zT fun K hK => ?_) | (refine zS ?_; simp only [tZ, tY, strip]) | ((first | refine wOs fun K hK => ?_ | refine zW ?_); simp [h1, h41, h42, h3, h4, hlt, g5]) | ((first | refine zL ?_ | refine zC ?_); try simp) | (refine wOn ?_; try simp only [zZ])
   all_goals apply hr
   all_goals simp [Tryz.f31,hi']
   all_goals by_cases g6 : kind = 1
   all_goals first | rw [e4 g6,decide_eq_false (by omega)] | rw [e5 g6,decide_eq_false (by omega)]
   all_goals rfl
  ·by_cases g6 : kind = 1
   ·repeat' first | (refine hK _ ?_; clear hK) | (clear hK; refine hK _ ?_; clear hK) | (refine zT fun K hK => ?_) | (refine zS ?_; simp only [tZ, tY, strip]) | ((first | refine wOs fun K hK => ?_ | refine zW ?_); simp [h1, b1, h41, h42, h3, h4, hlt, g5, g6]) | ((first | refine zL ?_ | refine zC ?_ | refine zP ?_); try simp) | (refine wOn ?_; try simp only [zZ])
    all_goals apply hr
    all_goals simp [Tryz.f31,hi']
    all_goals rw [e4 g6,decide_eq_true (by omega)]
    all_goals rfl
   ·by_cases g7 : wsum l = 0
    ·repeat' first | (refine hK _ ?_; clear hK) | (clear hK; refine hK _ ?_; clear hK) | (refine zT fun K hK => ?_) | (refine zS ?_; simp only [tZ, tY, strip]) | ((first | refine wOs fun K hK => ?_ | refine zW ?_); simp [h1, b1, h41, h42, h3, h4, hlt, g5, g6, g7]) | ((first | refine zL ?_ | refine zC ?_); try simp) | (refine wOn ?_; try simp only [zZ])
     all_goals apply hr
     all_goals simp [Tryz.f31,hi']
     all_goals rw [e5 g6,decide_eq_false (by omega)]
     all_goals rfl
    ·repeat' first | (refine hK _ ?_; clear hK) | (clear hK; refine hK _ ?_; clear hK) | (refine zT fun K hK => ?_) | (refine zS ?_; simp only [tZ, tY, strip]) | ((first | refine wOs fun K hK => ?_ | refine zW ?_); simp [h1, b1, h41, h42, h3, h4, hlt, g5, g6, g7]) | ((first | refine zL ?_ | refine zC ?_ | refine zP ?_); try simp) | (refine wOn ?_; try simp only [zZ])
     all_goals apply hr
     all_goals simp [Tryz.f31,hi']
     all_goals rw [e5 g6,decide_eq_true (by omega)]
     all_goals rfl
def ids (l : List Mb) (r : Int) : List Int := (l.filter fun m => decide (m.r = r)).map Mb.i
def tot (f : Mb -> Int) (p : Mb -> Bool) : List Mb -> Int
 | []=>0
 | m :: l=>(if m.r = 1 /\ p m = true then f m else 0) + tot f p l
def inS (set : List Int) (m : Mb) : Bool := decide (m.i ∈ set)
def yes (_ : Mb) : Bool := true
def one (_ : Mb) : Int := 1
def okL (l : List Mb) : Prop := ∀ m ∈ l, okM m
theorem fine_ok : ∀ (l : List Mb) (p : Int), fine p l = true -> okL l
 | [],_,_=>fun m hm=>by simp at hm
 | m :: l, p, h => fun x hx => by
  simp only [fine,Bool.and_eq_true,decide_eq_true_eq] at h
  rcases List.mem_cons.1 hx with rfl | hx
  ·exact h.1.1
  ·exact fine_ok l _ h.2 x hx
theorem okL_get {l : List Mb} (h : okL l) (k : Nat) (hk : k < l.length) : okM l[k] := h _ (List.getElem_mem hk)
theorem is1_con (m : Mb) : zB Tryz.prog 147 [.p (.agg m.cells)] (.p (I (one m))) := by
 obtain ⟨i,r,w,g⟩:=m
 simp only [Mb.cells,one]
 refine zK Tryz.tab Tryz.mixed Tryz.func147 rfl rfl Tryz.ntmps147 (by simp) (by simp) fun Q hr hn=>?_
 repeat' first|(refine hK _ ?_;clear hK)|(refine zT fun K hK=>?_)|(refine zS ?_;simp only [tZ,tY,strip])|(refine wOs fun K hK=>?_;simp)|(refine zL ?_;try simp)|(refine wOn ?_;try simp only [zZ])
 all_goals apply hr
 all_goals simp [Tryz.f147]
theorem is2_con (m : Mb) : zB Tryz.prog 148 [.p (.agg m.cells)] (.p (I m.w)) := by
 obtain ⟨i,r,w,g⟩:=m
 simp only [Mb.cells]
 refine zK Tryz.tab Tryz.mixed Tryz.func148 rfl rfl Tryz.ntmps148 (by simp) (by simp) fun Q hr hn=>?_
 repeat' first|(refine hK _ ?_;clear hK)|(refine zT fun K hK=>?_)|(refine zS ?_;simp only [tZ,tY,strip])|(refine wOs fun K hK=>?_;simp)|(refine zL ?_;try simp)|(refine wOn ?_;try simp only [zZ])
 all_goals apply hr
 all_goals simp [Tryz.f148]
set_option maxHeartbeats 2000000 in
theorem most_con (c : Cf) (set : List Int) (h : Nat) (f : Mb -> Int) (hl : c.ms.length <= 1000000) (hf : ∀ m, zB Tryz.prog h [.p (.agg m.cells)] (.p (I (f m)))) (hb : ∀ m ∈ c.ms, 0 <= f m /\ f m <= 100) :
 zB Tryz.prog 146 [.p (.agg c.cells),.p (.sl 1 (ints set)),.p (.v (.func (.func h) #[] #[]))] (.p (B (decide (tot f yes c.ms < 2 * tot f (inS set) c.ms)))):=by
 obtain ⟨ep,n,kind,l⟩:=c
 simp only [Cf.cells] at hl hb ⊢
 refine zK Tryz.tab Tryz.mixed Tryz.func146 rfl rfl Tryz.ntmps146 (by simp) (by simp) fun Q hr hn=>?_
 repeat' first|(refine hK _ ?_;clear hK)|(refine zT fun K hK=>?_)|(refine zS ?_;simp only [tZ,tY,strip])|(refine wOs fun K hK=>?_;simp)|(first | refine zU ?_)|(refine wOn ?_;try simp only [zZ])
 refine yJ (fun N st => ∃ (k : Nat) (a b : Int), k + N = l.length /\ st.s 1 = .p (.sl 1 (ints set)) /\ st.s 2 = .p (.v (.func (.func h) #[] #[])) /\ st.s 3 = .ptr 3 0 /\ st.b 3 = some (.box 28 [.p (I ep), .p (I n), .p (I kind), .p (.sl 4 (mbs l))]) /\ st.s 12 = .p (.sl 4 (mbs l)) /\ st.s 13 = .p (I l.length) /\ st.s 14 = .p (I k) /\ st.s 8 = .p (I a) /\ st.s 7 = .p (I b) ∧
  (0 <= a /\ a <= 100 * k /\ a + tot f yes (l.drop k) = tot f yes l) /\ (0 <= b /\ b <= 100 * k /\ b + tot f (inS set) (l.drop k) = tot f (inS set) l)) l.length ⟨0,0,0,by simp⟩ fun K N st hL ⟨k,a,b,hk,h1,h2,h3,b3,h12,h13,h14,h8,h7,⟨ha0,ha1,ha⟩,⟨hb0,hb1,hbb⟩⟩=>?_
 by_cases hlt : k < l.length
 ·have hw := yF k _ hlt (by omega)
  rw [List.drop_eq_getElem_cons hlt,tot] at ha hbb
  have hx:=hf l[k]
  obtain ⟨w0,w1⟩:=hb _ (List.getElem_mem hlt)
  simp only [Mb.cells] at hx
  by_cases o4 : l[k].r = 1
  ·have hwa : IntKind.i64.wrap (a + f l[k]) = a + f l[k] := by rw [yV] <;> omega
   have hwb : IntKind.i64.wrap (b + f l[k]) = b + f l[k]:=by rw [yV] <;> omega
   have hcall:=contains_con set l[k].i
   rw [o4] at hx
   simp only [o4,yes,inS,true_and,if_true] at ha hbb
   by_cases o5 : l[k].i ∈ set
   ·rw [decide_eq_true o5] at hcall hbb
    repeat' first|(refine hK _ ?_;clear hK)|(refine zT fun K hK=>?_)|(refine zS ?_;simp only [tZ,tY,strip])|((first | refine wOs fun K hK=>?_ | refine zY ?_ | refine zW ?_);simp [h1,h2,h12,h13,h14,h8,h7,hlt,hw,o4,hwa,hwb])|(first | refine zU ?_)|(refine zP ?_;try simp)|(refine wOn ?_;try simp only [zZ])|(refine zR.pure (hx) rfl ?_)|(refine zR.pure (hcall) rfl ?_)
    refine hL _ (N - 1) (by omega) ⟨k + 1,a + f l[k],b + f l[k],by omega,?_⟩
    simp [h1,h2,h3,b3,h12,h13]
    simp only [if_true] at hbb
    refine ⟨⟨by omega,by omega,?_⟩,by omega,by omega,?_⟩
    ·rw [Int.add_assoc];exact ha
    ·rw [Int.add_assoc];exact hbb
   ·rw [decide_eq_false o5] at hcall hbb
    repeat' first|(refine hK _ ?_;clear hK)|(refine zT fun K hK=>?_)|(refine zS ?_;simp only [tZ,tY,strip])|((first | refine wOs fun K hK=>?_ | refine zY ?_ | refine zW ?_);simp [h1,h2,h12,h13,h14,h8,hlt,hw,o4,hwa])|(first | refine zU ?_)|(refine zP ?_;try simp)|(refine wOn ?_;try simp only [zZ])|(refine zR.pure (hx) rfl ?_)|(refine zR.pure (hcall) rfl ?_)
    refine hL _ (N - 1) (by omega) ⟨k + 1,a + f l[k],b,by omega,?_⟩
    simp [h1,h2,h3,b3,h7,h12,h13]
    simp at hbb
    refine ⟨⟨by omega,by omega,?_⟩,by omega,by omega,?_⟩
    ·rw [Int.add_assoc];exact ha
    ·exact hbb
  ·simp only [o4, false_and, if_false, Int.zero_add] at ha hbb
   repeat' first|(refine hK _ ?_;clear hK)|(clear hK;refine hK _ ?_;clear hK)|(refine zT fun K hK=>?_)|(refine zS ?_;simp only [tZ,tY,strip])|((first | refine wOs fun K hK=>?_ | refine zW ?_);simp [h12,h13,h14,hlt,hw,o4])|(first | refine zU ?_)|((first | refine zC ?_ | refine zP ?_);try simp)|(refine wOn ?_;try simp only [zZ])
   refine hL _ (N - 1) (by omega) ⟨k + 1,a,b,by omega,?_⟩
   simp [h1,h2,h3,b3,h12,h13,h7,h8]
   refine ⟨⟨by omega,by omega,?_⟩,by omega,by omega,?_⟩
   ·exact ha
   ·exact hbb
 ·rw [List.drop_of_length_le (by omega)] at ha hbb
  simp only [tot,Int.add_zero] at ha hbb
  subst ha hbb
  have hw2 : IntKind.i64.wrap (2 * tot f (inS set) l) = 2 * tot f (inS set) l:=by rw [yV] <;> omega
  repeat' first|(refine hK _ ?_;clear hK)|(clear hK;refine hK _ ?_;clear hK)|(refine zT fun K hK=>?_)|(refine zS ?_;simp only [tZ,tY,strip])|((first | refine wOs fun K hK=>?_ | refine zW ?_);simp [h13,h14,h8,h7,hlt,hw2])|((first | refine zL ?_ | refine zC ?_);try simp)|(refine wOn ?_;try simp only [zZ])
  apply hr
  simp [Tryz.f146]
def bx (z : List Int) : List V := z.map fun n => .p (I n)
@[simp] theorem bx_len (z : List Int) : (bx z).length = z.length := by simp [bx]
@[simp] theorem bx_get (z : List Int) (k : Nat) (h : k < (bx z).length) : (bx z)[k] = .p (I (z[k]'(by simpa using h))) := by simp [bx]
@[simp] theorem bx_scr (z : List Int) (n : Nat) : (bx z).map (yR n) = bx z := by
 unfold bx;rw [List.map_map];rfl
def ixs (z : List Int) : List PV := z.map fun n => I n
@[simp] theorem ixs_len (z : List Int) : (ixs z).length = z.length := by simp [ixs]
@[simp] theorem ixs_get (z : List Int) (k : Nat) (h : k < (ixs z).length) : (ixs z)[k] = I (z[k]'(by simpa using h)) := by simp [ixs]
@[simp] theorem toPs_bx : ∀ z : List Int, uL (bx z) = some (ixs z)
 | []=>rfl
 | a :: z => by
  show (match toP (.p (I a)),uL (bx z) with | some p,some r=>some (p :: r) | _,_=>none) = _
  rw [toPs_bx z];rfl
theorem bx_take (z : List Int) (n : Nat) (h : z.length <= n) : (bx z).take n = bx z := List.take_of_length_le (by simpa using h)
theorem bx_put (z : List Int) (k : Nat) (x : Int) (h : k < z.length) : (bx z).take k ++ .p (I x) :: (bx z).drop (k + 1) = bx (z.set k x) := by
 unfold bx
 rw [<- List.map_take,<- List.map_drop,<- tZ (f:=fun n=>V.p (I n)),<- List.map_append,List.set_eq_take_append_cons_drop,if_pos h]
def inG (p : Mb -> Bool) (g : Nat) (m : Mb) : Bool := decide (m.g = g) && p m
def gs (p : Mb -> Bool) (l : List Mb) : List Int := (List.range 8).map fun g => tot Mb.w (inG p g) l
@[simp] theorem gs_len (p : Mb -> Bool) (l : List Mb) : (gs p l).length = 8 := by simp [gs]
@[simp] theorem gs_get (p : Mb -> Bool) (l : List Mb) (g : Nat) (h : g < (gs p l).length) : (gs p l)[g] = tot Mb.w (inG p g) l := by simp [gs]
theorem tot_append (f : Mb -> Int) (p : Mb -> Bool) : ∀ a b : List Mb, tot f p (a ++ b) = tot f p a + tot f p b
 | [],b=>by simp [tot]
 | m :: a,b=>by simp only [List.cons_append,tot,tot_append f p a b,Int.add_assoc]
theorem tot_snoc (f : Mb -> Int) (p : Mb -> Bool) (l : List Mb) (k : Nat) (h : k < l.length) : tot f p (l.take (k + 1)) = tot f p (l.take k) + (if l[k].r = 1 /\ p l[k] = true then f l[k] else 0) := by
 rw [take_snoc _ k h,tot_append];simp [tot]
theorem tot_bound (f : Mb -> Int) (p : Mb -> Bool) : ∀ l : List Mb, (∀ m ∈ l, 0 <= f m /\ f m <= 100) -> 0 <= tot f p l /\ tot f p l <= 100 * l.length
 | [],_=>by simp [tot]
 | m :: l, h => by
  have h1:=tot_bound f p l fun x hx=>h x (List.mem_cons_of_mem _ hx)
  have h2:=h m (by simp)
  simp only [tot,List.length_cons]
  split <;> omega
theorem okL_w {l : List Mb} (h : okL l) : ∀ m ∈ l, 0 <= m.w /\ m.w <= 100 := fun m hm => (h m hm).2.2.1
theorem okL_take {l : List Mb} (h : okL l) (k : Nat) : okL (l.take k) := fun m hm => h m (List.mem_of_mem_take hm)
theorem gs_snoc (p : Mb -> Bool) (l : List Mb) (k : Nat) (h : k < l.length) (ho : okM l[k]) (hr : l[k].r = 1) (hp : p l[k] = true) :
 (gs p (l.take k)).set l[k].g.toNat (tot Mb.w (inG p l[k].g.toNat) (l.take k) + l[k].w) = gs p (l.take (k + 1)):=by
 have hg:=ho.2.2.2
 apply List.ext_getElem (by simp)
 intro g h1 h2
 rw [List.getElem_set]
 simp only [gs_get,tot_snoc _ _ l k h,hr,inG,hp,Bool.and_true,decide_eq_true_eq,true_and]
 by_cases e : l[k].g.toNat = g
 ·rw [if_pos e,if_pos (by omega)];subst e;rfl
 ·rw [if_neg e,if_neg (by omega),Int.add_zero]
theorem gs_skip (p : Mb -> Bool) (l : List Mb) (k : Nat) (h : k < l.length) (hp : ¬ (l[k].r = 1 /\ p l[k] = true)) : gs p (l.take (k + 1)) = gs p (l.take k) := by
 apply List.ext_getElem (by simp)
 intro g h1 h2
 simp only [gs_get,tot_snoc _ _ l k h,inG,Bool.and_eq_true,decide_eq_true_eq]
 rw [if_neg (fun x=>hp ⟨x.1,x.2.2⟩),Int.add_zero]
def num (q : Nat -> Bool) : Nat -> Int
 | 0=>0
 | k + 1=>num q k + (if q k = true then 1 else 0)
theorem num_bound (q : Nat -> Bool) : ∀ k, 0 <= num q k /\ num q k <= k
 | 0=>by simp [num]
 | k + 1=>by have:=num_bound q k;simp only [num];split <;> omega
def hasG (l : List Mb) (g : Nat) : Bool := decide (0 < tot Mb.w (inG yes g) l)
def wonG (set : List Int) (l : List Mb) (g : Nat) : Bool := decide (tot Mb.w (inG yes g) l < 2 * tot Mb.w (inG (inS set) g) l)
set_option maxHeartbeats 4000000 in
theorem groups_con (c : Cf) (set : List Int) (hl : c.ms.length <= 1000000) (ho : okL c.ms) :
 zB Tryz.prog 149 [.p (.agg c.cells),.p (.sl 1 (ints set))] (.p (B (decide (num (hasG c.ms) 8 < 2 * num (wonG set c.ms) 8)))):=by
 obtain ⟨ep,n,kind,l⟩:=c
 simp only [Cf.cells] at hl ho ⊢
 refine zK Tryz.tab Tryz.mixed Tryz.func149 rfl rfl Tryz.ntmps149 (by simp) (by simp) fun Q hr hn=>?_
 repeat' first|(refine hK _ ?_;clear hK)|(refine zT fun K hK=>?_)|(refine zS ?_;simp only [tZ,tY,strip])|(refine wOs fun K hK=>?_;simp)|(first | refine zU ?_)|(refine wOn ?_;try simp only [zZ])
 refine yJ (fun N st => ∃ (k : Nat), k + N = l.length /\ st.s 1 = .p (.sl 1 (ints set)) /\ st.s 2 = .ptr 2 0 /\ st.s 5 = .ptr 5 0 /\ st.s 6 = .ptr 6 0 /\ st.b 2 = some (.box 28 [.p (I ep), .p (I n), .p (I kind), .p (.sl 4 (mbs l))]) /\ st.s 14 = .p (.sl 4 (mbs l)) /\ st.s 15 = .p (I l.length) /\ st.s 16 = .p (I k) ∧
  st.b 5 = some (.box 144 (bx (gs (inS set) (l.take k)))) /\ st.b 6 = some (.box 144 (bx (gs yes (l.take k))))) l.length ⟨0,by simp [bx,gs,List.range,List.range.loop,tot]⟩ fun K N st hL ⟨k,hk,h1,h2,h5,h6,b2,h14,h15,h16,b5,b6⟩=>?_
 by_cases hlt : k < l.length
 ·have hw := yF k _ hlt (by omega)
  have okk:=okL_get ho k hlt
  obtain ⟨w0,w1⟩:=okk.2.2.1
  obtain ⟨g0,g1⟩:=okk.2.2.2
  have g2 : l[k].g.toNat < 8:=by omega
  have g1' : l[k].g < 8:=by omega
  by_cases o4 : l[k].r = 1
  ·have hcall := contains_con set l[k].i
   have t1:=tot_bound Mb.w (inG yes l[k].g.toNat) (l.take k) (okL_w (okL_take ho k))
   have t2:=tot_bound Mb.w (inG (inS set) l[k].g.toNat) (l.take k) (okL_w (okL_take ho k))
   have hlk : (l.take k).length <= 1000000:=by simp;omega
   have hwa : IntKind.i64.wrap (tot Mb.w (inG yes l[k].g.toNat) (l.take k) + l[k].w) = tot Mb.w (inG yes l[k].g.toNat) (l.take k) + l[k].w:=by rw [yV] <;> omega
   have hwb : IntKind.i64.wrap (tot Mb.w (inG (inS set) l[k].g.toNat) (l.take k) + l[k].w) = tot Mb.w (inG (inS set) l[k].g.toNat) (l.take k) + l[k].w:=by rw [yV] <;> omega
   by_cases o5 : l[k].i ∈ set
   ·rw [decide_eq_true o5] at hcall
    repeat' first|(refine wDrwT 8 (by kernel_rfl) ?_;simp only [tZ,tY,strip,List.take,List.drop])|(refine hK _ ?_;clear hK)|(refine zT fun K hK=>?_)|(refine zS ?_;simp only [tZ,tY,strip])|((first | refine wOs fun K hK=>?_ | refine wQs fun K hK=>?_ | refine zY ?_ | refine zW ?_);simp [h1,h5,h6,h14,h15,h16,b5,b6,hlt,hw,o4,g0,g1,g2,hwa,hwb,PV.one])|(first | refine zU ?_)|(refine zP ?_;try simp)|((first | refine wOn ?_ | refine wQn ?_);try simp only [zZ])|(refine zR.pure (hcall) rfl ?_)
    refine hL _ (N - 1) (by omega) ⟨k + 1,by omega,?_⟩
    simp [h1,h2,h5,h6,b2,h14,h15]
    rw [bx_put _ _ _ (by simpa using g2),bx_put _ _ _ (by simpa using g2),gs_snoc yes l k hlt okk o4 rfl,gs_snoc (inS set) l k hlt okk o4 (by simp [inS,o5])]
    exact ⟨rfl,rfl⟩
   ·rw [decide_eq_false o5] at hcall
    repeat' first|(refine wDrwT 8 (by kernel_rfl) ?_;simp only [tZ,tY,strip,List.take,List.drop])|(refine hK _ ?_;clear hK)|(refine zT fun K hK=>?_)|(refine zS ?_;simp only [tZ,tY,strip])|((first | refine wOs fun K hK=>?_ | refine wQs fun K hK=>?_ | refine zY ?_ | refine zW ?_);simp [h1,h6,h14,h15,h16,b6,hlt,hw,o4,g0,g1,g2,hwa,PV.one])|(first | refine zU ?_)|(refine zP ?_;try simp)|((first | refine wOn ?_ | refine wQn ?_);try simp only [zZ])|(refine zR.pure (hcall) rfl ?_)
    refine hL _ (N - 1) (by omega) ⟨k + 1,by omega,?_⟩
    simp [h1,h2,h5,h6,b2,b5,h14,h15]
    rw [bx_put _ _ _ (by simpa using g2),gs_snoc yes l k hlt okk o4 rfl,gs_skip (inS set) l k hlt (by simp [inS,o5])]
    exact ⟨rfl,rfl⟩
  ·repeat' first | (refine hK _ ?_; clear hK) | (clear hK; refine hK _ ?_; clear hK) | (refine zT fun K hK => ?_) | (refine zS ?_; simp only [tZ, tY, strip]) | ((first | refine wOs fun K hK => ?_ | refine zW ?_); simp [h14, h15, h16, hlt, hw, o4]) | (first | refine zU ?_) | ((first | refine zC ?_ | refine zP ?_); try simp) | (refine wOn ?_; try simp only [zZ])
   refine hL _ (N - 1) (by omega) ⟨k + 1,by omega,?_⟩
   simp [h1,h2,h5,h6,b2,b5,b6,h14,h15]
   rw [gs_skip (inS set) l k hlt (fun x=>o4 x.1),gs_skip yes l k hlt (fun x=>o4 x.1)]
   exact ⟨rfl,rfl⟩
 ·rw [List.take_of_length_le (by omega)] at b5 b6
  have hlong : 8 <= (bx (gs yes l)).length:=by simp
  have htk : (bx (gs yes l)).take 8 = bx (gs yes l):=bx_take _ _ (by simp)
  repeat' first|(refine hK _ ?_;clear hK)|(clear hK;refine hK _ ?_;clear hK)|(refine zT fun K hK=>?_)|(refine zS ?_;simp only [tZ,tY,strip])|((first | refine wOs fun K hK=>?_ | refine zW ?_);simp [h6,h15,h16,b6,hlt,htk])|(first | refine zU ?_)|(refine zC ?_;try simp)|(refine wOn ?_;try simp only [zZ])
  refine yJ (fun N st=>∃ (k : Nat),k + N = 8 /\ st.s 5 = .ptr 5 0 /\ st.b 5 = some (.box 144 (bx (gs (inS set) l))) /\ st.s 44 = .p (.agg (ixs (gs yes l))) /\ st.s 45 = .p (I k) /\ st.s 9 = .p (I (num (wonG set l) k)) /\ st.s 10 = .p (I (num (hasG l) k))) 8 ⟨0,by simp [h5,b5,num]⟩ fun K' N' st' hL' ⟨j,hj,g5,c5,g44,g45,g9,g10⟩=>?_
  have nb1:=num_bound (wonG set l) j
  have nb2:=num_bound (hasG l) j
  by_cases hjl : j < 8
  ·have hw := yF j 8 hjl (by omega)
   have hjI : (j : Int) < 8:=by omega
   have hwa : IntKind.i64.wrap (num (wonG set l) j + 1) = num (wonG set l) j + 1:=by rw [yV] <;> omega
   have hwb : IntKind.i64.wrap (num (hasG l) j + 1) = num (hasG l) j + 1:=by rw [yV] <;> omega
   have t1:=tot_bound Mb.w (inG yes j) l (okL_w ho)
   have t2:=tot_bound Mb.w (inG (inS set) j) l (okL_w ho)
   have hwc : IntKind.i64.wrap (2 * tot Mb.w (inG (inS set) j) l) = 2 * tot Mb.w (inG (inS set) j) l:=by rw [yV] <;> omega
   by_cases q1 : 0 < tot Mb.w (inG yes j) l
   ·by_cases q2 : tot Mb.w (inG yes j) l < 2 * tot Mb.w (inG (inS set) j) l
    ·repeat' first | (refine hK _ ?_; clear hK) | (refine zT fun K hK => ?_) | (refine zS ?_; simp only [tZ, tY, strip]) | ((first | refine wOs fun K hK => ?_ | refine zW ?_); simp [g5, c5, g44, g45, g9, g10, hjl, hjI, hw, hwa, hwb, hwc, q1, q2]) | (first | refine zU ?_) | (refine zP ?_; try simp) | (refine wOn ?_; try simp only [zZ])
     refine hL' _ (N' - 1) (by omega) ⟨j + 1,by omega,?_⟩
     simp [g5,c5,g44]
     simp [num,hasG,wonG,q1,q2]
    ·repeat' first | (refine hK _ ?_; clear hK) | (refine zT fun K hK => ?_) | (refine zS ?_; simp only [tZ, tY, strip]) | ((first | refine wOs fun K hK => ?_ | refine zW ?_); simp [g5, c5, g44, g45, g10, hjl, hjI, hw, hwb, hwc, q1, q2]) | (first | refine zU ?_) | (refine zP ?_; try simp) | (refine wOn ?_; try simp only [zZ])
     refine hL' _ (N' - 1) (by omega) ⟨j + 1,by omega,?_⟩
     simp [g5,c5,g44,g9]
     simp [num,hasG,wonG,q1,q2]
   ·by_cases q2 : tot Mb.w (inG yes j) l < 2 * tot Mb.w (inG (inS set) j) l
    ·repeat' first | (refine hK _ ?_; clear hK) | (refine zT fun K hK => ?_) | (refine zS ?_; simp only [tZ, tY, strip]) | ((first | refine wOs fun K hK => ?_ | refine zW ?_); simp [g5, c5, g44, g45, g9, hjl, hjI, hw, hwa, hwc, q1, q2]) | (first | refine zU ?_) | (refine zP ?_; try simp) | (refine wOn ?_; try simp only [zZ])
     refine hL' _ (N' - 1) (by omega) ⟨j + 1,by omega,?_⟩
     simp [g5,c5,g44,g10]
     simp [num,hasG,wonG,q1,q2]
    ·repeat' first | (refine hK _ ?_; clear hK) | (refine zT fun K hK => ?_) | (refine zS ?_; simp only [tZ, tY, strip]) | ((first | refine wOs fun K hK => ?_ | refine zW ?_); simp [g5, c5, g44, g45, hjl, hjI, hw, hwc, q1, q2]) | (first | refine zU ?_) | (refine zP ?_; try simp) | (refine wOn ?_; try simp only [zZ])
     refine hL' _ (N' - 1) (by omega) ⟨j + 1,by omega,?_⟩
     simp [g5,c5,g44,g9,g10]
     simp [num,hasG,wonG,q1,q2]
  ·obtain rfl : j = 8 := by omega
   simp at g45
   have hwc : IntKind.i64.wrap (2 * num (wonG set l) 8) = 2 * num (wonG set l) 8:=by rw [yV] <;> omega
   repeat' first|(refine hK _ ?_;clear hK)|(clear hK;refine hK _ ?_;clear hK)|(refine zT fun K hK=>?_)|(refine zS ?_;simp only [tZ,tY,strip])|((first | refine wOs fun K hK=>?_ | refine zW ?_);simp [g45,g9,g10,hwc])|((first | refine zL ?_ | refine zC ?_);try simp)|(refine wOn ?_;try simp only [zZ])
   apply hr
   simp [Tryz.f149]
theorem check_ok {c : Cf} (h : check c = 0) : ranged c /\ fine (-1) c.ms = true /\ wF c.kind c.ms = true := by
 unfold check at h
 by_cases h1 : ranged c
 ·rw [if_pos h1] at h
  by_cases h2 : fine (-1) c.ms = true
  ·rw [if_pos h2] at h
   by_cases h3 : wF c.kind c.ms = true
   ·exact ⟨h1,h2,h3⟩
   ·rw [if_neg h3] at h;omega
  ·rw [if_neg h2] at h;omega
 ·rw [if_neg h1] at h;omega
def enough (c : Cf) (set : List Int) : Bool :=
 if c.kind = 1 then decide (tot one yes c.ms < 2 * tot one (inS set) c.ms)
 else if c.kind = 2 then decide (tot Mb.w yes c.ms < 2 * tot Mb.w (inS set) c.ms)
 else decide (num (hasG c.ms) 8 < 2 * num (wonG set c.ms) 8)
def isQ (c : Cf) (set : List Int) : Bool := if check c = 0 then enough c set else false
set_option maxHeartbeats 2000000 in
theorem is_con (c : Cf) (set : List Int) (hl : c.ms.length <= 1000000) : zB Tryz.prog 129 [.p (.agg c.cells), .p (.sl 1 (ints set))] (.p (B (isQ c set))) := by
 have h1:=check_con c hl
 by_cases hc : check c = 0
 ·obtain ⟨-, hf, -⟩ := check_ok hc
  have ho:=fine_ok _ _ hf
  have h2:=most_con c set 147 one hl is1_con (fun m _=>by simp [one])
  have h3:=most_con c set 148 Mb.w hl is2_con (okL_w ho)
  have h4:=groups_con c set hl ho
  have he : isQ c set = enough c set:=by unfold isQ;rw [if_pos hc]
  rw [he]
  rw [hc] at h1
  unfold enough
  obtain ⟨ep,n,kind,l⟩:=c
  simp only [Cf.cells] at h1 h2 h3 h4 ⊢
  by_cases k1 : kind = 1
  ·subst k1
   rw [if_pos rfl]
   generalize decide (tot one yes l < 2 * tot one (inS set) l) = z at h2
   refine zK Tryz.tab Tryz.mixed Tryz.func129 rfl rfl Tryz.ntmps129 (by simp) (by simp) fun Q hr hn=>?_
   repeat' first|(refine hK _ ?_;clear hK)|(refine zT fun K hK=>?_)|(refine zS ?_;simp only [tZ,tY,strip])|((first | refine wOs fun K hK=>?_ | refine zY ?_ | refine zW ?_);simp)|(first | refine zU ?_)|((first | refine zL ?_ | refine zP ?_);try simp)|(refine wOn ?_;try simp only [zZ])|(refine zR.pure (h1) rfl ?_)|(refine zR.pure (h2) rfl ?_)
   all_goals apply hr
   all_goals simp [Tryz.f129]
  ·rw [if_neg k1]
   by_cases k2 : kind = 2
   ·subst k2
    rw [if_pos rfl]
    generalize decide (tot Mb.w yes l < 2 * tot Mb.w (inS set) l) = z at h3
    refine zK Tryz.tab Tryz.mixed Tryz.func129 rfl rfl Tryz.ntmps129 (by simp) (by simp) fun Q hr hn=>?_
    repeat' first|(refine hK _ ?_;clear hK)|(refine zT fun K hK=>?_)|(refine zS ?_;simp only [tZ,tY,strip])|((first | refine wOs fun K hK=>?_ | refine zY ?_ | refine zW ?_);simp)|(first | refine zU ?_)|((first | refine zL ?_ | refine zP ?_);try simp)|(refine wOn ?_;try simp only [zZ])|(refine zR.pure (h1) rfl ?_)|(refine zR.pure (h3) rfl ?_)
    all_goals apply hr
    all_goals simp [Tryz.f129]
   ·rw [if_neg k2]
    generalize decide (num (hasG l) 8 < 2 * num (wonG set l) 8) = z at h4
    refine zK Tryz.tab Tryz.mixed Tryz.func129 rfl rfl Tryz.ntmps129 (by simp) (by simp) fun Q hr hn=>?_
    repeat' first|(refine hK _ ?_;clear hK)|(refine zT fun K hK=>?_)|(refine zS ?_;simp only [tZ,tY,strip])|((first | refine wOs fun K hK=>?_ | refine zY ?_ | refine zW ?_);simp [k1,k2])|(first | refine zU ?_)|((first | refine zL ?_ | refine zP ?_);try simp)|(refine wOn ?_;try simp only [zZ])|(refine zR.pure (h1) rfl ?_)|(refine zR.pure (h4) rfl ?_)
    all_goals apply hr
    all_goals simp [Tryz.f129]
 ·have he : isQ c set = false := by unfold isQ; rw [if_neg hc]
  rw [he]
  generalize check c = z at h1 hc
  obtain ⟨ep,n,kind,l⟩:=c
  simp only [Cf.cells] at h1 ⊢
  refine zK Tryz.tab Tryz.mixed Tryz.func129 rfl rfl Tryz.ntmps129 (by simp) (by simp) fun Q hr hn=>?_
  repeat' first|(refine hK _ ?_;clear hK)|(refine zT fun K hK=>?_)|(refine zS ?_;simp only [tZ,tY,strip])|((first | refine wOs fun K hK=>?_ | refine zY ?_ | refine zW ?_);simp [hc])|(refine zL ?_;try simp)|(refine wOn ?_;try simp only [zZ])|(refine zR.pure (h1) rfl ?_)
  all_goals apply hr
  all_goals simp [Tryz.f129]
def mx (n : Int) : List (List Int) -> Int
 | []=>n
 | s :: l=>mx (if n < s.length then s.length else n) l
def cfs (l : List Cf) : List (List PV) := l.map Cf.cells
@[simp] theorem cfs_len (l : List Cf) : (cfs l).length = l.length := by simp [cfs]
@[simp] theorem cfs_getElem (l : List Cf) (k : Nat) (h : k < (cfs l).length) : (cfs l)[k] = [I (l[k]'(by simpa using h)).ep, I (l[k]'(by simpa using h)).n, I (l[k]'(by simpa using h)).kind, .sl 4 (mbs (l[k]'(by simpa using h)).ms)] := by simp [cfs, Cf.cells]
def allQ (l : List Cf) (set : List Int) : Bool := l.all (fun c => isQ c set) && decide (0 < l.length)
theorem all_con (l : List Cf) (set : List Int) (hl : l.length <= 1000) (hm : ∀ c ∈ l, c.ms.length <= 1000000) : zB Tryz.prog 100 [.p (.sl 4 (cfs l)), .p (.sl 1 (ints set))] (.p (B (allQ l set))) := by
 refine zK Tryz.tab Tryz.mixed Tryz.func100 rfl rfl Tryz.ntmps100 (by simp) (by simp) fun Q hr hn=>?_
 repeat' first|(refine hK _ ?_;clear hK)|(refine zT fun K hK=>?_)|(refine zS ?_;simp only [tZ,tY,strip])|(refine wOs fun K hK=>?_;simp)|(first | refine zU ?_)|(refine wOn ?_;try simp only [zZ])
 refine yJ (fun N st=>∃ (k : Nat),k + N = l.length /\ st.s 0 = .p (.sl 4 (cfs l)) /\ st.s 1 = .p (.sl 1 (ints set)) /\ st.s 7 = .p (.sl 4 (cfs l)) /\ st.s 8 = .p (I l.length) /\ st.s 9 = .p (I k) /\ (l.drop k).all (fun c=>isQ c set) = l.all (fun c=>isQ c set)) l.length ⟨0,by simp⟩ fun K N st hL ⟨k,hk,h0,h1,h7,h8,h9,hi⟩=>?_
 by_cases hlt : k < l.length
 ·have hw := yF k _ hlt (by omega)
  rw [List.drop_eq_getElem_cons hlt,List.all_cons] at hi
  have hx:=is_con l[k] set (hm _ (List.getElem_mem hlt))
  simp only [Cf.cells] at hx
  cases hz : isQ l[k] set with
  | true =>
   rw [hz] at hx hi
   repeat' first|(refine hK _ ?_;clear hK)|(refine zT fun K hK=>?_)|(refine zS ?_;simp only [tZ,tY,strip])|((first | refine wOs fun K hK=>?_ | refine zY ?_ | refine zW ?_);simp [h1,h7,h8,h9,hlt,hw])|(first | refine zU ?_)|(refine zP ?_;try simp)|(refine wOn ?_;try simp only [zZ])|(refine zR.pure (hx) rfl ?_)
   refine hL _ (N - 1) (by omega) ⟨k + 1,by omega,?_⟩
   rw [Bool.true_and] at hi
   simp only [hi]
   simp [h0,h1,h7,h8]
  | false =>
   rw [hz] at hx hi
   rw [Bool.false_and] at hi
   repeat' first|(refine hK _ ?_;clear hK)|(refine zT fun K hK=>?_)|(refine zS ?_;simp only [tZ,tY,strip])|((first | refine wOs fun K hK=>?_ | refine zY ?_ | refine zW ?_);simp [h1,h7,h8,h9,hlt])|(first | refine zU ?_)|((first | refine zL ?_ | refine zP ?_);try simp)|(refine wOn ?_;try simp only [zZ])|(refine zR.pure (hx) rfl ?_)
   all_goals apply hr
   all_goals simp only [allQ,<- hi]
   all_goals simp [Tryz.f100]
 ·rw [List.drop_of_length_le (by omega), List.all_nil] at hi
  repeat' first|(refine hK _ ?_;clear hK)|(clear hK;refine hK _ ?_;clear hK)|(refine zT fun K hK=>?_)|(refine zS ?_;simp only [tZ,tY,strip])|((first | refine wOs fun K hK=>?_ | refine zW ?_);simp [h0,h8,h9,hlt])|((first | refine zL ?_ | refine zC ?_);try simp)|(refine wOn ?_;try simp only [zZ])
  apply hr
  simp only [allQ,<- hi]
  simp [Tryz.f100]
def lastC (ps : List Pt) : Option Cf := ((ps.filter fun p => decide (p.k = 5)).getLast?).map Pt.c
theorem lastC_at {ps : List Pt} {i : Nat} (hi : i < ps.length) (h : ps[i].k = 5) (hb : ∀ j (hj : j < ps.length), i < j -> ¬ ps[j].k = 5) : lastC ps = some ps[i].c := by
 have e : ps = ps.take i ++ ps[i] :: ps.drop (i + 1):=by rw [<- List.drop_eq_getElem_cons hi,List.take_append_drop]
 have e2 : (ps.drop (i + 1)).filter (fun p => decide (p.k = 5)) = [] := by
  rw [List.filter_eq_nil_iff]
  intro x hx
  obtain ⟨j,hj,rfl⟩:=List.getElem_of_mem hx
  rw [List.getElem_drop]
  have hj' : i + 1 + j < ps.length:=by simp at hj;omega
  simpa using hb _ hj' (by omega)
 unfold lastC
 have e3 : ps.filter (fun p => decide (p.k = 5)) = (ps.take i).filter (fun p => decide (p.k = 5)) ++ [ps[i]] := by
  conv=>lhs;rw [e]
  rw [List.filter_append,List.filter_cons,if_pos (decide_eq_true h),e2]
 rw [e3]
 simp
theorem lastC_none {ps : List Pt} (hb : ∀ j (hj : j < ps.length), ¬ ps[j].k = 5) : lastC ps = none := by
 have e2 : ps.filter (fun p => decide (p.k = 5)) = [] := by
  rw [List.filter_eq_nil_iff]
  intro x hx
  obtain ⟨j,hj,rfl⟩:=List.getElem_of_mem hx
  simpa using hb _ hj
 unfold lastC
 rw [e2];rfl
structure NS where
 (was now : Cf)
 (fe fn : Int)
 (ch : Bool)
def nsStep (s : NS) (t : Tx) : NS := match lastC t.ps with
 | none=>s
 | some c=>⟨s.now,c,t.e,t.n,true⟩
def ns0 (h : Hy) : NS := ⟨h.im.c, h.im.c, h.im.ae, h.im.an, false⟩
def nsOf (h : Hy) (l : List Tx) : NS := l.foldl nsStep (ns0 h)
theorem nsOf_snoc (h : Hy) {l : List Tx} {k : Nat} (hk : k < l.length) : nsOf h (l.take (k + 1)) = nsStep (nsOf h (l.take k)) l[k] := by
 rw [List.take_succ_eq_append_getElem hk,nsOf,List.foldl_append];rfl
def endN (s : NS) (de dn : Int) : List Cf := if s.ch = false \/ xN s.fe s.fn de dn <= 0 then [s.now] else [s.was, s.now]
def yX (h : Hy) (de dn : Int) : List Cf := endN (nsOf h h.lg) de dn
structure OkH (h : Hy) : Prop where
 ns : h.im.ns.length <= 1000
 ss : h.im.ss.length <= 1000
 c : h.im.c.ms.length <= 1000
 lg : h.lg.length <= 1000
 ps : ∀ t ∈ h.lg,t.ps.length <= 1000 /\ ∀ p ∈ t.ps,p.c.ms.length <= 1000
 tot : (h.lg.map fun t=>t.ps.length).sum <= 100000
theorem nsOf_ok {h : Hy} (hk : OkH h) : ∀ {l : List Tx}, (∀ t ∈ l, t ∈ h.lg) -> (nsOf h l).was.ms.length <= 1000 /\ (nsOf h l).now.ms.length <= 1000 := by
 have key : ∀ (l : List Tx) (s : NS), (∀ t ∈ l, t ∈ h.lg) -> s.was.ms.length <= 1000 -> s.now.ms.length <= 1000 -> (l.foldl nsStep s).was.ms.length <= 1000 /\ (l.foldl nsStep s).now.ms.length <= 1000 := by
  intro l
  induction l with
  | nil=>intro s _ h1 h2;exact ⟨h1,h2⟩
  | cons t l ih =>
   intro s hl h1 h2
   refine ih _ (fun t' h'=>hl t' (by simp [h'])) ?_ ?_
   all_goals
    unfold nsStep
    split
   ·exact h1
   ·exact h2
   ·exact h2
   ·rename_i c hc
    unfold lastC at hc
    cases hg : (t.ps.filter fun p=>decide (p.k = 5)).getLast? with
    | none=>rw [hg] at hc;simp at hc
    | some p =>
     rw [hg] at hc
     simp only [Option.map_some,tX] at hc
     rw [<- hc]
     exact (hk.ps t (hl t (by simp))).2 p (List.mem_filter.1 (List.mem_of_getLast? hg)).1
 intro l hl
 exact key l _ hl hk.c hk.c
theorem base_con (h : Hy) : zB Tryz.prog 105 [.p (.agg h.cells)] (.p (.agg [I h.im.ae, I h.im.an])) := by
 unfold Hy.cells
 refine zK Tryz.tab Tryz.mixed Tryz.func105 rfl rfl Tryz.ntmps105 (by simp) (by simp) fun Q hr hn=>?_
 repeat' first|(refine hK _ ?_;clear hK)|(refine zT fun K hK=>?_)|(refine zS ?_;simp only [tZ,tY,strip])|(refine wOs fun K hK=>?_;simp)|(refine zL ?_;try simp)|(refine wOn ?_;try simp only [zZ])
 all_goals apply hr
 all_goals simp [Tryz.f105]
set_option maxHeartbeats 8000000 in
theorem needs_con (h : Hy) (de dn : Int) (hk : OkH h) : zB Tryz.prog 112 [.p (.agg h.cells), .p (.agg [I de, I dn])] (.p (.sl 4 (cfs (yX h de dn)))) := by
 have c1:=base_con h
 have hlg:=hk.lg
 have hns0 : nsOf h (h.lg.take 0) = ns0 h:=by simp [nsOf]
 unfold Hy.cells at c1 ⊢
 refine zK Tryz.tab Tryz.mixed Tryz.func112 rfl rfl Tryz.ntmps112 (by simp) (by simp) fun Q hr hn=>?_
 repeat' first|(refine hK _ ?_;clear hK)|(refine hK _ _ ?_;clear hK)|(refine zT fun K hK=>?_)|((first | refine zS ?_ | refine yI ?_);simp only [tZ,tY,strip])|((first | refine wIs fun K hK=>?_ | refine wOs fun K hK=>?_ | refine zF ?_);simp)|(refine wIn ?_;refine And.intro (by kernel_rfl) ?_;try simp only [zZ])|(first | refine zU ?_)|(refine wOn ?_;try simp only [zZ])|(refine zG.pure (c1) rfl ?_)
 refine yJ (fun N st=>∃ (k : Nat) (s : NS),k + N = h.lg.length /\ s = nsOf h (h.lg.take k) /\ st.s 3 = .ptr 3 0 /\ st.b 3 = some (.box 25 [.p (I de),.p (I dn)]) /\ st.s 5 = .ptr 5 0 /\ st.b 5 = some (.box 28 [.p (I s.was.ep),.p (I s.was.n),.p (I s.was.kind),.p (.sl 4 (mbs s.was.ms))]) /\ st.s 6 = .ptr 6 0 /\ st.b 6 = some (.box 28 [.p (I s.now.ep),.p (I s.now.n),.p (I s.now.kind),.p (.sl 4 (mbs s.now.ms))]) /\ st.s 7 = .ptr 7 0 /\ st.b 7 = some (.box 25 [.p (I s.fe),.p (I s.fn)]) /\ st.s 8 = .p (B s.ch) /\ st.s 21 = .p (.sl 8 (yW h.lg)) /\ st.s 22 = .p (I h.lg.length) /\ st.s 23 = .p (I k)) h.lg.length ⟨0,ns0 h,by simp [ns0,nsOf]⟩ fun K N st hL ⟨k,s,hkN,hs,g3,b3,g5,b5,g6,b6,g7,b7,g8,g21,g22,g23⟩=>?_
 by_cases hlt : k < h.lg.length
 ·have hlt' : (k : Int) < h.lg.length := by omega
  have hw:=yF k _ hlt (by omega)
  have he:=wC hlt
  have hsn:=nsOf_snoc h hlt
  rw [<- hs] at hsn
  obtain ⟨hp1,hp2⟩:=hk.ps _ (List.getElem_mem hlt)
  have hwl : IntKind.i64.wrap ((h.lg[k].ps.length : Int) - 1) = (h.lg[k].ps.length : Int) - 1:=by rw [yV] <;> omega
  repeat' first|(refine hK _ ?_;clear hK)|(refine zT fun K hK=>?_)|(refine zS ?_;simp only [tZ,tY,strip])|((first | refine wOs fun K hK=>?_ | refine zW ?_);simp [g21,g22,g23,hlt,hlt',hwl])|(first | refine zU ?_)|(refine zP ?_;try simp)|(refine wOn ?_;try simp only [zZ])
  refine yJ (fun N' st=>∀ (q : Nat),q = N' -> q <= h.lg[k].ps.length /\ (∀ j (hj : j < h.lg[k].ps.length),q <= j -> ¬ (h.lg[k].ps[j]).k = 5) /\ st.s 3 = .ptr 3 0 /\ st.b 3 = some (.box 25 [.p (I de),.p (I dn)]) /\ st.s 5 = .ptr 5 0 /\ st.b 5 = some (.box 28 [.p (I s.was.ep),.p (I s.was.n),.p (I s.was.kind),.p (.sl 4 (mbs s.was.ms))]) /\ st.s 6 = .ptr 6 0 /\ st.b 6 = some (.box 28 [.p (I s.now.ep),.p (I s.now.n),.p (I s.now.kind),.p (.sl 4 (mbs s.now.ms))]) /\ st.s 7 = .ptr 7 0 /\ st.b 7 = some (.box 25 [.p (I s.fe),.p (I s.fn)]) /\ st.s 8 = .p (B s.ch) /\ st.s 21 = .p (.sl 8 (yW h.lg)) /\ st.s 22 = .p (I h.lg.length) /\ st.s 23 = .p (I k) /\ st.s 10 = .ptr 10 0 /\ st.b 10 = some (.box 58 [.p (I h.lg[k].e),.p (I h.lg[k].n),.p (I h.lg[k].s),.p (I h.lg[k].x),.p (I h.lg[k].r),.p (I h.lg[k].b),.p (SB h.lg[k].m),.p (.sl 11 (pts h.lg[k].ps))]) /\ st.s 11 = .p (I ((q : Int) - 1))) h.lg[k].ps.length (by rintro q rfl;refine ⟨by omega,fun j hj hq=>by omega,?_⟩;simp [g3,b3,g5,b5,g6,b6,g7,b7,g8,g21,g22,g23]) fun K' N' st hL' hi=>?_
  obtain ⟨hq,hno,e3,d3,e5,d5,e6,d6,e7,d7,e8,e21,e22,e23,e10,d10,e11⟩:=hi N' rfl
  cases N' with
  | zero =>
   have hlc:=lastC_none (ps:=h.lg[k].ps) fun j hj=>hno j hj (by omega)
   have hss : nsStep s h.lg[k] = s:=by unfold nsStep;rw [hlc]
   rw [hss] at hsn
   replace e11 : st.s 11 = .p (I (-1)):=by rw [e11];rfl
   repeat' first|(refine hK _ ?_;clear hK)|(clear hK;refine hK _ ?_;clear hK)|(refine zT fun K hK=>?_)|(refine zS ?_;simp only [tZ,tY,strip])|((first | refine wOs fun K hK=>?_ | refine zW ?_);simp [e23,e11,hw])|(refine zC ?_;try simp)|(refine wOn ?_;try simp only [zZ])
   refine hL _ (N - 1) (by omega) ⟨k + 1,s,by omega,hsn.symm,?_⟩
   simp [e3,d3,e5,d5,e6,d6,e7,d7,e8,e21,e22]
  | succ r =>
   have hr5 : r < h.lg[k].ps.length:=by omega
   have hr5' : (r : Int) < h.lg[k].ps.length:=by omega
   have her:=pts_get hr5
   replace e11 : st.s 11 = .p (I (r : Int)):=by rw [e11];congr 3;omega
   have hwr : IntKind.i64.wrap ((r : Int) - 1) = (r : Int) - 1:=by rw [yV] <;> omega
   by_cases o : (h.lg[k].ps[r]).k = 5
   ·have hlc := lastC_at hr5 o fun j hj hjr => hno j hj (by omega)
    have hss : nsStep s h.lg[k] = ⟨s.now,(h.lg[k].ps[r]).c,h.lg[k].e,h.lg[k].n,true⟩:=by unfold nsStep;rw [hlc]
    rw [hss] at hsn
    repeat' first|(refine hK _ ?_;clear hK)|(refine hK _ _ ?_;clear hK)|(clear hK;refine hK _ ?_;clear hK)|(refine zT fun K hK=>?_)|((first | refine zS ?_ | refine yI ?_);simp only [tZ,tY,strip])|((first | refine wIs fun K hK=>?_ | refine wOs fun K hK=>?_ | refine zW ?_);simp [e5,d5,e6,d6,e7,d7,e23,e10,d10,e11,hw,hr5,o,Pt.cells])|(refine wIn ?_;refine And.intro (by kernel_rfl) ?_;try simp only [zZ])|(first | refine zU ?_)|((first | refine zC ?_ | refine zP ?_);try simp)|(refine wOn ?_;try simp only [zZ])
    refine hL _ (N - 1) (by omega) ⟨k + 1,_,by omega,hsn.symm,?_⟩
    simp [e3,d3,e5,e6,e7,e21,e22]
   ·repeat' first | (refine hK _ ?_; clear hK) | (refine zT fun K hK => ?_) | (refine zS ?_; simp only [tZ, tY, strip]) | ((first | refine wOs fun K hK => ?_ | refine zW ?_); simp [e10, d10, e11, hr5, o, hwr]) | (first | refine zU ?_) | (refine zP ?_; try simp) | (refine wOn ?_; try simp only [zZ])
    refine hL' _ r (by omega) ?_
    intro q hqr
    obtain rfl : r = q:=hqr.symm
    refine ⟨by omega,fun j hj hjq=>?_,?_⟩
    ·by_cases hjr : j = r
     ·subst hjr;exact o
     ·exact hno j hj (by omega)
    ·simp [e3,d3,e5,d5,e6,d6,e7,d7,e8,e21,e22,e23,e10,d10]
 ·have hlt' : ¬ (k : Int) < h.lg.length := by omega
  rw [List.take_of_length_le (by omega)] at hs
  have hno : yX h de dn = endN s de dn:=by unfold yX;rw [hs]
  rw [hno] at hr
  obtain ⟨hl1,hl2⟩:=nsOf_ok hk (l:=h.lg) fun t ht=>ht
  rw [<- hs] at hl1 hl2
  have c2:=uD s.fe s.fn de dn
  have c3:=ownConfig_con s.now.ep s.now.n s.now.kind (mbs s.now.ms) (by rw [mbs_len];omega)
  have c4:=ownConfig_con s.was.ep s.was.n s.was.kind (mbs s.was.ms) (by rw [mbs_len];omega)
  unfold endN at hr
  by_cases o1 : s.ch = false
  ·rw [if_pos (.inl o1)] at hr
   rw [o1] at g8
   repeat' first|(refine hK _ ?_;clear hK)|(clear hK;refine hK _ ?_;clear hK)|(refine zT fun K hK=>?_)|(refine zS ?_;simp only [tZ,tY,strip])|((first | refine wOs fun K hK=>?_ | refine zY ?_ | refine zW ?_);simp [g3,b3,g6,b6,g7,b7,g8,g22,g23,hlt'])|((first | refine zL ?_ | refine zC ?_);try simp)|(refine wOn ?_;try simp only [zZ])|(refine zR.pure (c3) rfl ?_)
   all_goals apply hr
   all_goals simp [Tryz.f112,cfs,Cf.cells]
  ·have o1' : s.ch = true := by simpa using o1
   rw [o1'] at g8
   by_cases o2 : xN s.fe s.fn de dn <= 0
   ·rw [if_pos (.inr o2)] at hr
    repeat' first|(refine hK _ ?_;clear hK)|(clear hK;refine hK _ ?_;clear hK)|(refine zT fun K hK=>?_)|(refine zS ?_;simp only [tZ,tY,strip])|((first | refine wOs fun K hK=>?_ | refine zY ?_ | refine zW ?_);simp [g3,b3,g6,b6,g7,b7,g8,g22,g23,hlt',o2])|((first | refine zL ?_ | refine zC ?_);try simp)|(refine wOn ?_;try simp only [zZ])|(refine zR.pure (c2) rfl ?_)|(refine zR.pure (c3) rfl ?_)
    all_goals apply hr
    all_goals simp [Tryz.f112,cfs,Cf.cells]
   ·rw [if_neg (by rintro (h | h); exact o1 h; exact o2 h)] at hr
    repeat' first|(refine hK _ ?_;clear hK)|(clear hK;refine hK _ ?_;clear hK)|(refine zT fun K hK=>?_)|((first | refine zS ?_ | refine yZ rfl (by kernel_rfl) ?_);simp only [tZ,tY,strip])|((first | refine wOs fun K hK=>?_ | refine wQs fun K hK=>?_ | refine zY ?_ | refine zM ?_ | refine zW ?_);simp [g3,b3,g5,b5,g6,b6,g7,b7,g8,g22,g23,hlt',o2])|((first | refine zL ?_ | refine zC ?_ | refine zP ?_);try simp)|((first | refine wOn ?_ | refine wQn ?_);try simp only [zZ])|(refine zR.pure (c2) rfl ?_)|(refine zJ.pure (c3) rfl ?_)|(refine zJ.pure (c4) rfl ?_)
    all_goals apply hr
    all_goals simp [Tryz.f112,cfs,Cf.cells]
end Go.Proofs.YtffflakmofbilaaGreat
namespace Go.Proofs.YtffflakmofbilaaGreat
set_option linter.unusedSimpArgs false
set_option linter.unusedVariables false
open Go Go.Av Go.RowKit
attribute [local go_sem] Oper.semAt_some
set_option maxRecDepth 100000 in
set_option maxHeartbeats 4000000 in
theorem backward_iter : IterB Tryz.prog 159 2 := by
 intro l lid q J Jx W0 hJ h0
 refine callsIn_of_wp Tryz.func159 rfl trivial ?_ rfl
 simp only [Tryz.ntmps159,List.size_toArray,List.length_cons,List.length_nil,Nat.reduceAdd,Nat.reduceSub,Array.replicate_succ,Array.replicate_zero,List.push_toArray,List.append_toArray,List.nil_append,List.cons_append]
 have key : ∀ k W, J k W -> ∃ bk off b cap, q = .pointer (some ⟨bk, off, none⟩) /\ W.cell? ⟨bk, off, none⟩ = some (.slice b l.length cap) /\ (l.length <= maxLen) /\ (∀ (h : k < l.length), ∃ (bb o : Nat) (c0 c1 : Value), b = some ⟨bb, o, none⟩ /\ W.cell? ⟨bb, o + (l.length - 1 - k) * 2, none⟩ = some c0 /\ W.cell? ⟨bb, o + (l.length - 1 - k) * 2 + 1, none⟩ = some c1 ∧
  YieldAt Fence.wide 1 Tryz.prog lid #[.int .i64 ((l.length - 1 - k : Nat) : Int),.agg #[c0,c1]] W fun e W'=>(e = .returned (.bool true) /\ J (k + 1) W') \/ (e = .returned (.bool false) /\ Jx W')):=fun k W hj=>by
  obtain ⟨G,bk,off,hq,hre,hy⟩:=hJ k W hj
  obtain ⟨-,hre⟩:=hre
  obtain ⟨-,u,hu,hrp⟩:=hre 0 _ rfl
  cases hrp with
  | nil=>exact ⟨bk,off,none,0,hq,hu,Nat.zero_le _,fun h=>by simp at h⟩
  | emp c a=>exact ⟨bk,off,some a,0,hq,hu,Nat.zero_le _,fun h=>by simp at h⟩
  | sl c l bb o cap uu hlen hm hk hc hone hcell hr =>
   refine ⟨bk,off,_,cap,hq,hu,Nat.le_trans hlen hm,fun h=>?_⟩
   have hlt : l.length - 1 - k < l.length:=by omega
   have h2:=hc _ _ (List.getElem?_eq_getElem hlt)
   have hget : ∀ j,j < 2 -> ∃ p,l[l.length - 1 - k][j]? = some p:=fun j hj=>⟨_,List.getElem?_eq_getElem (by omega)⟩
   obtain ⟨p0,hp0⟩:=hget 0 (by omega)
   obtain ⟨p1,hp1⟩:=hget 1 (by omega)
   have a0:=hcell _ _ 0 p0 (List.getElem?_eq_getElem hlt) hp0
   have a1:=hcell _ _ 1 p1 (List.getElem?_eq_getElem hlt) hp1
   refine ⟨bb,o,uu (l.length - 1 - k) 0,uu (l.length - 1 - k) 1,rfl,by simpa using a0,by rw [<- a1,Nat.add_assoc],hy h _ (.agg _ _ (uu (l.length - 1 - k)) (by simp [h2]) (fun j p hj=>hone _ _ j p (List.getElem?_eq_getElem hlt) hj) (fun j p hj=>?_) fun j p hj=>hr _ _ j p (List.getElem?_eq_getElem hlt) hj)⟩
   have hj2 : j < 2:=by have:=(List.getElem?_eq_some_iff.1 hj).1;omega
   match j,hj2 with
   | 0,_=>rfl
   | 1,_=>rfl
 clear hJ
 obtain ⟨bk,off,b,cap,rfl,hu,hlen,-⟩:=key 0 W0 h0
 have hlen : l.length <= 9223372036854775807:=by unfold maxLen at hlen;omega
 have hw0 : IntKind.i64.wrap ((l.length : Int) - 1) = (l.length : Int) - 1:=by rw [yV] <;> omega
 gi_wp2
 gi_loopw [3] (fun i wr=>∃ k : Nat,k <= l.length /\ i = .int .i64 ((l.length : Int) - 1 - k) /\ J k wr) (fun i _=>(intOf i + 1).toNat)
 case atStart=>exact ⟨0,Nat.zero_le _,by simp,h0⟩
 case round =>
  obtain ⟨k,hk,rfl,hJs⟩:=hrel
  obtain ⟨bk',off',b',cap',hq',hu',-,hy⟩:=key k wr hJs
  simp only [Value.pointer.injEq,tX,Addr.mk.injEq,and_true] at hq'
  obtain ⟨rfl,rfl⟩:=hq'
  by_cases hlt : k < l.length
  ·obtain ⟨bb, o, c0, c1, rfl, hc0, hc1, fn, tmps, assign, body, hyr, hR⟩ := hy hlt
   obtain ⟨i,hi⟩ : ∃ i : Nat,i = l.length - 1 - k:=⟨_,rfl⟩
   have hiI : (l.length : Int) - 1 - k = (i : Int):=by omega
   rw [<- hi] at hc0 hc1 hyr
   have hin : i < l.length:=by omega
   have hw1 : IntKind.i64.wrap ((i : Int) - 1) = (i : Int) - 1:=by rw [yV] <;> omega
   have hik : i + k + 1 = l.length:=by omega
   rw [hiI]
   clear hi hiI hy
   gi_wp2
   refine hR.mono ?_
   rintro e W3 (⟨rfl,hJ3⟩ | ⟨rfl,hJx3⟩)
   ·gi_wp2
    go_roundw
    case rel=>exact ⟨k + 1,by omega,by (simp <;> omega),hJ3⟩
    case measure=>(simp [intOf] <;> omega)
   ·gi_wp2
    refine bodyPost_ret (results_none rfl _ _ _) rfl ?_
    exact ⟨⟨_,rfl⟩,.inr hJx3⟩
  ·obtain rfl : k = l.length := by omega
   have hneg : (l.length : Int) - 1 - l.length = -1:=by omega
   rw [hneg]
   gi_wp2
   go_end0
   exact ⟨⟨_,rfl⟩,.inl hJs⟩
end Go.Proofs.YtffflakmofbilaaGreat
