/- Texts that the proof needs: SS3 SS4 SS5 SX1 SX2 SX3 SX4 SX5 SX6 RS1 CF6. -/
import Derived.Test.YtjekjpgccnhobaaDoorP29ConfigParts
import Derived.Test.YtjekjpgccnhobaaDoorP28ConfigParts
namespace Go.Proofs.YtjekjpgccnhobaaDoor
set_option linter.unusedSimpArgs false
set_option linter.unusedVariables false
set_option maxRecDepth 8000
open Go Go.Av
attribute [local irreducible] Go.Av.xH Go.Av.zU Go.Av.wY Go.Av.zT Go.Av.wZ Go.Av.zV Go.Av.Con
def mgP (g : List Mb -> Nat -> Nat -> Nat -> List Mb) (L : List Mb) (a m b s : Nat) : List Mb :=
 let e:=(a + b) / 2 + m - s
 let L1:=if s < m /\ m < e then rotM m (e - s) L (m - s) (e - m) else L
 let L2:=if a < s /\ s < (a + b) / 2 then g L1 a s ((a + b) / 2) else L1
 if (a + b) / 2 < e /\ e < b then g L2 ((a + b) / 2) e b else L2
def mgS (L : List Mb) (a m b : Nat) : Nat :=
 if (a + b) / 2 < m then bsL (fun c=>!ltM L ((a + b) / 2 + m - 1 - c) c) ((a + b) / 2 - ((a + b) / 2 + m - b)) ((a + b) / 2 + m - b) ((a + b) / 2)
 else bsL (fun c=>!ltM L ((a + b) / 2 + m - 1 - c) c) (m - a) a m
def symM : Nat -> List Mb -> Nat -> Nat -> Nat -> List Mb
 | 0,L,_,_,_=>L
 | f + 1, L, a, m, b =>
  if m - a = 1 then shU L a (bsL (fun h=>ltM L h a) (b - m) m b - 1 - a)
  else if b - m = 1 then shD L m (m - bsL (fun h=>!ltM L m h) (m - a) a m)
  else mgP (symM f) L a m b (mgS L a m b)
theorem mgP_len {g : List Mb -> Nat -> Nat -> Nat -> List Mb} (hg : ∀ L a m b, (g L a m b).length = L.length) (L : List Mb) (a m b s : Nat) : (mgP g L a m b s).length = L.length := by
 unfold mgP
 dsimp only
 split <;> (try rw [hg]) <;> (split <;> (try rw [hg]) <;> (split <;> simp))
theorem symM_len : ∀ (f : Nat) (L : List Mb) (a m b : Nat), (symM f L a m b).length = L.length
 | 0,_,_,_,_=>rfl
 | f + 1, L, a, m, b => by
  rw [symM]
  split
  ·simp
  split
  ·simp
  ·exact mgP_len (symM_len f) _ _ _ _ _
set_option maxHeartbeats 4000000 in
theorem sm6 {Q : AExit -> St -> Prop} {st : St} (f : Nat)
 (ih : ∀ (L : List Mb) (a m b : Nat),b - a <= f -> a < m -> m < b -> b <= L.length -> L.length <= 1000000 -> ConW Tryd.prog 46 [.row 1024,.p (I a),.p (I m),.p (I b),cmpV] 30 4 (mbs L) (mbs (symM f L a m b)) (.tup []))
 (L : List Mb) (a m b s : Nat) (ham : a + 1 < m) (hmb : m + 1 < b) (hb : b <= L.length) (hl : L.length <= 1000000) (hf : b - a <= f + 1) (hs1 : s <= m) (hs2 : s <= (a + b) / 2) (hs3 : a <= s) (hs4 : (a + b) / 2 + m <= b + s)
 (hex : ∀ st,st.s 0 = .row 1024 -> st.b 1024 = some (.row 30 4 (mbs (mgP (symM f) L a m b s))) -> Q .normal st)
 (g0 : st.s 0 = .row 1024) (g1 : st.s 1 = .p (I a)) (g2 : st.s 2 = .p (I m)) (g3 : st.s 3 = .p (I b)) (g4 : st.s 4 = cmpV) (g18 : st.s 18 = .p (I (((a + b) / 2 : Nat) : Int))) (g19 : st.s 19 = .p (I (((a + b) / 2 + m : Nat) : Int))) (g20 : st.s 20 = .p (I s)) (b0 : st.b 1024 = some (.row 30 4 (mbs L))) :
 WC Tryd.prog Tryd.T (220 + 4096) (sfx Tryd.f46 8) Q st:=by
 unfold mgP at hex
 dsimp only at hex
 obtain ⟨d,hd⟩ : ∃ d,d = (a + b) / 2:=⟨_,rfl⟩
 have hd1 : a + 1 < d:=by omega
 have hd2 : d + 1 < b:=by omega
 rw [<- hd] at hex g18 g19 hs2 hs4
 clear hd
 obtain ⟨n,hn⟩ : ∃ n,n = d + m:=⟨_,rfl⟩
 rw [<- hn] at hex g19 hs4
 obtain ⟨e,he⟩ : ∃ e,e = n - s:=⟨_,rfl⟩
 have w1 : IntKind.i64.wrap ((n : Int) - s) = (e : Int):=by rw [zG] <;> omega
 rw [<- he] at hex
 have he1 : e <= b:=by omega
 have he2 : d <= e:=by omega
 unfold sfx
 simp only [Tryd.f46,sfxC]
 have tail : ∀ (X Y : List Mb) (st : St), X.length = L.length -> Y = (if d < e /\ e < b then symM f X d e b else X) -> (∀ st, st.s 0 = .row 1024 -> st.b 1024 = some (.row 30 4 (mbs Y)) -> Q .normal st) -> st.s 0 = .row 1024 -> st.s 3 = .p (I b) -> st.s 4 = cmpV -> st.s 18 = .p (I d) -> st.s 24 = .p (I e) -> st.b 1024 = some (.row 30 4 (mbs X)) →
  WC Tryd.prog Tryd.T (220 + 4096) (sfx Tryd.f46 11) Q st:=fun X Y st hX hY hex g0 g3 g4 g18 g24 b0=>by
  unfold sfx
  simp only [Tryd.f46,sfxC]
  by_cases q1 : d < e
  ·have q1' : (d : Int) < e := by omega
   by_cases q2 : e < b
   ·have q2' : (e : Int) < b := by omega
    rw [if_pos ⟨q1,q2⟩] at hY
    have c1:=ih X d e b (by omega) q1 q2 (by omega) (by omega)
    rw [<- hY] at c1
    repeat' first|(refine yX 1024 (c1) (by simp [b0]) (by simp [yO,argG,yY,inN,pos,yF,renC,b0]) rfl ?_;simp [b0])|(refine hK _ ?_;clear hK)|(refine hK _ _ ?_;clear hK)|(clear hK;refine hK _ ?_;clear hK)|(clear hK;clear hK;refine hK _ ?_;clear hK)|(clear hK;clear hK;clear hK;refine hK _ ?_;clear hK)|(clear hK;clear hK;clear hK;clear hK;refine hK _ ?_;clear hK)|(refine zJ fun K hK=>?_)|((first | refine zH ?_ | refine zN rfl (by kernel_rfl) ?_ | refine zM ?_ | refine zK (by kernel_rfl) ?_);simp only [wX,wW,strip])|((first | refine wIs fun K hK=>?_ | refine wOs fun K hK=>?_ | refine wQs fun K hK=>?_ | refine zW ?_ | refine zX ?_ | refine zY ?_ | refine zL ?_);simp [g0,g3,g4,g18,g24,b0,q1,q1',q2,q2'])|(refine wIn ?_;refine And.intro (by kernel_rfl) ?_;try simp only [zZ])|(first | refine zQ ?_ | refine zS ?_)|((first | refine zI ?_ | refine zO ?_ | refine zP ?_);try simp)|((first | refine zR ?_ | refine wOn ?_ | refine wQn ?_);try simp only [zZ])
    all_goals apply hex
    all_goals simp [g0,b0]
   ·have q2' : ¬ (e : Int) < b := by omega
    rw [if_neg (fun h=>q2 h.2)] at hY
    subst hY
    repeat' first|(refine hK _ ?_;clear hK)|(refine hK _ _ ?_;clear hK)|(clear hK;refine hK _ ?_;clear hK)|(clear hK;clear hK;refine hK _ ?_;clear hK)|(clear hK;clear hK;clear hK;refine hK _ ?_;clear hK)|(clear hK;clear hK;clear hK;clear hK;refine hK _ ?_;clear hK)|(refine zJ fun K hK=>?_)|((first | refine zH ?_ | refine zN rfl (by kernel_rfl) ?_ | refine zM ?_ | refine zK (by kernel_rfl) ?_);simp only [wX,wW,strip])|((first | refine wIs fun K hK=>?_ | refine wOs fun K hK=>?_ | refine wQs fun K hK=>?_ | refine zW ?_ | refine zX ?_ | refine zY ?_ | refine zL ?_);simp [g0,g3,g4,g18,g24,b0,q1,q1',q2,q2'])|(refine wIn ?_;refine And.intro (by kernel_rfl) ?_;try simp only [zZ])|(first | refine zQ ?_ | refine zS ?_)|((first | refine zI ?_ | refine zO ?_ | refine zP ?_);try simp)|((first | refine zR ?_ | refine wOn ?_ | refine wQn ?_);try simp only [zZ])
    all_goals apply hex
    all_goals simp [g0,b0]
  ·have q1' : ¬ (d : Int) < e := by omega
   rw [if_neg (fun h=>q1 h.1)] at hY
   subst hY
   repeat' first|(refine hK _ ?_;clear hK)|(refine hK _ _ ?_;clear hK)|(clear hK;refine hK _ ?_;clear hK)|(clear hK;clear hK;refine hK _ ?_;clear hK)|(clear hK;clear hK;clear hK;refine hK _ ?_;clear hK)|(clear hK;clear hK;clear hK;clear hK;refine hK _ ?_;clear hK)|(refine zJ fun K hK=>?_)|((first | refine zH ?_ | refine zN rfl (by kernel_rfl) ?_ | refine zM ?_ | refine zK (by kernel_rfl) ?_);simp only [wX,wW,strip])|((first | refine wIs fun K hK=>?_ | refine wOs fun K hK=>?_ | refine wQs fun K hK=>?_ | refine zW ?_ | refine zX ?_ | refine zY ?_ | refine zL ?_);simp [g0,g3,g4,g18,g24,b0,q1,q1'])|(refine wIn ?_;refine And.intro (by kernel_rfl) ?_;try simp only [zZ])|(first | refine zQ ?_ | refine zS ?_)|((first | refine zI ?_ | refine zO ?_ | refine zP ?_);try simp)|((first | refine zR ?_ | refine wOn ?_ | refine wQn ?_);try simp only [zZ])
   all_goals apply hex
   all_goals simp [g0,b0]
 have tail2 : ∀ (X Y : List Mb) (st : St), X.length = L.length -> Y = (if a < s /\ s < d then symM f X a s d else X) -> (∀ st, st.s 0 = .row 1024 -> st.b 1024 = some (.row 30 4 (mbs (if d < e /\ e < b then symM f Y d e b else Y))) -> Q .normal st) -> st.s 0 = .row 1024 -> st.s 1 = .p (I a) -> st.s 3 = .p (I b) -> st.s 4 = cmpV -> st.s 18 = .p (I d) -> st.s 20 = .p (I s) -> st.s 24 = .p (I e) -> st.b 1024 = some (.row 30 4 (mbs X)) →
  WC Tryd.prog Tryd.T (220 + 4096) (sfx Tryd.f46 10) Q st:=fun X Y st hX hY hex g0 g1 g3 g4 g18 g20 g24 b0=>by
  have hYl : Y.length = L.length := by rw [hY]; split; · rw [symM_len, hX]
                                       exact hX
  have tl:=fun st h0 h3 h4 h18 h24 hb=>tail Y _ st hYl rfl hex h0 h3 h4 h18 h24 hb
  unfold sfx at tl ⊢
  simp only [Tryd.f46,sfxC] at tl ⊢
  by_cases q1 : a < s
  ·have q1' : (a : Int) < s := by omega
   by_cases q2 : s < d
   ·have q2' : (s : Int) < d := by omega
    rw [if_pos ⟨q1,q2⟩] at hY
    have c1:=ih X a s d (by omega) q1 q2 (by omega) (by omega)
    rw [<- hY] at c1
    repeat' first|(refine yX 1024 (c1) (by simp [b0]) (by simp [yO,argG,yY,inN,pos,yF,renC,b0]) rfl ?_;simp [b0]) | apply tl|(refine hK _ ?_;clear hK)|(refine hK _ _ ?_;clear hK)|(clear hK;refine hK _ ?_;clear hK)|(clear hK;clear hK;refine hK _ ?_;clear hK)|(clear hK;clear hK;clear hK;refine hK _ ?_;clear hK)|(clear hK;clear hK;clear hK;clear hK;refine hK _ ?_;clear hK)|(refine zJ fun K hK=>?_)|((first | refine zH ?_ | refine zN rfl (by kernel_rfl) ?_ | refine zM ?_ | refine zK (by kernel_rfl) ?_);simp only [wX,wW,strip])|((first | refine wIs fun K hK=>?_ | refine wOs fun K hK=>?_ | refine wQs fun K hK=>?_ | refine zW ?_ | refine zX ?_ | refine zY ?_ | refine zL ?_);simp [g0,g1,g3,g4,g18,g20,g24,b0,q1,q1',q2,q2'])|(refine wIn ?_;refine And.intro (by kernel_rfl) ?_;try simp only [zZ])|(first | refine zQ ?_ | refine zS ?_)|((first | refine zI ?_ | refine zO ?_ | refine zP ?_);try simp)|((first | refine zR ?_ | refine wOn ?_ | refine wQn ?_);try simp only [zZ])
    all_goals simp [g0,g3,g4,g18,g24,b0]
   ·have q2' : ¬ (s : Int) < d := by omega
    rw [if_neg (fun h=>q2 h.2)] at hY
    subst hY
    repeat' first | apply tl|(refine hK _ ?_;clear hK)|(refine hK _ _ ?_;clear hK)|(clear hK;refine hK _ ?_;clear hK)|(clear hK;clear hK;refine hK _ ?_;clear hK)|(clear hK;clear hK;clear hK;refine hK _ ?_;clear hK)|(clear hK;clear hK;clear hK;clear hK;refine hK _ ?_;clear hK)|(refine zJ fun K hK=>?_)|((first | refine zH ?_ | refine zN rfl (by kernel_rfl) ?_ | refine zM ?_ | refine zK (by kernel_rfl) ?_);simp only [wX,wW,strip])|((first | refine wIs fun K hK=>?_ | refine wOs fun K hK=>?_ | refine wQs fun K hK=>?_ | refine zW ?_ | refine zX ?_ | refine zY ?_ | refine zL ?_);simp [g0,g1,g3,g4,g18,g20,g24,b0,q1,q1',q2,q2'])|(refine wIn ?_;refine And.intro (by kernel_rfl) ?_;try simp only [zZ])|(first | refine zQ ?_ | refine zS ?_)|((first | refine zI ?_ | refine zO ?_ | refine zP ?_);try simp)|((first | refine zR ?_ | refine wOn ?_ | refine wQn ?_);try simp only [zZ])
    all_goals simp [g0,g3,g4,g18,g24,b0]
  ·have q1' : ¬ (a : Int) < s := by omega
   rw [if_neg (fun h=>q1 h.1)] at hY
   subst hY
   repeat' first | apply tl|(refine hK _ ?_;clear hK)|(refine hK _ _ ?_;clear hK)|(clear hK;refine hK _ ?_;clear hK)|(clear hK;clear hK;refine hK _ ?_;clear hK)|(clear hK;clear hK;clear hK;refine hK _ ?_;clear hK)|(clear hK;clear hK;clear hK;clear hK;refine hK _ ?_;clear hK)|(refine zJ fun K hK=>?_)|((first | refine zH ?_ | refine zN rfl (by kernel_rfl) ?_ | refine zM ?_ | refine zK (by kernel_rfl) ?_);simp only [wX,wW,strip])|((first | refine wIs fun K hK=>?_ | refine wOs fun K hK=>?_ | refine wQs fun K hK=>?_ | refine zW ?_ | refine zX ?_ | refine zY ?_ | refine zL ?_);simp [g0,g1,g3,g4,g18,g20,g24,b0,q1,q1'])|(refine wIn ?_;refine And.intro (by kernel_rfl) ?_;try simp only [zZ])|(first | refine zQ ?_ | refine zS ?_)|((first | refine zI ?_ | refine zO ?_ | refine zP ?_);try simp)|((first | refine zR ?_ | refine wOn ?_ | refine wQn ?_);try simp only [zZ])
   all_goals simp [g0,g3,g4,g18,g24,b0]
 obtain ⟨Y,hY⟩ : ∃ Y,Y = (if s < m /\ m < e then rotM m (e - s) L (m - s) (e - m) else L):=⟨_,rfl⟩
 rw [<- hY] at hex
 have hYl : Y.length = L.length:=by rw [hY];split <;> simp
 have tl:=fun st h0 h1 h3 h4 h18 h20 h24 hb=>tail2 Y _ st hYl rfl hex h0 h1 h3 h4 h18 h20 h24 hb
 clear tail tail2
 unfold sfx at tl
 simp only [Tryd.f46,sfxC] at tl
 by_cases q1 : s < m
 ·have q1' : (s : Int) < m := by omega
  by_cases q2 : m < e
  ·have q2' : (m : Int) < e := by omega
   rw [if_pos ⟨q1,q2⟩] at hY
   have c1:=rotate_con L s m e q1 q2 (by omega) hl
   rw [<- hY] at c1
   repeat' first|(refine yX 1024 (c1) (by simp [b0]) (by simp [yO,argG,yY,inN,pos,yF,renC,b0]) rfl ?_;simp [b0]) | apply tl|(refine hK _ ?_;clear hK)|(refine hK _ _ ?_;clear hK)|(clear hK;refine hK _ ?_;clear hK)|(clear hK;clear hK;refine hK _ ?_;clear hK)|(clear hK;clear hK;clear hK;refine hK _ ?_;clear hK)|(clear hK;clear hK;clear hK;clear hK;refine hK _ ?_;clear hK)|(refine zJ fun K hK=>?_)|((first | refine zH ?_ | refine zN rfl (by kernel_rfl) ?_ | refine zM ?_ | refine zK (by kernel_rfl) ?_);simp only [wX,wW,strip])|((first | refine wIs fun K hK=>?_ | refine wOs fun K hK=>?_ | refine wQs fun K hK=>?_ | refine zW ?_ | refine zX ?_ | refine zY ?_ | refine zL ?_);simp [g0,g1,g2,g3,g4,g18,g19,g20,b0,w1,q1,q1',q2,q2'])|(refine wIn ?_;refine And.intro (by kernel_rfl) ?_;try simp only [zZ])|(first | refine zQ ?_ | refine zS ?_)|((first | refine zI ?_ | refine zO ?_ | refine zP ?_);try simp)|((first | refine zR ?_ | refine wOn ?_ | refine wQn ?_);try simp only [zZ])
   all_goals simp [g0,g1,g3,g4,g18,g20,b0,w1]
  ·have q2' : ¬ (m : Int) < e := by omega
   rw [if_neg (fun h=>q2 h.2)] at hY
   subst hY
   repeat' first | apply tl|(refine hK _ ?_;clear hK)|(refine hK _ _ ?_;clear hK)|(clear hK;refine hK _ ?_;clear hK)|(clear hK;clear hK;refine hK _ ?_;clear hK)|(clear hK;clear hK;clear hK;refine hK _ ?_;clear hK)|(clear hK;clear hK;clear hK;clear hK;refine hK _ ?_;clear hK)|(refine zJ fun K hK=>?_)|((first | refine zH ?_ | refine zN rfl (by kernel_rfl) ?_ | refine zM ?_ | refine zK (by kernel_rfl) ?_);simp only [wX,wW,strip])|((first | refine wIs fun K hK=>?_ | refine wOs fun K hK=>?_ | refine wQs fun K hK=>?_ | refine zW ?_ | refine zX ?_ | refine zY ?_ | refine zL ?_);simp [g0,g1,g2,g3,g4,g18,g19,g20,b0,w1,q1,q1',q2,q2'])|(refine wIn ?_;refine And.intro (by kernel_rfl) ?_;try simp only [zZ])|(first | refine zQ ?_ | refine zS ?_)|((first | refine zI ?_ | refine zO ?_ | refine zP ?_);try simp)|((first | refine zR ?_ | refine wOn ?_ | refine wQn ?_);try simp only [zZ])
   all_goals simp [g0,g1,g3,g4,g18,g20,b0,w1]
 ·have q1' : ¬ (s : Int) < m := by omega
  rw [if_neg (fun h=>q1 h.1)] at hY
  subst hY
  repeat' first | apply tl|(refine hK _ ?_;clear hK)|(refine hK _ _ ?_;clear hK)|(clear hK;refine hK _ ?_;clear hK)|(clear hK;clear hK;refine hK _ ?_;clear hK)|(clear hK;clear hK;clear hK;refine hK _ ?_;clear hK)|(clear hK;clear hK;clear hK;clear hK;refine hK _ ?_;clear hK)|(refine zJ fun K hK=>?_)|((first | refine zH ?_ | refine zN rfl (by kernel_rfl) ?_ | refine zM ?_ | refine zK (by kernel_rfl) ?_);simp only [wX,wW,strip])|((first | refine wIs fun K hK=>?_ | refine wOs fun K hK=>?_ | refine wQs fun K hK=>?_ | refine zW ?_ | refine zX ?_ | refine zY ?_ | refine zL ?_);simp [g0,g1,g2,g3,g4,g18,g19,g20,b0,w1,q1,q1'])|(refine wIn ?_;refine And.intro (by kernel_rfl) ?_;try simp only [zZ])|(first | refine zQ ?_ | refine zS ?_)|((first | refine zI ?_ | refine zO ?_ | refine zP ?_);try simp)|((first | refine zR ?_ | refine wOn ?_ | refine wQn ?_);try simp only [zZ])
  all_goals simp [g0,g1,g3,g4,g18,g20,b0,w1]
set_option maxHeartbeats 4000000 in
theorem symM_con : ∀ (f : Nat) (L : List Mb) (a m b : Nat), b - a <= f -> a < m -> m < b -> b <= L.length -> L.length <= 1000000 -> ConW Tryd.prog 46 [.row 1024, .p (I a), .p (I m), .p (I b), cmpV] 30 4 (mbs L) (mbs (symM f L a m b)) (.tup []) := by
 intro f
 induction f with
 | zero=>intro L a m b h0 h1 h2;omega
 | succ f ih =>
  intro L a m b hf ham hmb hb hl
  have w1 : IntKind.i64.wrap ((m : Int) - a) = ((m - a : Nat) : Int):=by rw [zG] <;> omega
  have w2 : IntKind.i64.wrap ((b : Int) - m) = ((b - m : Nat) : Int):=by rw [zG] <;> omega
  generalize hR : symM (f + 1) L a m b = R
  rw [symM] at hR
  by_cases q1 : m - a = 1
  ·rw [if_pos q1] at hR
   have q1' : ((m - a : Nat) : Int) = 1:=by omega
   obtain ⟨k,hk⟩ : ∃ k,k = bsL (fun h=>ltM L h a) (b - m) m b:=⟨_,rfl⟩
   have hkb:=bsL_bd (fun h=>ltM L h a) (b - m) m b (by omega)
   rw [<- hk] at hkb hR
   generalize m - a = u at *
   refine wBodyW Tryd.tab Tryd.mixed Tryd.func46 rfl rfl Tryd.ntmps46 (by simp) (by simp) rfl rfl fun Q hr hn=>?_
   repeat' first|(refine hK _ ?_;clear hK)|(refine hK _ _ ?_;clear hK)|(clear hK;refine hK _ ?_;clear hK)|(clear hK;clear hK;refine hK _ ?_;clear hK)|(clear hK;clear hK;clear hK;refine hK _ ?_;clear hK)|(clear hK;clear hK;clear hK;clear hK;refine hK _ ?_;clear hK)|(refine zJ fun K hK=>?_)|((first | refine zH ?_ | refine zN rfl (by kernel_rfl) ?_ | refine zM ?_ | refine zK (by kernel_rfl) ?_);simp only [wX,wW,strip])|((first | refine wIs fun K hK=>?_ | refine wOs fun K hK=>?_ | refine wQs fun K hK=>?_ | refine zW ?_ | refine zX ?_ | refine zY ?_ | refine zL ?_);simp [w1,q1,q1'])|(refine wIn ?_;refine And.intro (by kernel_rfl) ?_;try simp only [zZ])|(first | refine zQ ?_ | refine zS ?_)|((first | refine zI ?_ | refine zO ?_ | refine zP ?_);try simp)|((first | refine zR ?_ | refine wOn ?_ | refine wQn ?_);try simp only [zZ])
   refine sm1 L a m b k (by omega) (by omega) (by omega) hk (by omega) (fun st g0 g1 g10 b0=>?_) (by simp) (by simp) (by simp) (by simp) (by simp) (by simp)
   repeat' first|(refine hK _ ?_;clear hK)|(refine hK _ _ ?_;clear hK)|(clear hK;refine hK _ ?_;clear hK)|(clear hK;clear hK;refine hK _ ?_;clear hK)|(clear hK;clear hK;clear hK;refine hK _ ?_;clear hK)|(clear hK;clear hK;clear hK;clear hK;refine hK _ ?_;clear hK)|(refine zJ fun K hK=>?_)|((first | refine zH ?_ | refine zN rfl (by kernel_rfl) ?_ | refine zM ?_ | refine zK (by kernel_rfl) ?_);simp only [wX,wW,strip])|((first | refine wIs fun K hK=>?_ | refine wOs fun K hK=>?_ | refine wQs fun K hK=>?_ | refine zW ?_ | refine zX ?_ | refine zY ?_ | refine zL ?_);simp [g0,g1,g10,b0])|(refine wIn ?_;refine And.intro (by kernel_rfl) ?_;try simp only [zZ])|(first | refine zQ ?_ | refine zS ?_)|((first | refine zI ?_ | refine zO ?_ | refine zP ?_);try simp)|((first | refine zR ?_ | refine wOn ?_ | refine wQn ?_);try simp only [zZ])
   refine sm2 L a k (by omega) (by omega) (by omega) (fun st g0 b0=>?_) (by simp [g0]) (by simp [g10]) (by simp [g1]) (by simp [b0])
   rw [hR] at b0
   repeat' first|(refine hK _ ?_;clear hK)|(refine hK _ _ ?_;clear hK)|(clear hK;refine hK _ ?_;clear hK)|(clear hK;clear hK;refine hK _ ?_;clear hK)|(clear hK;clear hK;clear hK;refine hK _ ?_;clear hK)|(clear hK;clear hK;clear hK;clear hK;refine hK _ ?_;clear hK)|(refine zJ fun K hK=>?_)|((first | refine zH ?_ | refine zN rfl (by kernel_rfl) ?_ | refine zM ?_ | refine zK (by kernel_rfl) ?_);simp only [wX,wW,strip])|((first | refine wIs fun K hK=>?_ | refine wOs fun K hK=>?_ | refine wQs fun K hK=>?_ | refine zW ?_ | refine zX ?_ | refine zY ?_ | refine zL ?_);simp [g0,b0])|(refine wIn ?_;refine And.intro (by kernel_rfl) ?_;try simp only [zZ])|(first | refine zQ ?_ | refine zS ?_)|((first | refine zI ?_ | refine zO ?_ | refine zP ?_);try simp)|((first | refine zR ?_ | refine wOn ?_ | refine wQn ?_);try simp only [zZ])
   all_goals first | refine hn _ ⟨[],by simp,by simp,?_⟩ (by simp [g0]) (by simp [b0]) | refine hr _ ⟨[],by simp,by simp,?_⟩ (by simp [g0]) (by simp [b0])
   all_goals simp [Tryd.f46,outR,outB,yP,b0]
  rw [if_neg q1] at hR
  have q1' : (((m - a : Nat) : Int) = 1) = False:=eq_false (by omega)
  by_cases q2 : b - m = 1
  ·rw [if_pos q2] at hR
   have q2' : ((b - m : Nat) : Int) = 1:=by omega
   obtain ⟨k,hk⟩ : ∃ k,k = bsL (fun h=>!ltM L m h) (m - a) a m:=⟨_,rfl⟩
   have hkb:=bsL_bd (fun h=>!ltM L m h) (m - a) a m (by omega)
   rw [<- hk] at hkb hR
   obtain ⟨u,hu⟩ : ∃ u,u = m - a:=⟨_,rfl⟩
   rw [<- hu] at w1 q1 q1'
   obtain ⟨v,hv⟩ : ∃ v,v = b - m:=⟨_,rfl⟩
   rw [<- hv] at w2 q2 q2'
   refine wBodyW Tryd.tab Tryd.mixed Tryd.func46 rfl rfl Tryd.ntmps46 (by simp) (by simp) rfl rfl fun Q hr hn=>?_
   repeat' first|(refine hK _ ?_;clear hK)|(refine hK _ _ ?_;clear hK)|(clear hK;refine hK _ ?_;clear hK)|(clear hK;clear hK;refine hK _ ?_;clear hK)|(clear hK;clear hK;clear hK;refine hK _ ?_;clear hK)|(clear hK;clear hK;clear hK;clear hK;refine hK _ ?_;clear hK)|(refine zJ fun K hK=>?_)|((first | refine zH ?_ | refine zN rfl (by kernel_rfl) ?_ | refine zM ?_ | refine zK (by kernel_rfl) ?_);simp only [wX,wW,strip])|((first | refine wIs fun K hK=>?_ | refine wOs fun K hK=>?_ | refine wQs fun K hK=>?_ | refine zW ?_ | refine zX ?_ | refine zY ?_ | refine zL ?_);simp [w1,q1,q1',w2,q2,q2'])|(refine wIn ?_;refine And.intro (by kernel_rfl) ?_;try simp only [zZ])|(first | refine zQ ?_ | refine zS ?_)|((first | refine zI ?_ | refine zO ?_ | refine zP ?_);try simp)|((first | refine zR ?_ | refine wOn ?_ | refine wQn ?_);try simp only [zZ])
   refine sm3 L a m k (by omega) (by omega) (by omega) hk (fun st g0 g2 g14 b0=>?_) (by simp) (by simp) (by simp) (by simp) (by simp) (by simp)
   repeat' first|(refine hK _ ?_;clear hK)|(refine hK _ _ ?_;clear hK)|(clear hK;refine hK _ ?_;clear hK)|(clear hK;clear hK;refine hK _ ?_;clear hK)|(clear hK;clear hK;clear hK;refine hK _ ?_;clear hK)|(clear hK;clear hK;clear hK;clear hK;refine hK _ ?_;clear hK)|(refine zJ fun K hK=>?_)|((first | refine zH ?_ | refine zN rfl (by kernel_rfl) ?_ | refine zM ?_ | refine zK (by kernel_rfl) ?_);simp only [wX,wW,strip])|((first | refine wIs fun K hK=>?_ | refine wOs fun K hK=>?_ | refine wQs fun K hK=>?_ | refine zW ?_ | refine zX ?_ | refine zY ?_ | refine zL ?_);simp [g0,g2,g14,b0])|(refine wIn ?_;refine And.intro (by kernel_rfl) ?_;try simp only [zZ])|(first | refine zQ ?_ | refine zS ?_)|((first | refine zI ?_ | refine zO ?_ | refine zP ?_);try simp)|((first | refine zR ?_ | refine wOn ?_ | refine wQn ?_);try simp only [zZ])
   refine sm4 L m k (by omega) (by omega) (by omega) (fun st g0 b0=>?_) (by simp [g0]) (by simp [g14]) (by simp [g2]) (by simp [b0])
   rw [hR] at b0
   repeat' first|(refine hK _ ?_;clear hK)|(refine hK _ _ ?_;clear hK)|(clear hK;refine hK _ ?_;clear hK)|(clear hK;clear hK;refine hK _ ?_;clear hK)|(clear hK;clear hK;clear hK;refine hK _ ?_;clear hK)|(clear hK;clear hK;clear hK;clear hK;refine hK _ ?_;clear hK)|(refine zJ fun K hK=>?_)|((first | refine zH ?_ | refine zN rfl (by kernel_rfl) ?_ | refine zM ?_ | refine zK (by kernel_rfl) ?_);simp only [wX,wW,strip])|((first | refine wIs fun K hK=>?_ | refine wOs fun K hK=>?_ | refine wQs fun K hK=>?_ | refine zW ?_ | refine zX ?_ | refine zY ?_ | refine zL ?_);simp [g0,b0])|(refine wIn ?_;refine And.intro (by kernel_rfl) ?_;try simp only [zZ])|(first | refine zQ ?_ | refine zS ?_)|((first | refine zI ?_ | refine zO ?_ | refine zP ?_);try simp)|((first | refine zR ?_ | refine wOn ?_ | refine wQn ?_);try simp only [zZ])
   all_goals first | refine hn _ ⟨[],by simp,by simp,?_⟩ (by simp [g0]) (by simp [b0]) | refine hr _ ⟨[],by simp,by simp,?_⟩ (by simp [g0]) (by simp [b0])
   all_goals simp [Tryd.f46,outR,outB,yP,b0]
  rw [if_neg q2] at hR
  have q2' : (((b - m : Nat) : Int) = 1) = False:=eq_false (by omega)
  have w3 : IntKind.i64.wrap ((a : Int) + b) = ((a + b : Nat) : Int):=by rw [zG] <;> omega
  have w4:=half_w (a + b) (by omega)
  have hd1 : a + 1 < (a + b) / 2:=by omega
  have hd2 : (a + b) / 2 + 1 < b:=by omega
  have w5 : IntKind.i64.wrap ((((a + b) / 2 : Nat) : Int) + m) = (((a + b) / 2 + m : Nat) : Int):=by rw [zG] <;> omega
  have w6 : IntKind.i64.wrap ((((a + b) / 2 + m : Nat) : Int) - 1) = (((a + b) / 2 + m - 1 : Nat) : Int):=by rw [zG] <;> omega
  have w7 : (a + b) / 2 < m -> IntKind.i64.wrap ((((a + b) / 2 + m : Nat) : Int) - b) = (((a + b) / 2 + m - b : Nat) : Int):=fun h=>by rw [zG] <;> omega
  have s6:=fun Q st s h1 h2 h3 h4 he=>sm6 (Q:=Q) (st:=st) f ih L a m b s (by omega) (by omega) hb hl (by omega) h1 h2 h3 h4 he
  unfold mgS at hR
  obtain ⟨u,hu⟩ : ∃ u,u = m - a:=⟨_,rfl⟩
  rw [<- hu] at w1 q1 q1'
  obtain ⟨v,hv⟩ : ∃ v,v = b - m:=⟨_,rfl⟩
  rw [<- hv] at w2 q2 q2'
  by_cases q3 : (a + b) / 2 < m
  ·have w7 := w7 q3
   rw [if_pos q3] at hR
   obtain ⟨d,hd⟩ : ∃ d,d = (a + b) / 2:=⟨_,rfl⟩
   rw [<- hd] at hR w4 w5 w6 w7 s6 hd1 hd2 q3
   have q3' : (d : Int) < m:=by omega
   obtain ⟨n,hn0⟩ : ∃ n,n = d + m:=⟨_,rfl⟩
   rw [<- hn0] at hR w5 w6 w7 s6
   obtain ⟨ab,hab⟩ : ∃ ab,ab = a + b:=⟨_,rfl⟩
   rw [<- hab] at w3 w4 hd
   obtain ⟨p,hp⟩ : ∃ p,p = n - 1:=⟨_,rfl⟩
   rw [<- hp] at w6 hR
   obtain ⟨s0,hs0⟩ : ∃ s0,s0 = n - b:=⟨_,rfl⟩
   rw [<- hs0] at w7 hR
   obtain ⟨k,hk⟩ : ∃ k,k = bsL (fun c=>!ltM L (p - c) c) (d - s0) s0 d:=⟨_,rfl⟩
   have hkb:=bsL_bd (fun c=>!ltM L (p - c) c) (d - s0) s0 d (by omega)
   rw [<- hk] at hkb hR
   refine wBodyW Tryd.tab Tryd.mixed Tryd.func46 rfl rfl Tryd.ntmps46 (by simp) (by simp) rfl rfl fun Q hr hn=>?_
   have s6:=s6 Q
   unfold sfx at s6
   simp only [Tryd.f46,sfxC] at s6
   repeat' first|(refine hK _ ?_;clear hK)|(refine hK _ _ ?_;clear hK)|(clear hK;refine hK _ ?_;clear hK)|(clear hK;clear hK;refine hK _ ?_;clear hK)|(clear hK;clear hK;clear hK;refine hK _ ?_;clear hK)|(clear hK;clear hK;clear hK;clear hK;refine hK _ ?_;clear hK)|(refine zJ fun K hK=>?_)|((first | refine zH ?_ | refine zN rfl (by kernel_rfl) ?_ | refine zM ?_ | refine zK (by kernel_rfl) ?_);simp only [wX,wW,strip])|((first | refine wIs fun K hK=>?_ | refine wOs fun K hK=>?_ | refine wQs fun K hK=>?_ | refine zW ?_ | refine zX ?_ | refine zY ?_ | refine zL ?_);simp [w1,q1,q1',w2,q2,q2',w3,w4,w5,w6,w7,q3,q3'])|(refine wIn ?_;refine And.intro (by kernel_rfl) ?_;try simp only [zZ])|(first | refine zQ ?_ | refine zS ?_)|((first | refine zI ?_ | refine zO ?_ | refine zP ?_);try simp)|((first | refine zR ?_ | refine wOn ?_ | refine wQn ?_);try simp only [zZ])
   refine sm5 L s0 d p k a m b d n (by omega) (by omega) (by omega) (by omega) (by omega) (by omega) (by first | exact hk|(rw [<- hu];exact hk)) (fun st g0 g1 g2 g3 g4 g18 g19 g20 b0=>?_) (by simp) (by simp) (by simp) (by simp) (by simp) (by simp) (by simp) (by simp) (by simp) (by simp) (by simp)
   have s6 := fun st => s6 st k (by omega) (by omega) (by omega) (by omega) (fun st g0 b0 => by
    rw [hR] at b0
    refine hn _ ⟨[],by simp,by simp,?_⟩ (by simp [g0]) (by simp [b0])
    simp [Tryd.f46,outR,outB,yP,b0])
   repeat' first | apply s6|(refine hK _ ?_;clear hK)|(refine hK _ _ ?_;clear hK)|(clear hK;refine hK _ ?_;clear hK)|(clear hK;clear hK;refine hK _ ?_;clear hK)|(clear hK;clear hK;clear hK;refine hK _ ?_;clear hK)|(clear hK;clear hK;clear hK;clear hK;refine hK _ ?_;clear hK)|(refine zJ fun K hK=>?_)|((first | refine zH ?_ | refine zN rfl (by kernel_rfl) ?_ | refine zM ?_ | refine zK (by kernel_rfl) ?_);simp only [wX,wW,strip])|((first | refine wIs fun K hK=>?_ | refine wOs fun K hK=>?_ | refine wQs fun K hK=>?_ | refine zW ?_ | refine zX ?_ | refine zY ?_ | refine zL ?_);simp [g0,g1,g2,g3,g4,g18,g19,g20,b0])|(refine wIn ?_;refine And.intro (by kernel_rfl) ?_;try simp only [zZ])|(first | refine zQ ?_ | refine zS ?_)|((first | refine zI ?_ | refine zO ?_ | refine zP ?_);try simp)|((first | refine zR ?_ | refine wOn ?_ | refine wQn ?_);try simp only [zZ])
   all_goals simp [g0,g1,g2,g3,g4,g18,g19,g20,b0]
  ·clear w7
   rw [if_neg q3] at hR
   obtain ⟨d,hd⟩ : ∃ d,d = (a + b) / 2:=⟨_,rfl⟩
   rw [<- hd] at hR w4 w5 w6 s6 hd1 hd2 q3
   have q3' : ¬ (d : Int) < m:=by omega
   obtain ⟨n,hn0⟩ : ∃ n,n = d + m:=⟨_,rfl⟩
   rw [<- hn0] at hR w5 w6 s6
   obtain ⟨ab,hab⟩ : ∃ ab,ab = a + b:=⟨_,rfl⟩
   rw [<- hab] at w3 w4 hd
   obtain ⟨p,hp⟩ : ∃ p,p = n - 1:=⟨_,rfl⟩
   rw [<- hp] at w6 hR
   obtain ⟨k,hk⟩ : ∃ k,k = bsL (fun c=>!ltM L (p - c) c) (m - a) a m:=⟨_,rfl⟩
   have hkb:=bsL_bd (fun c=>!ltM L (p - c) c) (m - a) a m (by omega)
   rw [<- hu] at hk hkb hR
   rw [<- hk] at hkb hR
   refine wBodyW Tryd.tab Tryd.mixed Tryd.func46 rfl rfl Tryd.ntmps46 (by simp) (by simp) rfl rfl fun Q hr hn=>?_
   have s6:=s6 Q
   unfold sfx at s6
   simp only [Tryd.f46,sfxC] at s6
   repeat' first|(refine hK _ ?_;clear hK)|(refine hK _ _ ?_;clear hK)|(clear hK;refine hK _ ?_;clear hK)|(clear hK;clear hK;refine hK _ ?_;clear hK)|(clear hK;clear hK;clear hK;refine hK _ ?_;clear hK)|(clear hK;clear hK;clear hK;clear hK;refine hK _ ?_;clear hK)|(refine zJ fun K hK=>?_)|((first | refine zH ?_ | refine zN rfl (by kernel_rfl) ?_ | refine zM ?_ | refine zK (by kernel_rfl) ?_);simp only [wX,wW,strip])|((first | refine wIs fun K hK=>?_ | refine wOs fun K hK=>?_ | refine wQs fun K hK=>?_ | refine zW ?_ | refine zX ?_ | refine zY ?_ | refine zL ?_);simp [w1,q1,q1',w2,q2,q2',w3,w4,w5,w6,q3,q3'])|(refine wIn ?_;refine And.intro (by kernel_rfl) ?_;try simp only [zZ])|(first | refine zQ ?_ | refine zS ?_)|((first | refine zI ?_ | refine zO ?_ | refine zP ?_);try simp)|((first | refine zR ?_ | refine wOn ?_ | refine wQn ?_);try simp only [zZ])
   refine sm5 L a m p k a m b d n (by omega) (by omega) (by omega) (by omega) (by omega) (by omega) (by first | exact hk|(rw [<- hu];exact hk)) (fun st g0 g1 g2 g3 g4 g18 g19 g20 b0=>?_) (by simp) (by simp) (by simp) (by simp) (by simp) (by simp) (by simp) (by simp) (by simp) (by simp) (by simp)
   have s6 := fun st => s6 st k (by omega) (by omega) (by omega) (by omega) (fun st g0 b0 => by
    rw [hR] at b0
    refine hn _ ⟨[],by simp,by simp,?_⟩ (by simp [g0]) (by simp [b0])
    simp [Tryd.f46,outR,outB,yP,b0])
   repeat' first | apply s6|(refine hK _ ?_;clear hK)|(refine hK _ _ ?_;clear hK)|(clear hK;refine hK _ ?_;clear hK)|(clear hK;clear hK;refine hK _ ?_;clear hK)|(clear hK;clear hK;clear hK;refine hK _ ?_;clear hK)|(clear hK;clear hK;clear hK;clear hK;refine hK _ ?_;clear hK)|(refine zJ fun K hK=>?_)|((first | refine zH ?_ | refine zN rfl (by kernel_rfl) ?_ | refine zM ?_ | refine zK (by kernel_rfl) ?_);simp only [wX,wW,strip])|((first | refine wIs fun K hK=>?_ | refine wOs fun K hK=>?_ | refine wQs fun K hK=>?_ | refine zW ?_ | refine zX ?_ | refine zY ?_ | refine zL ?_);simp [g0,g1,g2,g3,g4,g18,g19,g20,b0])|(refine wIn ?_;refine And.intro (by kernel_rfl) ?_;try simp only [zZ])|(first | refine zQ ?_ | refine zS ?_)|((first | refine zI ?_ | refine zO ?_ | refine zP ?_);try simp)|((first | refine zR ?_ | refine wOn ?_ | refine wQn ?_);try simp only [zZ])
   all_goals simp [g0,g1,g2,g3,g4,g18,g19,g20,b0]
def isrt (L : List Mb) (a b : Nat) : List Mb := L.take a ++ (yA ((L.drop a).take (b - a)) ++ L.drop b)
theorem isrt_len {L : List Mb} {a b : Nat} (h : a <= b) (h2 : b <= L.length) : (isrt L a b).length = L.length := by
 unfold isrt
 simp only [List.length_append,srtM_len,List.length_take,List.length_drop]
 omega
theorem isrt_con (L : List Mb) (a b : Nat) (hab : a <= b) (hb : b <= L.length) (hl : L.length <= 1000000) :
 ConW Tryd.prog 45 [.row 1024,.p (I a),.p (I b),cmpV] 30 4 (mbs L) (mbs (isrt L a b)) (.tup []):=by
 refine isort_con L (L.drop b) a b (L.take a) ((L.drop a).take (b - a)) ?_ ?_ ?_ hl
 ·have : L.drop b = (L.drop a).drop (b - a) := by rw [List.drop_drop]; congr 1; omega
  rw [this,List.take_append_drop,List.take_append_drop]
 ·rw [List.length_take];omega
 ·simp only [List.length_take,List.length_drop];omega
def blkM (n : Nat) : Nat -> List Mb -> Nat -> List Mb × Nat
 | 0,L,a=>(L,a)
 | f + 1,L,a=>if a + 20 <= n then blkM n f (isrt L a (a + 20)) (a + 20) else (L,a)
theorem blkM_end (n : Nat) : ∀ (f : Nat) (L : List Mb) (a : Nat), ¬ a + 20 <= n -> blkM n f L a = (L, a)
 | 0,_,_,_=>rfl
 | f + 1,L,a,h=>by rw [blkM,if_neg h]
def mrgM (n bs : Nat) : Nat -> List Mb -> Nat -> List Mb × Nat
 | 0,L,a=>(L,a)
 | f + 1,L,a=>if a + 2 * bs <= n then mrgM n bs f (symM n L a (a + bs) (a + 2 * bs)) (a + 2 * bs) else (L,a)
theorem mrgM_end (n bs : Nat) : ∀ (f : Nat) (L : List Mb) (a : Nat), ¬ a + 2 * bs <= n -> mrgM n bs f L a = (L, a)
 | 0,_,_,_=>rfl
 | f + 1,L,a,h=>by rw [mrgM,if_neg h]
theorem mrgM_spec (n bs : Nat) : ∀ (f : Nat) (L : List Mb) (a : Nat), a <= n -> (mrgM n bs f L a).1.length = L.length /\ (mrgM n bs f L a).2 <= n
 | 0,_,_,h=>⟨rfl,h⟩
 | f + 1, L, a, h => by
  rw [mrgM]
  split
  ·have := mrgM_spec n bs f (symM n L a (a + bs) (a + 2 * bs)) (a + 2 * bs) (by omega)
   rw [symM_len] at this
   exact this
  ·exact ⟨rfl,h⟩
theorem blkM_spec (n : Nat) : ∀ (f : Nat) (L : List Mb) (a : Nat), a <= n -> n <= L.length -> (blkM n f L a).1.length = L.length /\ (blkM n f L a).2 <= n
 | 0,_,_,h,_=>⟨rfl,h⟩
 | f + 1, L, a, h, h2 => by
  rw [blkM]
  split
  ·have hi := isrt_len (L := L) (a := a) (b := a + 20) (by omega) (by omega)
   have:=blkM_spec n f (isrt L a (a + 20)) (a + 20) (by omega) (by omega)
   rw [hi] at this
   exact this
  ·exact ⟨rfl,h⟩
def rndM (n bs : Nat) (L : List Mb) : List Mb := if (mrgM n bs n L 0).2 + bs < n then symM n (mrgM n bs n L 0).1 (mrgM n bs n L 0).2 ((mrgM n bs n L 0).2 + bs) n else (mrgM n bs n L 0).1
theorem rndM_len (n bs : Nat) (L : List Mb) : (rndM n bs L).length = L.length := by
 have:=(mrgM_spec n bs n L 0 (by omega)).1
 unfold rndM
 split
 ·rw [symM_len,this]
 ·exact this
def stbM (n : Nat) : Nat -> Nat -> List Mb -> List Mb
 | 0,_,L=>L
 | f + 1,bs,L=>if bs < n then stbM n f (bs * 2) (rndM n bs L) else L
theorem stbM_end (n : Nat) : ∀ (f bs : Nat) (L : List Mb), ¬ bs < n -> stbM n f bs L = L
 | 0,_,_,_=>rfl
 | f + 1,bs,L,h=>by rw [stbM,if_neg h]
def stab (l : List Mb) : List Mb := stbM l.length l.length 20 (isrt (blkM l.length l.length l 0).1 (blkM l.length l.length l 0).2 l.length)
set_option maxHeartbeats 4000000 in
theorem stab_con (l : List Mb) (hl : l.length <= 1000000) : ConW Tryd.prog 37 [.row 1024, .p (I l.length), cmpV] 30 4 (mbs l) (mbs (stab l)) (.tup []) := by
 generalize hR : stab l = R
 unfold stab at hR
 obtain ⟨n,hn0⟩ : ∃ n,n = l.length:=⟨_,rfl⟩
 have hsp:=blkM_spec n n l 0 (by omega) (by omega)
 rw [<- hn0] at hR hl hsp ⊢
 obtain ⟨B,hB⟩ : ∃ B,B = blkM n n l 0:=⟨_,rfl⟩
 rw [<- hB] at hR hsp
 have ci:=isrt_con B.1 B.2 n hsp.2 (by omega) (by omega)
 have hil:=isrt_len hsp.2 (show n <= B.1.length by omega)
 generalize isrt B.1 B.2 n = Z at *
 refine wBodyW Tryd.tab Tryd.mixed Tryd.func37 rfl rfl Tryd.ntmps37 (by simp) (by simp) rfl rfl fun Q hr hn=>?_
 repeat' first|(refine hK _ ?_;clear hK)|(refine hK _ _ ?_;clear hK)|(clear hK;refine hK _ ?_;clear hK)|(clear hK;clear hK;refine hK _ ?_;clear hK)|(clear hK;clear hK;clear hK;refine hK _ ?_;clear hK)|(clear hK;clear hK;clear hK;clear hK;refine hK _ ?_;clear hK)|(refine zJ fun K hK=>?_)|((first | refine zH ?_ | refine zN rfl (by kernel_rfl) ?_ | refine zM ?_ | refine zK (by kernel_rfl) ?_);simp only [wX,wW,strip])|((first | refine wIs fun K hK=>?_ | refine wOs fun K hK=>?_ | refine wQs fun K hK=>?_ | refine zW ?_ | refine zX ?_ | refine zY ?_ | refine zL ?_);simp)|(refine wIn ?_;refine And.intro (by kernel_rfl) ?_;try simp only [zZ])|(first | refine zQ ?_ | refine zS ?_)|((first | refine zI ?_ | refine zO ?_ | refine zP ?_);try simp)|((first | refine zR ?_ | refine wOn ?_ | refine wQn ?_);try simp only [zZ])
 refine yB (fun N st=>∃ (X : List Mb) (a b : Nat),(n <= a + N /\ a <= n /\ b = a + 20 /\ X.length = n /\ blkM n N X a = B) /\ st.s 0 = .row 1024 /\ st.s 1 = .p (I n) /\ st.s 2 = cmpV /\ st.s 6 = .p (I 20) /\ st.s 7 = .p (I a) /\ st.s 8 = .p (I b) /\ st.b 1024 = some (.row 30 4 (mbs X))) n ⟨l,0,20,⟨by omega,by omega,rfl,hn0.symm,hB.symm⟩,by simp⟩ fun K N st hL ⟨X,a,b,⟨q1,q2,q3,q4,q5⟩,g0,g1,g2,g6,g7,g8,b0⟩=>?_
 by_cases hlt : a + 20 <= n
 ·obtain ⟨f, rfl⟩ : ∃ f, N = f + 1 := ⟨N - 1, by omega⟩
  rw [blkM,if_pos hlt,<- q3] at q5
  have hlt' : (b : Int) <= n:=by omega
  have w1 : IntKind.i64.wrap ((b : Int) + 20) = ((b + 20 : Nat) : Int):=by rw [zG] <;> omega
  have c1:=isrt_con X a b (by omega) (by omega) (by omega)
  have hXl:=isrt_len (L:=X) (a:=a) (b:=b) (by omega) (by omega)
  generalize isrt X a b = Y at c1 q5 hXl
  repeat' first|(refine yX 1024 (c1) (by simp [b0]) (by simp [yO,argG,yY,inN,pos,yF,renC,b0]) rfl ?_;simp [b0])|(refine hK _ ?_;clear hK)|(refine hK _ _ ?_;clear hK)|(clear hK;refine hK _ ?_;clear hK)|(clear hK;clear hK;refine hK _ ?_;clear hK)|(clear hK;clear hK;clear hK;refine hK _ ?_;clear hK)|(clear hK;clear hK;clear hK;clear hK;refine hK _ ?_;clear hK)|(refine zJ fun K hK=>?_)|((first | refine zH ?_ | refine zN rfl (by kernel_rfl) ?_ | refine zM ?_ | refine zK (by kernel_rfl) ?_);simp only [wX,wW,strip])|((first | refine wIs fun K hK=>?_ | refine wOs fun K hK=>?_ | refine wQs fun K hK=>?_ | refine zW ?_ | refine zX ?_ | refine zY ?_ | refine zL ?_);simp [g0,g1,g2,g6,g7,g8,b0,hlt',w1])|(refine wIn ?_;refine And.intro (by kernel_rfl) ?_;try simp only [zZ])|(first | refine zQ ?_ | refine zS ?_)|((first | refine zI ?_ | refine zO ?_ | refine zP ?_);try simp)|((first | refine zR ?_ | refine wOn ?_ | refine wQn ?_);try simp only [zZ])
  refine hL _ f (by omega) ⟨Y,b,b + 20,⟨by omega,by omega,rfl,by omega,q5⟩,?_⟩
  simp [g0,g1,g2,g6,g7,g8,b0,w1]
 rw [blkM_end _ _ _ _ hlt] at q5
 have hlt' : ¬ (b : Int) <= n:=by omega
 rw [<- q5] at ci
 repeat' first|(refine yX 1024 (ci) (by simp [b0]) (by simp [yO,argG,yY,inN,pos,yF,renC,b0]) rfl ?_;simp [b0])|(refine hK _ ?_;clear hK)|(refine hK _ _ ?_;clear hK)|(clear hK;refine hK _ ?_;clear hK)|(clear hK;clear hK;refine hK _ ?_;clear hK)|(clear hK;clear hK;clear hK;refine hK _ ?_;clear hK)|(clear hK;clear hK;clear hK;clear hK;refine hK _ ?_;clear hK)|(refine zJ fun K hK=>?_)|((first | refine zH ?_ | refine zN rfl (by kernel_rfl) ?_ | refine zM ?_ | refine zK (by kernel_rfl) ?_);simp only [wX,wW,strip])|((first | refine wIs fun K hK=>?_ | refine wOs fun K hK=>?_ | refine wQs fun K hK=>?_ | refine zW ?_ | refine zX ?_ | refine zY ?_ | refine zL ?_);simp [g0,g1,g2,g6,g7,g8,b0,hlt'])|(refine wIn ?_;refine And.intro (by kernel_rfl) ?_;try simp only [zZ])|(first | refine zQ ?_ | refine zS ?_)|((first | refine zI ?_ | refine zO ?_ | refine zP ?_);try simp)|((first | refine zR ?_ | refine wOn ?_ | refine wQn ?_);try simp only [zZ])
 refine yB (fun N st=>∃ (X : List Mb) (bs : Nat),(n <= bs + N /\ 0 < bs /\ bs <= 2000000 /\ X.length = n /\ stbM n N bs X = R) /\ st.s 0 = .row 1024 /\ st.s 1 = .p (I n) /\ st.s 2 = cmpV /\ st.s 6 = .p (I bs) /\ st.b 1024 = some (.row 30 4 (mbs X))) n ⟨Z,20,⟨by omega,by omega,by omega,by omega,hR⟩,by simp [g0,g1,g2,g6,b0]⟩ fun K2 N2 st hL2 ⟨X,bs,⟨r1,r2,r3,r4,r5⟩,g0,g1,g2,g6,b0⟩=>?_
 by_cases hbs : bs < n
 ·obtain ⟨f, rfl⟩ : ∃ f, N2 = f + 1 := ⟨N2 - 1, by omega⟩
  rw [stbM,if_pos hbs] at r5
  have hbs' : (bs : Int) < n:=by omega
  have w1 : IntKind.i64.wrap (2 * (bs : Int)) = ((2 * bs : Nat) : Int):=by rw [zG] <;> omega
  have w2 : IntKind.i64.wrap ((bs : Int) * 2) = ((bs * 2 : Nat) : Int):=by rw [zG] <;> omega
  have hrl:=rndM_len n bs X
  unfold rndM at hrl r5
  have hms:=mrgM_spec n bs n X 0 (by omega)
  obtain ⟨C,hC⟩ : ∃ C,C = mrgM n bs n X 0:=⟨_,rfl⟩
  rw [<- hC] at hms hrl r5
  obtain ⟨b2,hb2⟩ : ∃ b2,b2 = 2 * bs:=⟨_,rfl⟩
  rw [<- hb2] at w1
  obtain ⟨b3,hb3⟩ : ∃ b3,b3 = bs * 2:=⟨_,rfl⟩
  rw [<- hb3] at w2 r5
  repeat' first|(refine hK _ ?_;clear hK)|(refine hK _ _ ?_;clear hK)|(clear hK;refine hK _ ?_;clear hK)|(clear hK;clear hK;refine hK _ ?_;clear hK)|(clear hK;clear hK;clear hK;refine hK _ ?_;clear hK)|(clear hK;clear hK;clear hK;clear hK;refine hK _ ?_;clear hK)|(refine zJ fun K hK=>?_)|((first | refine zH ?_ | refine zN rfl (by kernel_rfl) ?_ | refine zM ?_ | refine zK (by kernel_rfl) ?_);simp only [wX,wW,strip])|((first | refine wIs fun K hK=>?_ | refine wOs fun K hK=>?_ | refine wQs fun K hK=>?_ | refine zW ?_ | refine zX ?_ | refine zY ?_ | refine zL ?_);simp [g0,g1,g2,g6,b0,hbs',w1])|(refine wIn ?_;refine And.intro (by kernel_rfl) ?_;try simp only [zZ])|(first | refine zQ ?_ | refine zS ?_)|((first | refine zI ?_ | refine zO ?_ | refine zP ?_);try simp)|((first | refine zR ?_ | refine wOn ?_ | refine wQn ?_);try simp only [zZ])
  refine yB (fun N st=>∃ (Y : List Mb) (a b : Nat),(n <= a + N /\ a <= n /\ b = a + 2 * bs /\ Y.length = n /\ mrgM n bs N Y a = C) /\ st.s 0 = .row 1024 /\ st.s 1 = .p (I n) /\ st.s 2 = cmpV /\ st.s 6 = .p (I bs) /\ st.s 7 = .p (I a) /\ st.s 8 = .p (I b) /\ st.b 1024 = some (.row 30 4 (mbs Y))) n ⟨X,0,b2,⟨by omega,by omega,by omega,r4,hC.symm⟩,by simp [g0,g1,g2,g6,b0,w1]⟩ fun K3 N3 st hL3 ⟨Y,a,b,⟨q1,q2,q3,q4,q5⟩,g0,g1,g2,g6,g7,g8,b0⟩=>?_
  have w3 : IntKind.i64.wrap ((a : Int) + bs) = ((a + bs : Nat) : Int):=by rw [zG] <;> omega
  by_cases hlt : a + 2 * bs <= n
  ·obtain ⟨f3, rfl⟩ : ∃ f, N3 = f + 1 := ⟨N3 - 1, by omega⟩
   rw [mrgM,if_pos hlt,<- q3] at q5
   have hlt' : (b : Int) <= n:=by omega
   have w4 : IntKind.i64.wrap ((b : Int) + b2) = ((b + b2 : Nat) : Int):=by rw [zG] <;> omega
   have c1:=symM_con n Y a (a + bs) b (by omega) (by omega) (by omega) (by omega) (by omega)
   have hYl:=symM_len n Y a (a + bs) b
   generalize symM n Y a (a + bs) b = W at c1 q5 hYl
   obtain ⟨m,hm⟩ : ∃ m,m = a + bs:=⟨_,rfl⟩
   rw [<- hm] at c1 w3
   repeat' first|(refine yX 1024 (c1) (by simp [b0]) (by simp [yO,argG,yY,inN,pos,yF,renC,b0]) rfl ?_;simp [b0])|(refine hK _ ?_;clear hK)|(refine hK _ _ ?_;clear hK)|(clear hK;refine hK _ ?_;clear hK)|(clear hK;clear hK;refine hK _ ?_;clear hK)|(clear hK;clear hK;clear hK;refine hK _ ?_;clear hK)|(clear hK;clear hK;clear hK;clear hK;refine hK _ ?_;clear hK)|(refine zJ fun K hK=>?_)|((first | refine zH ?_ | refine zN rfl (by kernel_rfl) ?_ | refine zM ?_ | refine zK (by kernel_rfl) ?_);simp only [wX,wW,strip])|((first | refine wIs fun K hK=>?_ | refine wOs fun K hK=>?_ | refine wQs fun K hK=>?_ | refine zW ?_ | refine zX ?_ | refine zY ?_ | refine zL ?_);simp [g0,g1,g2,g6,g7,g8,b0,hlt',w1,w3,w4])|(refine wIn ?_;refine And.intro (by kernel_rfl) ?_;try simp only [zZ])|(first | refine zQ ?_ | refine zS ?_)|((first | refine zI ?_ | refine zO ?_ | refine zP ?_);try simp)|((first | refine zR ?_ | refine wOn ?_ | refine wQn ?_);try simp only [zZ])
   refine hL3 _ f3 (by omega) ⟨W,b,b + b2,⟨by omega,by omega,by omega,by omega,q5⟩,?_⟩
   simp [g0,g1,g2,g6,g7,g8,b0,w1,w4]
  rw [mrgM_end _ _ _ _ _ hlt] at q5
  have hlt' : ¬ (b : Int) <= n:=by omega
  subst q5
  dsimp only at r5 hrl hms
  by_cases hm : a + bs < n
  ·rw [if_pos hm] at r5 hrl
   have c1:=symM_con n Y a (a + bs) n (by omega) (by omega) hm (by omega) (by omega)
   generalize symM n Y a (a + bs) n = W at c1 r5 hrl
   obtain ⟨m,hm0⟩ : ∃ m,m = a + bs:=⟨_,rfl⟩
   rw [<- hm0] at c1 w3 hm
   have hm' : (m : Int) < n:=by omega
   repeat' first|(refine yX 1024 (c1) (by simp [b0]) (by simp [yO,argG,yY,inN,pos,yF,renC,b0]) rfl ?_;simp [b0])|(refine hK _ ?_;clear hK)|(refine hK _ _ ?_;clear hK)|(clear hK;refine hK _ ?_;clear hK)|(clear hK;clear hK;refine hK _ ?_;clear hK)|(clear hK;clear hK;clear hK;refine hK _ ?_;clear hK)|(clear hK;clear hK;clear hK;clear hK;refine hK _ ?_;clear hK)|(refine zJ fun K hK=>?_)|((first | refine zH ?_ | refine zN rfl (by kernel_rfl) ?_ | refine zM ?_ | refine zK (by kernel_rfl) ?_);simp only [wX,wW,strip])|((first | refine wIs fun K hK=>?_ | refine wOs fun K hK=>?_ | refine wQs fun K hK=>?_ | refine zW ?_ | refine zX ?_ | refine zY ?_ | refine zL ?_);simp [g0,g1,g2,g6,g7,g8,b0,hlt',w2,w3,hm'])|(refine wIn ?_;refine And.intro (by kernel_rfl) ?_;try simp only [zZ])|(first | refine zQ ?_ | refine zS ?_)|((first | refine zI ?_ | refine zO ?_ | refine zP ?_);try simp)|((first | refine zR ?_ | refine wOn ?_ | refine wQn ?_);try simp only [zZ])
   refine hL2 _ f (by omega) ⟨W,b3,⟨by omega,by omega,by omega,by omega,r5⟩,?_⟩
   simp [g0,g1,g2,g6,g7,g8,b0,w2]
  ·rw [if_neg hm] at r5 hrl
   obtain ⟨m,hm0⟩ : ∃ m,m = a + bs:=⟨_,rfl⟩
   rw [<- hm0] at w3 hm
   have hm' : ¬ (m : Int) < n:=by omega
   repeat' first|(refine hK _ ?_;clear hK)|(refine hK _ _ ?_;clear hK)|(clear hK;refine hK _ ?_;clear hK)|(clear hK;clear hK;refine hK _ ?_;clear hK)|(clear hK;clear hK;clear hK;refine hK _ ?_;clear hK)|(clear hK;clear hK;clear hK;clear hK;refine hK _ ?_;clear hK)|(refine zJ fun K hK=>?_)|((first | refine zH ?_ | refine zN rfl (by kernel_rfl) ?_ | refine zM ?_ | refine zK (by kernel_rfl) ?_);simp only [wX,wW,strip])|((first | refine wIs fun K hK=>?_ | refine wOs fun K hK=>?_ | refine wQs fun K hK=>?_ | refine zW ?_ | refine zX ?_ | refine zY ?_ | refine zL ?_);simp [g0,g1,g2,g6,g7,g8,b0,hlt',w2,w3,hm'])|(refine wIn ?_;refine And.intro (by kernel_rfl) ?_;try simp only [zZ])|(first | refine zQ ?_ | refine zS ?_)|((first | refine zI ?_ | refine zO ?_ | refine zP ?_);try simp)|((first | refine zR ?_ | refine wOn ?_ | refine wQn ?_);try simp only [zZ])
   refine hL2 _ f (by omega) ⟨Y,b3,⟨by omega,by omega,by omega,by omega,r5⟩,?_⟩
   simp [g0,g1,g2,g6,g7,g8,b0,w2]
 ·rw [stbM_end _ _ _ _ hbs] at r5
  have hbs' : ¬ (bs : Int) < n:=by omega
  subst r5
  repeat' first|(refine hK _ ?_;clear hK)|(refine hK _ _ ?_;clear hK)|(clear hK;refine hK _ ?_;clear hK)|(clear hK;clear hK;refine hK _ ?_;clear hK)|(clear hK;clear hK;clear hK;refine hK _ ?_;clear hK)|(clear hK;clear hK;clear hK;clear hK;refine hK _ ?_;clear hK)|(refine zJ fun K hK=>?_)|((first | refine zH ?_ | refine zN rfl (by kernel_rfl) ?_ | refine zM ?_ | refine zK (by kernel_rfl) ?_);simp only [wX,wW,strip])|((first | refine wIs fun K hK=>?_ | refine wOs fun K hK=>?_ | refine wQs fun K hK=>?_ | refine zW ?_ | refine zX ?_ | refine zY ?_ | refine zL ?_);simp [g0,g1,g2,g6,b0,hbs'])|(refine wIn ?_;refine And.intro (by kernel_rfl) ?_;try simp only [zZ])|(first | refine zQ ?_ | refine zS ?_)|((first | refine zI ?_ | refine zO ?_ | refine zP ?_);try simp)|((first | refine zR ?_ | refine wOn ?_ | refine wQn ?_);try simp only [zZ])
  refine hn _ ⟨[],by simp,by simp,?_⟩ (by simp [g0]) (by simp [b0])
  simp [Tryd.f37,outR,outB,yP,b0]
theorem sortSW_con (l : List Mb) (hl : l.length <= 1000000) : ConW Tryd.prog 31 [.row 1024, cmpV] 30 4 (mbs l) (mbs (stab l)) (.tup []) := by
 have c1:=stab_con l hl
 generalize stab l = R at c1
 refine wBodyW Tryd.tab Tryd.mixed Tryd.func31 rfl rfl Tryd.ntmps31 (by simp) (by simp) rfl rfl fun Q hr hn=>?_
 repeat' first|(refine yX 1024 (c1) (by simp [List.length_map]) (by simp [yO,argG,yY,inN,pos,yF,renC,List.length_map]) rfl ?_;simp [List.length_map])|(refine hK _ ?_;clear hK)|(refine hK _ _ ?_;clear hK)|(clear hK;refine hK _ ?_;clear hK)|(clear hK;clear hK;refine hK _ ?_;clear hK)|(clear hK;clear hK;clear hK;refine hK _ ?_;clear hK)|(clear hK;clear hK;clear hK;clear hK;refine hK _ ?_;clear hK)|(refine zJ fun K hK=>?_)|((first | refine zH ?_ | refine zN rfl (by kernel_rfl) ?_ | refine zM ?_ | refine zK (by kernel_rfl) ?_);simp only [wX,wW,strip])|((first | refine wIs fun K hK=>?_ | refine wOs fun K hK=>?_ | refine wQs fun K hK=>?_ | refine zW ?_ | refine zX ?_ | refine zY ?_ | refine zL ?_);simp)|(refine wIn ?_;refine And.intro (by kernel_rfl) ?_;try simp only [zZ])|(first | refine zQ ?_ | refine zS ?_)|((first | refine zI ?_ | refine zO ?_ | refine zP ?_);try simp)|((first | refine zR ?_ | refine wOn ?_ | refine wQn ?_);try simp only [zZ])
 refine hn _ ⟨[],by simp,by simp,?_⟩ (by simp) (by simp)
 simp [Tryd.f31,outR,outB,yP]
def stS (l : List Mb) : List Mb := if l.length <= 20 then yA l else stab l
theorem sortW_con (l : List Mb) (hl : l.length <= 1000000) : Con Tryd.prog 18 [.p (.sl 4 (mbs l))] [] (.ret (.row 2048) [.row 30 4 (mbs (stS l))] []) := by
 unfold stS
 split
 ·rename_i h
  exact sort_con l h
 have c0:=clone_ok (c:=4) (g:=30) rfl (mbs l) (by simp;omega)
 have c1:=sortSW_con l hl
 generalize stab l = R at c1
 refine wBodyG Tryd.tab Tryd.mixed Tryd.func18 rfl rfl Tryd.ntmps18 (by simp) (by simp) fun Q hr hn hp=>?_
 repeat' first|(refine zU.pure (c0) rfl ?_)|(refine zU.lent (c0) rfl ?_)|(refine zT.pure (c0) rfl ?_)|(refine zT.lent (c0) rfl ?_)|(refine zU.own (c0) ?_)|(refine zV.pure (c0) rfl ?_)|(refine zV.lent (c0) rfl ?_)|(refine zV.own (c0) ?_)|(refine yX 5 (c1) (by simp [List.length_map]) (by simp [yO,argG,yY,inN,pos,yF,renC,List.length_map]) rfl ?_;simp [List.length_map])|(refine hK _ ?_;clear hK)|(refine hK _ _ ?_;clear hK)|(clear hK;refine hK _ ?_;clear hK)|(clear hK;clear hK;refine hK _ ?_;clear hK)|(clear hK;clear hK;clear hK;refine hK _ ?_;clear hK)|(clear hK;clear hK;clear hK;clear hK;refine hK _ ?_;clear hK)|(refine zJ fun K hK=>?_)|((first | refine zH ?_ | refine zN rfl (by kernel_rfl) ?_ | refine zM ?_ | refine zK (by kernel_rfl) ?_);simp only [wX,wW,strip])|((first | refine wIs fun K hK=>?_ | refine wOs fun K hK=>?_ | refine wQs fun K hK=>?_ | refine zW ?_ | refine zX ?_ | refine zY ?_ | refine zL ?_);simp)|(refine wIn ?_;refine And.intro (by kernel_rfl) ?_;try simp only [zZ])|(first | refine zQ ?_ | refine zS ?_)|((first | refine zI ?_ | refine zO ?_ | refine zP ?_);try simp)|((first | refine zR ?_ | refine wOn ?_ | refine wQn ?_);try simp only [zZ])
 all_goals first | apply hn | apply hr
 all_goals refine ⟨[5],by simp,by simp,?_⟩
 all_goals simp [Tryd.f18,outR,outB,yP]
end Go.Proofs.YtjekjpgccnhobaaDoor
namespace Go.Proofs.YtjekjpgccnhobaaDoor
set_option linter.unusedSimpArgs false
set_option linter.unusedVariables false
open Go Go.Av
theorem swp_get {L : List Mb} {i j : Nat} (hi : i < L.length) (hj : j < L.length) (k : Nat) : (swp L i j)[k]? = if k = j then L[i]? else if k = i then L[j]? else L[k]? := by
 unfold swp
 rw [getD_at hi,getD_at hj]
 rw [List.getElem?_set,List.getElem?_set]
 by_cases h1 : k = j
 ·subst h1
  rw [if_pos rfl,if_pos (by simpa using hj),if_pos rfl,List.getElem?_eq_getElem hi]
 ·rw [if_neg (fun h => h1 h.symm), if_neg h1]
  by_cases h2 : k = i
  ·subst h2
   rw [if_pos rfl,if_pos hi,if_pos rfl,List.getElem?_eq_getElem hj]
  ·rw [if_neg (fun h=>h2 h.symm),if_neg h2]
theorem swR_get {L : List Mb} {a b : Nat} : ∀ (n : Nat), a + n <= b -> b + n <= L.length -> ∀ k, (swR L a b n)[k]? = if a <= k /\ k < a + n then L[b + (k - a)]? else if b <= k /\ k < b + n then L[a + (k - b)]? else L[k]?
 | 0, _, _, k => by
  rw [swR,if_neg (by omega),if_neg (by omega)]
 | n + 1, h1, h2, k => by
  have ih:=swR_get (L:=L) (a:=a) (b:=b) n (by omega) (by omega)
  rw [swR,swp_get (by rw [swR_len];omega) (by rw [swR_len];omega),ih,ih,ih]
  by_cases k1 : k = b + n
  ·subst k1
   rw [if_pos rfl,if_neg (by omega),if_neg (by omega),if_neg (by omega),if_pos (by omega)]
   congr 1;omega
  rw [if_neg k1]
  by_cases k2 : k = a + n
  ·subst k2
   rw [if_pos rfl,if_neg (by omega),if_neg (by omega),if_pos (by omega)]
   congr 1;omega
  rw [if_neg k2]
  by_cases k3 : a <= k /\ k < a + n
  ·have e3 : a <= k /\ k < a + (n + 1) := by omega
   rw [if_pos k3,if_pos e3]
  have e3 : ¬ (a <= k /\ k < a + (n + 1)):=by omega
  rw [if_neg k3,if_neg e3]
  by_cases k4 : b <= k /\ k < b + n
  ·have e4 : b <= k /\ k < b + (n + 1) := by omega
   rw [if_pos k4,if_pos e4]
  ·have e4 : ¬ (b <= k /\ k < b + (n + 1)) := by omega
   rw [if_neg k4,if_neg e4]
theorem swR_app (X A M B Y : List Mb) (h : A.length = B.length) (a b n : Nat) (ha : a = X.length) (hn : n = A.length) (hb : b = X.length + A.length + M.length) :
 swR (X ++ (A ++ (M ++ (B ++ Y)))) a b n = X ++ (B ++ (M ++ (A ++ Y))):=by
 apply List.ext_getElem?
 intro k
 rw [swR_get n (by omega) (by simp only [List.length_append];omega)]
 simp only [List.getElem?_append]
 repeat' split
 all_goals first | rfl|(exfalso;omega)|(congr 1;omega)
theorem rotM_app (m : Nat) : ∀ (f : Nat) (X A B Y : List Mb) (i j : Nat), i + j <= f -> 0 < i -> 0 < j -> i = A.length -> j = B.length -> m = X.length + A.length -> rotM m f (X ++ (A ++ (B ++ Y))) i j = X ++ (B ++ (A ++ Y))
 | 0,_,_,_,_,_,_,h,_,_,_,_,_=>by omega
 | f + 1, X, A, B, Y, i, j, h, hi, hj, hA, hB, hm => by
  rw [rotM]
  by_cases h1 : i = j
  ·rw [if_pos h1]
   have:=swR_app X A [] B Y (by omega) (m - i) m i (by omega) (by omega) (by simp;omega)
   simpa using this
  rw [if_neg h1]
  by_cases h2 : j < i
  ·rw [if_pos h2]
   obtain ⟨A1,A2,rfl,hl⟩ : ∃ A1 A2,A = A1 ++ A2 /\ A1.length = j:=⟨A.take j,A.drop j,(List.take_append_drop j A).symm,by rw [List.length_take];omega⟩
   rw [List.length_append] at hA hm
   have e:=swR_app X A1 A2 B Y (by omega) (m - i) m j (by omega) (by omega) (by omega)
   have e0 : X ++ (A1 ++ A2 ++ (B ++ Y)) = X ++ (A1 ++ (A2 ++ (B ++ Y))):=by simp only [List.append_assoc]
   rw [e0,e]
   have e1 : X ++ (B ++ (A2 ++ (A1 ++ Y))) = (X ++ B) ++ (A2 ++ (A1 ++ Y)):=by simp only [List.append_assoc]
   rw [e1,rotM_app m f (X ++ B) A2 A1 Y (i - j) j (by omega) (by omega) hj (by omega) (by omega) (by rw [List.length_append];omega)]
   simp only [List.append_assoc]
  ·rw [if_neg h2]
   obtain ⟨B1,B2,rfl,hl⟩ : ∃ B1 B2,B = B1 ++ B2 /\ B1.length = j - i:=⟨B.take (j - i),B.drop (j - i),(List.take_append_drop _ B).symm,by rw [List.length_take];omega⟩
   rw [List.length_append] at hB
   have e:=swR_app X A B1 B2 Y (by omega) (m - i) (m + j - i) i (by omega) (by omega) (by omega)
   have e0 : X ++ (A ++ (B1 ++ B2 ++ Y)) = X ++ (A ++ (B1 ++ (B2 ++ Y))):=by simp only [List.append_assoc]
   rw [e0,e,rotM_app m f X B2 B1 (A ++ Y) i (j - i) (by omega) hi (by omega) (by omega) (by omega) (by omega)]
   simp only [List.append_assoc]
theorem bsL_spec (p : Nat -> Bool) : ∀ (f i j : Nat), j <= i + f -> i <= j -> (∀ h h', i <= h -> h <= h' -> h' < j -> p h' = true -> p h = true) →
 (∀ h,i <= h -> h < bsL p f i j -> p h = true) /\ (∀ h,bsL p f i j <= h -> h < j -> p h = false)
 | 0, i, j, h1, h2, _ => by
  rw [bsL]
  exact ⟨fun h a b=>by omega,fun h a b=>by omega⟩
 | f + 1, i, j, h1, h2, mono => by
  rw [bsL]
  split
  ·rename_i hlt
   have hh1 : i <= (i + j) / 2:=by omega
   have hh2 : (i + j) / 2 < j:=by omega
   generalize (i + j) / 2 = q at *
   split
   ·rename_i hp
    have ih:=bsL_spec p f (q + 1) j (by omega) (by omega) fun h h' a b c d=>mono h h' (by omega) b c d
    refine ⟨fun h a b=>?_,ih.2⟩
    by_cases e : q + 1 <= h
    ·exact ih.1 h e b
    ·exact mono h q a (by omega) hh2 hp
   ·rename_i hp
    have hb:=bsL_bd p f i q hh1
    have ih:=bsL_spec p f i q (by omega) hh1 fun h h' a b c d=>mono h h' a b (by omega) d
    refine ⟨ih.1,fun h a b=>?_⟩
    by_cases e : h < q
    ·exact ih.2 h a e
    ·cases hc : p h with
     | false=>rfl
     | true=>exact absurd (mono q h hh1 (by omega) b hc) hp
  ·exact ⟨fun h a b=>by omega,fun h a b=>by omega⟩
theorem shU_app (x : Mb) (Y : List Mb) : ∀ (X B : List Mb) (a n : Nat), a = X.length -> n = B.length -> shU (X ++ x :: (B ++ Y)) a n = X ++ (B ++ x :: Y) := by
 intro X B a n ha hn
 subst ha
 induction n generalizing B Y with
 | zero =>
  obtain rfl:=List.length_eq_zero_iff.1 hn.symm
  rfl
 | succ n ih =>
  obtain ⟨B', y, rfl⟩ : ∃ B' y, B = B' ++ [y] := by
   rcases List.eq_nil_or_concat B with rfl | ⟨B',y,rfl⟩
   ·simp at hn
   ·exact ⟨B',y,by simp⟩
  rw [List.length_append] at hn
  have hn' : n = B'.length:=by simp at hn;omega
  have e:=ih (y :: Y) B' hn'
  rw [shU,show X ++ x :: (B' ++ [y] ++ Y) = X ++ x :: (B' ++ y :: Y) by simp,e]
  have e2:=swR_app (X ++ B') [x] [] [y] Y rfl (X.length + n) (X.length + n + 1) 1 (by rw [List.length_append];omega) rfl (by rw [List.length_append];simp;omega)
  have e3 : swR (X ++ B' ++ ([x] ++ ([] ++ ([y] ++ Y)))) (X.length + n) (X.length + n + 1) 1 = swp (X ++ (B' ++ x :: (y :: Y))) (X.length + n) (X.length + n + 1) := by
   rw [swR,swR];simp
  rw [<- e3,e2]
  simp
theorem shD_app (x : Mb) (X : List Mb) : ∀ (A Y : List Mb) (m n : Nat), m = X.length + A.length -> n = A.length -> shD (X ++ (A ++ x :: Y)) m n = X ++ x :: (A ++ Y) := by
 intro A Y m n hm hn
 induction n generalizing A X with
 | zero =>
  obtain rfl:=List.length_eq_zero_iff.1 hn.symm
  rfl
 | succ n ih =>
  cases A with
  | nil=>simp at hn
  | cons y A =>
   rw [List.length_cons] at hn hm
   have e:=ih (X ++ [y]) A (by rw [List.length_append];simp;omega) (by omega)
   rw [shD,show X ++ (y :: A ++ x :: Y) = X ++ [y] ++ (A ++ x :: Y) by simp,e]
   have e2:=swR_app X [y] [] [x] (A ++ Y) rfl (m - n - 1) (m - n) 1 (by omega) rfl (by simp;omega)
   have hx : (X ++ [y] ++ x :: (A ++ Y)).length = X.length + 2 + (A ++ Y).length:=by simp;omega
   have e3 : swp (X ++ [y] ++ x :: (A ++ Y)) (m - n) (m - n - 1) = swp (X ++ [y] ++ x :: (A ++ Y)) (m - n - 1) (m - n) := by
    apply List.ext_getElem?
    intro k
    rw [swp_get (by omega) (by omega),swp_get (by omega) (by omega)]
    by_cases k1 : k = m - n - 1
    ·rw [if_pos k1,if_neg (by omega),if_pos k1]
    ·rw [if_neg k1,if_neg k1]
   have e4 : swR (X ++ ([y] ++ ([] ++ ([x] ++ (A ++ Y))))) (m - n - 1) (m - n) 1 = swp (X ++ [y] ++ x :: (A ++ Y)) (m - n - 1) (m - n) := by
    rw [swR,swR];simp
   rw [e3,<- e4,e2]
   simp
structure Sb (R A : List Mb) : Prop where
 l : R.length = A.length
 f : ∀ k : Int,R.filter (fun x=>decide (x.i = k)) = A.filter (fun x=>decide (x.i = k))
theorem Sb.refl (A : List Mb) : Sb A A := ⟨rfl, fun _ => rfl⟩
theorem Sb.trans {A B C : List Mb} (h : Sb A B) (h' : Sb B C) : Sb A C := ⟨h.l.trans h'.l, fun k => (h.f k).trans (h'.f k)⟩
theorem Sb.app {A B C D : List Mb} (h : Sb A B) (h' : Sb C D) : Sb (A ++ C) (B ++ D) := ⟨by rw [List.length_append, List.length_append, h.l, h'.l], fun k => by rw [List.filter_append, List.filter_append, h.f k, h'.f k]⟩
theorem Sb.mem {A B : List Mb} (h : Sb A B) {x : Mb} (hx : x ∈ A) : x ∈ B := by
 have h1 : x ∈ A.filter (fun y=>decide (y.i = x.i)):=List.mem_filter.2 ⟨hx,by simp⟩
 rw [h.f] at h1
 exact (List.mem_filter.1 h1).1
theorem Sb.swap {A B : List Mb} (h : ∀ a ∈ A, ∀ b ∈ B, a.i ≠ b.i) : Sb (B ++ A) (A ++ B) := by
 refine ⟨by simp [Nat.add_comm],fun k=>?_⟩
 rw [List.filter_append,List.filter_append]
 by_cases hA : A.filter (fun x=>decide (x.i = k)) = []
 ·rw [hA];simp
 ·have hB : B.filter (fun x => decide (x.i = k)) = [] := by
   rw [List.filter_eq_nil_iff]
   intro b hb e
   obtain ⟨a,ha⟩:=List.exists_mem_of_ne_nil _ hA
   obtain ⟨ha1,ha2⟩:=List.mem_filter.1 ha
   rw [decide_eq_true_eq] at ha2 e
   exact h a ha1 b hb (by rw [ha2,e])
  rw [hB];simp
theorem Sb.eq : ∀ {R A : List Mb}, Ord R -> Ord A -> Sb R A -> R = A
 | [],[],_,_,_=>rfl
 | [],y :: A,_,_,h=>by have:=h.l;simp at this
 | x :: R,[],_,_,h=>by have:=h.l;simp at this
 | x :: R, y :: A, hR, hA, h => by
  obtain ⟨r1,r2⟩:=List.pairwise_cons.1 hR
  obtain ⟨a1,a2⟩:=List.pairwise_cons.1 hA
  have e1 : y.i <= x.i := by
   rcases List.mem_cons.1 (h.mem List.mem_cons_self) with e | hx
   ·rw [e];exact Int.le_refl _
   ·exact a1 x hx
  have hs : Sb (y :: A) (x :: R):=⟨h.l.symm,fun k=>(h.f k).symm⟩
  have e2 : x.i <= y.i := by
   rcases List.mem_cons.1 (hs.mem List.mem_cons_self) with e | hx
   ·rw [e];exact Int.le_refl _
   ·exact r1 y hx
  have e3 : x.i = y.i:=Int.le_antisymm e2 e1
  have e4:=h.f x.i
  rw [List.filter_cons_of_pos (by simp),List.filter_cons_of_pos (by simp [e3])] at e4
  obtain ⟨e5,-⟩:=List.cons.inj e4
  subst e5
  have h2 : Sb R A := ⟨by have := h.l; simpa using this, fun k => by
   have:=h.f k
   by_cases hk : x.i = k
   ·rw [List.filter_cons_of_pos (by simp [hk]), List.filter_cons_of_pos (by simp [hk])] at this
    exact (List.cons.inj this).2
   ·rw [List.filter_cons_of_neg (by simp [hk]), List.filter_cons_of_neg (by simp [hk])] at this
    exact this⟩
  rw [Sb.eq r2 a2 h2]
theorem ord_app {A B : List Mb} : Ord (A ++ B) ↔ Ord A /\ Ord B /\ ∀ a ∈ A, ∀ b ∈ B, a.i <= b.i := List.pairwise_append
theorem ins_sb (x : Mb) : ∀ T : List Mb, Ord T -> Sb (insM x T) (T ++ [x])
 | [],_=>Sb.refl _
 | y :: T, h => by
  obtain ⟨h1,h2⟩:=List.pairwise_cons.1 h
  unfold insM
  split
  ·rename_i hx
   refine Sb.swap (A:=y :: T) (B:=[x]) fun a ha b hb=>?_
   rw [List.mem_singleton.1 hb]
   rcases List.mem_cons.1 ha with rfl | ha
   ·omega
   ·have:=h1 a ha;omega
  ·exact Sb.app (Sb.refl [y]) (ins_sb x T h2)
theorem srt_sb (l : List Mb) : Sb (yA l) l := by
 have key : ∀ (n : Nat) (l : List Mb), l.length = n -> Sb (yA l) l := by
  intro n
  induction n with
  | zero=>intro l hl;rw [List.length_eq_zero_iff.1 hl];exact Sb.refl _
  | succ n ih =>
   intro l hl
   obtain ⟨B, x, rfl⟩ : ∃ B x, l = B ++ [x] := by
    rcases List.eq_nil_or_concat l with rfl | ⟨B,x,rfl⟩
    ·simp at hl
    ·exact ⟨B,x,by simp⟩
   rw [srtM_snoc]
   exact (ins_sb x _ (srtM_spec B).2.1).trans (Sb.app (ih B (by simpa using hl)) (Sb.refl [x]))
 exact key _ l rfl
theorem ltM_at {L : List Mb} {i j : Nat} {x y : Mb} (hx : L[i]? = some x) (hy : L[j]? = some y) : ltM L i j = decide (x.i < y.i) := by
 unfold ltM
 rw [List.getD_eq_getElem?_getD,List.getD_eq_getElem?_getD,hx,hy];rfl
theorem ord_at {A : List Mb} (h : Ord A) {i j : Nat} {x y : Mb} (hij : i <= j) (hx : A[i]? = some x) (hy : A[j]? = some y) : x.i <= y.i := by
 obtain ⟨h1,rfl⟩:=List.getElem?_eq_some_iff.1 hx
 obtain ⟨h2,rfl⟩:=List.getElem?_eq_some_iff.1 hy
 by_cases e : i = j
 ·subst e;exact Int.le_refl _
 ·exact List.pairwise_iff_getElem.1 h i j h1 h2 (by omega)
theorem at_A {X A R : List Mb} {h : Nat} (h1 : X.length <= h) (h2 : h < X.length + A.length) : (X ++ (A ++ R))[h]? = A[h - X.length]? := by
 rw [List.getElem?_append_right h1,List.getElem?_append_left (by omega)]
theorem at_B {X A B R : List Mb} {h : Nat} (h1 : X.length + A.length <= h) (h2 : h < X.length + A.length + B.length) : (X ++ (A ++ (B ++ R)))[h]? = B[h - X.length - A.length]? := by
 rw [List.getElem?_append_right (by omega),List.getElem?_append_right (by omega),List.getElem?_append_left (by omega)]
theorem some_at {A : List Mb} {i : Nat} (h : i < A.length) : ∃ x, A[i]? = some x /\ x ∈ A := ⟨A[i], List.getElem?_eq_getElem h, List.getElem_mem h⟩
theorem mem_take_at {A : List Mb} {n : Nat} {x : Mb} (h : x ∈ A.take n) : ∃ i, i < n /\ A[i]? = some x := by
 obtain ⟨i,hi,rfl⟩:=List.getElem_of_mem h
 rw [List.length_take] at hi
 exact ⟨i,by omega,by rw [List.getElem_take];exact List.getElem?_eq_getElem (by omega)⟩
theorem mem_drop_at {A : List Mb} {n : Nat} {x : Mb} (h : x ∈ A.drop n) : ∃ i, n <= i /\ i < A.length /\ A[i]? = some x := by
 obtain ⟨i,hi,rfl⟩:=List.getElem_of_mem h
 rw [List.length_drop] at hi
 exact ⟨n + i,by omega,by omega,by rw [List.getElem_drop];exact List.getElem?_eq_getElem (by omega)⟩
theorem sym_one {X B Y : List Mb} {x : Mb} {a m b : Nat} (ha : a = X.length) (hm : m = X.length + 1) (hb : b = X.length + 1 + B.length) (hB : Ord B) :
 ∃ R,shU (X ++ ([x] ++ (B ++ Y))) a (bsL (fun h=>ltM (X ++ ([x] ++ (B ++ Y))) h a) (b - m) m b - 1 - a) = X ++ (R ++ Y) /\ Ord R /\ Sb R ([x] ++ B):=by
 have hx : (X ++ ([x] ++ (B ++ Y)))[a]? = some x:=by rw [at_A (by omega) (by simp;omega)];simp [ha]
 have hp : ∀ h, m <= h -> h < b -> ∃ y, B[h - m]? = some y /\ ltM (X ++ ([x] ++ (B ++ Y))) h a = decide (y.i < x.i) := fun h h1 h2 => by
  obtain ⟨y,hy,-⟩:=some_at (A:=B) (i:=h - m) (by omega)
  refine ⟨y,hy,ltM_at ?_ hx⟩
  rw [at_B (by simp;omega) (by simp;omega),<- hy]
  congr 1;simp;omega
 generalize hP : (fun h=>ltM (X ++ ([x] ++ (B ++ Y))) h a) = P
 have hp' : ∀ h,m <= h -> h < b -> ∃ y,B[h - m]? = some y /\ P h = decide (y.i < x.i):=fun h h1 h2=>by rw [<- hP];exact hp h h1 h2
 have sp := bsL_spec P (b - m) m b (by omega) (by omega) fun h h' h1 h2 h3 h4 => by
  obtain ⟨y,hy,e⟩:=hp' h h1 (by omega)
  obtain ⟨z,hz,e'⟩:=hp' h' (by omega) h3
  rw [e',decide_eq_true_eq] at h4
  rw [e,decide_eq_true_eq]
  have:=ord_at hB (by omega) hy hz
  omega
 have bd:=bsL_bd P (b - m) m b (by omega)
 generalize bsL P (b - m) m b = k at *
 have l1 : ∀ y ∈ B.take (k - m), y.i < x.i := fun y hy => by
  obtain ⟨i,hi,hyi⟩:=mem_take_at hy
  obtain ⟨z,hz,e⟩:=hp' (m + i) (by omega) (by omega)
  rw [sp.1 (m + i) (by omega) (by omega)] at e
  rw [show m + i - m = i by omega,hyi] at hz
  rw [Option.some.inj hz]
  exact of_decide_eq_true e.symm
 have l2 : ∀ y ∈ B.drop (k - m), x.i <= y.i := fun y hy => by
  obtain ⟨i,hi,hi2,hyi⟩:=mem_drop_at hy
  obtain ⟨z,hz,e⟩:=hp' (m + i) (by omega) (by omega)
  rw [sp.2 (m + i) (by omega) (by omega)] at e
  rw [show m + i - m = i by omega,hyi] at hz
  rw [Option.some.inj hz]
  have:=of_decide_eq_false e.symm
  omega
 have hBt:=List.take_append_drop (k - m) B
 have hlen : (B.take (k - m)).length = k - m:=by rw [List.length_take];omega
 generalize B.take (k - m) = B1 at *
 generalize B.drop (k - m) = B2 at *
 subst hBt
 obtain ⟨o1,o2,o3⟩:=ord_app.1 hB
 refine ⟨B1 ++ x :: B2,?_,?_,?_⟩
 ·have := shU_app x (B2 ++ Y) X B1 a (k - 1 - a) ha (by omega)
  simpa using this
 ·refine ord_app.2 ⟨o1, List.pairwise_cons.2 ⟨l2, o2⟩, fun u hu q hq => ?_⟩
  rcases List.mem_cons.1 hq with e | hq
  ·have:=l1 u hu;rw [e];omega
  ·exact o3 u hu q hq
 ·have e1 := Sb.swap (A := [x]) (B := B1) fun p hp q hq => by
   rw [List.mem_singleton.1 hp];have:=l1 q hq;omega
  have:=e1.app (Sb.refl B2)
  simpa using this
theorem sym_last {X A Y : List Mb} {x : Mb} {a m : Nat} (ha : a = X.length) (hm : m = X.length + A.length) (hA : Ord A) :
 ∃ R,shD (X ++ (A ++ ([x] ++ Y))) m (m - bsL (fun h=>!ltM (X ++ (A ++ ([x] ++ Y))) m h) (m - a) a m) = X ++ (R ++ Y) /\ Ord R /\ Sb R (A ++ [x]):=by
 have hx : (X ++ (A ++ ([x] ++ Y)))[m]? = some x:=by rw [at_B (by omega) (by simp;omega)];simp [hm]
 generalize hP : (fun h=>!ltM (X ++ (A ++ ([x] ++ Y))) m h) = P
 have hp' : ∀ h, a <= h -> h < m -> ∃ y, A[h - a]? = some y /\ P h = !decide (x.i < y.i) := fun h h1 h2 => by
  obtain ⟨y,hy,-⟩:=some_at (A:=A) (i:=h - a) (by omega)
  refine ⟨y,hy,?_⟩
  rw [<- hP]
  show (!ltM _ m h) = _
  rw [ltM_at hx (y:=y) (by rw [at_A (by omega) (by omega),<- hy,ha])]
 have sp := bsL_spec P (m - a) a m (by omega) (by omega) fun h h' h1 h2 h3 h4 => by
  obtain ⟨y,hy,e⟩:=hp' h h1 (by omega)
  obtain ⟨z,hz,e'⟩:=hp' h' (by omega) h3
  rw [e'] at h4
  rw [e]
  simp only [Bool.not_eq_true',decide_eq_false_iff_not] at h4 ⊢
  have:=ord_at hA (by omega) hy hz
  omega
 have bd:=bsL_bd P (m - a) a m (by omega)
 generalize bsL P (m - a) a m = k at *
 have l1 : ∀ y ∈ A.take (k - a), y.i <= x.i := fun y hy => by
  obtain ⟨i,hi,hyi⟩:=mem_take_at hy
  obtain ⟨z,hz,e⟩:=hp' (a + i) (by omega) (by omega)
  rw [sp.1 (a + i) (by omega) (by omega)] at e
  rw [show a + i - a = i by omega,hyi] at hz
  rw [Option.some.inj hz]
  have:=e.symm
  simp only [Bool.not_eq_true',decide_eq_false_iff_not] at this
  omega
 have l2 : ∀ y ∈ A.drop (k - a), x.i < y.i := fun y hy => by
  obtain ⟨i,hi,hi2,hyi⟩:=mem_drop_at hy
  obtain ⟨z,hz,e⟩:=hp' (a + i) (by omega) (by omega)
  rw [sp.2 (a + i) (by omega) (by omega)] at e
  rw [show a + i - a = i by omega,hyi] at hz
  rw [Option.some.inj hz]
  have:=e.symm
  simpa using this
 have hBt:=List.take_append_drop (k - a) A
 have hlen : (A.drop (k - a)).length = m - k:=by rw [List.length_drop];omega
 have hlen1 : (A.take (k - a)).length = k - a:=by rw [List.length_take];omega
 generalize A.take (k - a) = A1 at *
 generalize A.drop (k - a) = A2 at *
 subst hBt
 obtain ⟨o1,o2,o3⟩:=ord_app.1 hA
 refine ⟨A1 ++ x :: A2,?_,?_,?_⟩
 ·have := shD_app x (X ++ A1) A2 Y m (m - k) (by simp only [List.length_append]; omega) (by omega)
  simpa using this
 ·refine ord_app.2 ⟨o1, List.pairwise_cons.2 ⟨fun y hy => by have := l2 y hy; omega, o2⟩, fun p hp q hq => ?_⟩
  rcases List.mem_cons.1 hq with rfl | hq
  ·exact l1 p hp
  ·exact o3 p hp q hq
 ·have e1 := Sb.swap (A := A2) (B := [x]) fun p hp q hq => by
   rw [List.mem_singleton.1 hq];have:=l2 p hp;omega
  have:=(Sb.refl A1).app e1
  simpa using this
theorem srch {X A B Y : List Mb} {a m b d s0 r0 : Nat} (ha : a = X.length) (hm : m = X.length + A.length) (hb : b = X.length + A.length + B.length) (hA : Ord A) (hB : Ord B)
 (h1 : a <= s0) (h2 : s0 <= r0) (h3 : r0 <= m) (h4 : r0 <= d) (h5 : d + m <= b + s0) (h6 : r0 = d \/ r0 = m) (h7 : s0 = a \/ d + m = b + s0) (s : Nat)
 (hs : s = bsL (fun c=>!ltM (X ++ (A ++ (B ++ Y))) (d + m - 1 - c) c) (r0 - s0) s0 r0) :
 s0 <= s /\ s <= r0 /\ (∀ x ∈ A.take (s - a),∀ y ∈ B.drop (d - s),x.i <= y.i) /\ (∀ x ∈ A.drop (s - a),∀ y ∈ B.take (d - s),y.i < x.i):=by
 generalize hP : (fun c=>!ltM (X ++ (A ++ (B ++ Y))) (d + m - 1 - c) c) = P at hs
 have hp' : ∀ c, s0 <= c -> c < r0 -> ∃ x y, A[c - a]? = some x /\ B[d - 1 - c]? = some y /\ P c = !decide (y.i < x.i) := fun c c1 c2 => by
  obtain ⟨x,hx,-⟩:=some_at (A:=A) (i:=c - a) (by omega)
  obtain ⟨y,hy,-⟩:=some_at (A:=B) (i:=d - 1 - c) (by omega)
  refine ⟨x,y,hx,hy,?_⟩
  rw [<- hP]
  show (!ltM _ (d + m - 1 - c) c) = _
  rw [ltM_at (x:=y) (y:=x)]
  ·rw [at_B (by omega) (by omega),<- hy];congr 1;omega
  ·rw [at_A (by omega) (by omega),<- hx,ha]
 have sp := bsL_spec P (r0 - s0) s0 r0 (by omega) h2 fun c c' c1 c2 c3 c4 => by
  obtain ⟨x,y,hx,hy,e⟩:=hp' c c1 (by omega)
  obtain ⟨x',y',hx',hy',e'⟩:=hp' c' (by omega) c3
  rw [e'] at c4
  rw [e]
  simp only [Bool.not_eq_true',decide_eq_false_iff_not] at c4 ⊢
  have q1:=ord_at hA (by omega) hx hx'
  have q2:=ord_at hB (by omega) hy' hy
  omega
 have bd:=bsL_bd P (r0 - s0) s0 r0 h2
 rw [<- hs] at sp bd
 refine ⟨bd.1,bd.2,fun x hx y hy=>?_,fun x hx y hy=>?_⟩
 ·obtain ⟨i, hi, hxi⟩ := mem_take_at hx
  obtain ⟨j,hj,hj2,hyj⟩:=mem_drop_at hy
  by_cases e : s0 < s
  ·obtain ⟨x', y', hx', hy', e'⟩ := hp' (s - 1) (by omega) (by omega)
   rw [sp.1 (s - 1) (by omega) (by omega)] at e'
   have e':=e'.symm
   simp only [Bool.not_eq_true',decide_eq_false_iff_not] at e'
   have q1:=ord_at hA (by omega) hxi hx'
   have q2:=ord_at hB (by omega) hy' hyj
   omega
  ·omega
 ·obtain ⟨i, hi, hi2, hxi⟩ := mem_drop_at hx
  obtain ⟨j,hj,hyj⟩:=mem_take_at hy
  by_cases e : s < r0
  ·obtain ⟨x', y', hx', hy', e'⟩ := hp' s (by omega) e
   rw [sp.2 s (by omega) e] at e'
   have e':=e'.symm
   simp only [Bool.not_eq_false',decide_eq_true_eq] at e'
   have q1:=ord_at hA (by omega) hx' hxi
   have q2:=ord_at hB (by omega) hyj hy'
   omega
  ·obtain ⟨hjl, -⟩ := List.getElem?_eq_some_iff.1 hyj
   omega
theorem symM_spec : ∀ (f : Nat) (X A B Y : List Mb) (a m b : Nat), b <= a + f -> a = X.length -> m = X.length + A.length -> b = X.length + A.length + B.length -> 0 < A.length -> 0 < B.length -> Ord A -> Ord B →
 ∃ R,symM f (X ++ (A ++ (B ++ Y))) a m b = X ++ (R ++ Y) /\ Ord R /\ Sb R (A ++ B)
 | 0,X,A,B,Y,a,m,b,h,ha,hm,hb,h1,h2,_,_=>by omega
 | f + 1, X, A, B, Y, a, m, b, h, ha, hm, hb, h1, h2, hA, hB => by
  rw [symM]
  by_cases q1 : m - a = 1
  ·rw [if_pos q1]
   obtain ⟨x,rfl⟩ : ∃ x,A = [x]:=List.length_eq_one_iff.1 (by omega)
   exact sym_one ha (by simpa using hm) (by simpa using hb) hB
  rw [if_neg q1]
  by_cases q2 : b - m = 1
  ·rw [if_pos q2]
   obtain ⟨x,rfl⟩ : ∃ x,B = [x]:=List.length_eq_one_iff.1 (by omega)
   exact sym_last ha hm hA
  rw [if_neg q2]
  have hd1 : a + 1 < (a + b) / 2:=by omega
  have hd2 : (a + b) / 2 + 1 < b:=by omega
  have hdd : 2 * ((a + b) / 2) <= a + b /\ a + b <= 2 * ((a + b) / 2) + 1:=by omega
  have hS : ∃ s, mgS (X ++ (A ++ (B ++ Y))) a m b = s /\ a <= s /\ s <= m /\ s <= (a + b) / 2 /\ (a + b) / 2 + m <= b + s /\ (∀ x ∈ A.take (s - a), ∀ y ∈ B.drop ((a + b) / 2 - s), x.i <= y.i) /\ (∀ x ∈ A.drop (s - a), ∀ y ∈ B.take ((a + b) / 2 - s), y.i < x.i) := by
   refine ⟨_,rfl,?_⟩
   unfold mgS
   generalize (a + b) / 2 = d at *
   by_cases q3 : d < m
   ·rw [if_pos q3]
    obtain ⟨w1,w2,w3,w4⟩:=srch (Y:=Y) (d:=d) (s0:=d + m - b) (r0:=d) ha hm hb hA hB (by omega) (by omega) (by omega) (by omega) (by omega) (.inl rfl) (.inr (by omega)) _ rfl
    exact ⟨by omega,by omega,w2,by omega,w3,w4⟩
   ·rw [if_neg q3]
    obtain ⟨w1,w2,w3,w4⟩:=srch (Y:=Y) (d:=d) (s0:=a) (r0:=m) ha hm hb hA hB (by omega) (by omega) (by omega) (by omega) (by omega) (.inr rfl) (.inl rfl) _ rfl
    exact ⟨w1,w2,by omega,by omega,w3,w4⟩
  obtain ⟨s,es,s1,s2,s3,s4,f2,f1⟩:=hS
  rw [es]
  unfold mgP
  dsimp only
  generalize (a + b) / 2 = d at *
  have lA:=List.take_append_drop (s - a) A
  have lB:=List.take_append_drop (d - s) B
  have n1 : (A.take (s - a)).length = s - a:=by rw [List.length_take];omega
  have n2 : (A.drop (s - a)).length = m - s:=by rw [List.length_drop];omega
  have n3 : (B.take (d - s)).length = d - s:=by rw [List.length_take];omega
  have n4 : (B.drop (d - s)).length = b - m - (d - s):=by rw [List.length_drop];omega
  generalize A.take (s - a) = A1 at *
  generalize A.drop (s - a) = A2 at *
  generalize B.take (d - s) = B1 at *
  generalize B.drop (d - s) = B2 at *
  subst lA lB
  obtain ⟨oA1,oA2,oA⟩:=ord_app.1 hA
  obtain ⟨oB1,oB2,oB⟩:=ord_app.1 hB
  simp only [List.length_append] at hm hb h1 h2
  have eL : X ++ (A1 ++ A2 ++ (B1 ++ B2 ++ Y)) = X ++ A1 ++ (A2 ++ (B1 ++ (B2 ++ Y))):=by simp only [List.append_assoc]
  have e1 : (if s < m /\ m < d + m - s then rotM m (d + m - s - s) (X ++ (A1 ++ A2 ++ (B1 ++ B2 ++ Y))) (m - s) (d + m - s - m) else X ++ (A1 ++ A2 ++ (B1 ++ B2 ++ Y))) = X ++ (A1 ++ (B1 ++ (A2 ++ (B2 ++ Y)))) := by
   by_cases q : s < m /\ m < d + m - s
   ·rw [if_pos q, eL, rotM_app m _ (X ++ A1) A2 B1 (B2 ++ Y) _ _ (by omega) (by omega) (by omega) (by omega) (by omega) (by rw [List.length_append]; omega)]
    simp only [List.append_assoc]
   ·rw [if_neg q]
    by_cases q' : s < m
    ·have : B1 = [] := List.length_eq_zero_iff.1 (by omega)
     subst this;simp
    ·have : A2 = [] := List.length_eq_zero_iff.1 (by omega)
     subst this;simp
  rw [e1]
  obtain ⟨R1, e2, o2, b2⟩ : ∃ R1, (if a < s /\ s < d then symM f (X ++ (A1 ++ (B1 ++ (A2 ++ (B2 ++ Y))))) a s d else X ++ (A1 ++ (B1 ++ (A2 ++ (B2 ++ Y))))) = X ++ (R1 ++ (A2 ++ (B2 ++ Y))) /\ Ord R1 /\ Sb R1 (A1 ++ B1) := by
   by_cases q : a < s /\ s < d
   ·rw [if_pos q]
    exact symM_spec f X A1 B1 (A2 ++ (B2 ++ Y)) a s d (by omega) ha (by omega) (by omega) (by omega) (by omega) oA1 oB1
   ·rw [if_neg q]
    refine ⟨A1 ++ B1,by simp only [List.append_assoc],?_,Sb.refl _⟩
    by_cases q' : a < s
    ·have : B1 = [] := List.length_eq_zero_iff.1 (by omega)
     subst this;simpa using oA1
    ·have : A1 = [] := List.length_eq_zero_iff.1 (by omega)
     subst this;simpa using oB1
  rw [e2]
  have l2:=b2.l
  rw [List.length_append] at l2
  obtain ⟨R2, e3, o3, b3⟩ : ∃ R2, (if d < d + m - s /\ d + m - s < b then symM f (X ++ (R1 ++ (A2 ++ (B2 ++ Y)))) d (d + m - s) b else X ++ (R1 ++ (A2 ++ (B2 ++ Y)))) = X ++ (R1 ++ (R2 ++ Y)) /\ Ord R2 /\ Sb R2 (A2 ++ B2) := by
   by_cases q : d < d + m - s /\ d + m - s < b
   ·rw [if_pos q]
    obtain ⟨R2,w1,w2,w3⟩:=symM_spec f (X ++ R1) A2 B2 Y d (d + m - s) b (by omega) (by rw [List.length_append];omega) (by rw [List.length_append];omega) (by rw [List.length_append];omega) (by omega) (by omega) oA2 oB2
    exact ⟨R2,by simpa only [List.append_assoc] using w1,w2,w3⟩
   ·rw [if_neg q]
    refine ⟨A2 ++ B2,by simp only [List.append_assoc],?_,Sb.refl _⟩
    by_cases q' : d < d + m - s
    ·have : B2 = [] := List.length_eq_zero_iff.1 (by omega)
     subst this;simpa using oA2
    ·have : A2 = [] := List.length_eq_zero_iff.1 (by omega)
     subst this;simpa using oB2
  rw [e3]
  refine ⟨R1 ++ R2,by simp only [List.append_assoc],?_,?_⟩
  ·refine ord_app.2 ⟨o2, o3, fun x hx y hy => ?_⟩
   rcases List.mem_append.1 (b2.mem hx) with hx | hx
   ·rcases List.mem_append.1 (b3.mem hy) with hy | hy
    ·exact oA x hx y hy
    ·exact f2 x hx y hy
   ·rcases List.mem_append.1 (b3.mem hy) with hy | hy
    ·have:=f1 y hy x hx;omega
    ·exact oB x hx y hy
  ·refine (b2.app b3).trans ?_
   have w:=Sb.swap (A:=A2) (B:=B1) fun x hx y hy=>by have:=f1 x hx y hy;omega
   have:=((Sb.refl A1).app w).app (Sb.refl B2)
   simpa only [List.append_assoc] using this
theorem Sb.symm {A B : List Mb} (h : Sb A B) : Sb B A := ⟨h.l.symm, fun k => (h.f k).symm⟩
theorem isrt_app (X A Y : List Mb) (a b : Nat) (ha : a = X.length) (hb : b = X.length + A.length) : isrt (X ++ (A ++ Y)) a b = X ++ (yA A ++ Y) := by
 unfold isrt
 have e1 : (X ++ (A ++ Y)).take a = X:=by rw [ha];exact List.take_left
 have e2 : (X ++ (A ++ Y)).drop a = A ++ Y:=by rw [ha];exact List.drop_left
 have e3 : (X ++ (A ++ Y)).drop b = Y:=by rw [hb,<- List.append_assoc,<- List.length_append];exact List.drop_left
 rw [e1,e2,e3]
 have e4 : (A ++ Y).take (b - a) = A:=by rw [show b - a = A.length by omega];exact List.take_left
 rw [e4]
inductive Bks (bs : Nat) : List Mb -> Prop
 | last {A : List Mb} (h : Ord A) (hl : A.length < bs) : Bks bs A
 | cons {A T : List Mb} (h : Ord A) (hl : A.length = bs) (hT : Bks bs T) : Bks bs (A ++ T)
theorem srt_ord (l : List Mb) : Ord (yA l) := (srtM_spec l).2.1
theorem blk_spec (n : Nat) : ∀ (f : Nat) (X T : List Mb) (a : Nat), n <= a + f -> a = X.length -> n = X.length + T.length -> ∃ T', isrt (blkM n f (X ++ T) a).1 (blkM n f (X ++ T) a).2 n = X ++ T' /\ Bks 20 T' /\ Sb T' T := by
 intro f
 have fin : ∀ (f : Nat) (X T : List Mb) (a : Nat), ¬ a + 20 <= n -> a = X.length -> n = X.length + T.length -> ∃ T', isrt (blkM n f (X ++ T) a).1 (blkM n f (X ++ T) a).2 n = X ++ T' /\ Bks 20 T' /\ Sb T' T := fun f X T a h0 ha hn => by
  rw [blkM_end n f _ a h0]
  have:=isrt_app X T [] a n ha hn
  simp only [List.append_nil] at this
  exact ⟨yA T,this,.last (srt_ord T) (by rw [srtM_len];omega),srt_sb T⟩
 induction f with
 | zero=>intro X T a h ha hn;exact fin 0 X T a (by omega) ha hn
 | succ f ih =>
  intro X T a h ha hn
  by_cases h20 : a + 20 <= n
  ·obtain ⟨A, T2, rfl, hl⟩ : ∃ A T2, T = A ++ T2 /\ A.length = 20 := ⟨T.take 20, T.drop 20, (List.take_append_drop 20 T).symm, by rw [List.length_take]; omega⟩
   rw [List.length_append] at hn
   rw [blkM,if_pos h20,isrt_app X A T2 a (a + 20) ha (by omega),<- List.append_assoc]
   obtain ⟨T',e,b,s⟩:=ih (X ++ yA A) T2 (a + 20) (by omega) (by rw [List.length_append,srtM_len];omega) (by rw [List.length_append,srtM_len];omega)
   exact ⟨yA A ++ T',by rw [e,List.append_assoc],.cons (srt_ord A) (by rw [srtM_len];exact hl) b,(srt_sb A).app s⟩
  ·exact fin _ X T a h20 ha hn
theorem mrg_spec (n bs : Nat) (h0 : 0 < bs) : ∀ (f : Nat) (X T : List Mb) (a : Nat), n <= a + f -> a = X.length -> n = X.length + T.length -> Bks bs T →
 ∃ T',(if (mrgM n bs f (X ++ T) a).2 + bs < n then symM n (mrgM n bs f (X ++ T) a).1 (mrgM n bs f (X ++ T) a).2 ((mrgM n bs f (X ++ T) a).2 + bs) n else (mrgM n bs f (X ++ T) a).1) = X ++ T' /\ Bks (bs * 2) T' /\ Sb T' T:=by
 intro f
 induction f with
 | zero =>
  intro X T a h ha hn hT
  have : T = []:=List.length_eq_zero_iff.1 (by omega)
  subst this
  rw [mrgM_end n bs 0 _ a (by omega)]
  dsimp only
  rw [if_neg (by omega)]
  exact ⟨[],rfl,.last .nil (by simp;omega),Sb.refl _⟩
 | succ f ih =>
  intro X T a h ha hn hT
  cases hT with
  | last o l =>
   rw [mrgM_end n bs _ _ a (by omega)]
   dsimp only
   rw [if_neg (by omega)]
   exact ⟨T,rfl,.last o (by omega),Sb.refl _⟩
  | @cons A T1 oA lA hT1 =>
   rw [List.length_append] at hn
   cases hT1 with
   | last oB lB =>
    rw [mrgM_end n bs _ _ a (by omega)]
    dsimp only
    by_cases hb : a + bs < n
    ·rw [if_pos hb]
     obtain ⟨R,e,o,s⟩:=symM_spec n X A T1 [] a (a + bs) n (by omega) ha (by omega) (by omega) (by omega) (by omega) oA oB
     simp only [List.append_nil] at e
     have:=s.l
     rw [List.length_append] at this
     exact ⟨R,e,.last o (by omega),s⟩
    ·rw [if_neg hb]
     have : T1 = []:=List.length_eq_zero_iff.1 (by omega)
     subst this
     exact ⟨A ++ [],rfl,.last (by simpa using oA) (by simp;omega),Sb.refl _⟩
   | @cons B T2 oB lB hT2 =>
    rw [List.length_append] at hn
    obtain ⟨R,e,o,s⟩:=symM_spec n X A B T2 a (a + bs) (a + 2 * bs) (by omega) ha (by omega) (by omega) (by omega) (by omega) oA oB
    have hl:=s.l
    rw [List.length_append] at hl
    have e0 : X ++ (A ++ (B ++ T2)) = X ++ (A ++ (B ++ T2)):=rfl
    have hc : a + 2 * bs <= n:=by omega
    rw [mrgM,if_pos hc,e,<- List.append_assoc X R T2]
    obtain ⟨T',e',b,s'⟩:=ih (X ++ R) T2 (a + 2 * bs) (by omega) (by rw [List.length_append];omega) (by rw [List.length_append];omega) hT2
    refine ⟨R ++ T',by rw [e',List.append_assoc],.cons o (by omega) b,?_⟩
    have:=s.app s'
    rw [List.append_assoc] at this
    exact this
theorem stb_spec (n : Nat) : ∀ (f bs : Nat) (L : List Mb), n <= bs + f -> 0 < bs -> n = L.length -> Bks bs L -> Ord (stbM n f bs L) /\ Sb (stbM n f bs L) L := by
 have fin : ∀ (bs : Nat) (L : List Mb), n <= bs -> n = L.length -> Bks bs L -> Ord L /\ Sb L L := fun bs L h hn hL => by
  refine ⟨?_,Sb.refl _⟩
  cases hL with
  | last o _=>exact o
  | @cons A T o l hT =>
   rw [List.length_append] at hn
   have : T = []:=List.length_eq_zero_iff.1 (by omega)
   subst this
   simpa using o
 intro f
 induction f with
 | zero=>intro bs L h h0 hn hL;rw [stbM];exact fin bs L (by omega) hn hL
 | succ f ih =>
  intro bs L h h0 hn hL
  rw [stbM]
  split
  ·have := mrg_spec n bs h0 n [] L 0 (by omega) rfl (by simpa using hn) hL
   obtain ⟨T',e,b,s⟩:=this
   have e' : rndM n bs L = T':=by unfold rndM;simpa using e
   rw [e']
   obtain ⟨o,s'⟩:=ih (bs * 2) T' (by omega) (by omega) (by rw [s.l];exact hn) b
   exact ⟨o,s'.trans s⟩
  ·exact fin bs L (by omega) hn hL
theorem stab_srt (l : List Mb) : stab l = yA l := by
 obtain ⟨T',e,b,s⟩:=blk_spec l.length l.length [] l 0 (by omega) rfl (by simp)
 simp only [List.nil_append] at e
 obtain ⟨o,s'⟩:=stb_spec l.length l.length 20 T' (by omega) (by omega) s.l.symm b
 unfold stab
 rw [e]
 exact Sb.eq o (srt_ord l) ((s'.trans s).trans (srt_sb l).symm)
theorem stS_srt (l : List Mb) : stS l = yA l := by
 unfold stS
 split
 ·rfl
 ·exact stab_srt l
end Go.Proofs.YtjekjpgccnhobaaDoor
namespace Go.Proofs.YtjekjpgccnhobaaDoor
set_option linter.unusedSimpArgs false
set_option linter.unusedVariables false
open Go Go.Av
attribute [local irreducible] Go.Av.xH Go.Av.zU Go.Av.wY Go.Av.zT Go.Av.wZ Go.Av.zV Go.Av.Con
end Go.Proofs.YtjekjpgccnhobaaDoor
namespace Go.Proofs.YtjekjpgccnhobaaDoor
set_option linter.unusedSimpArgs false
set_option linter.unusedVariables false
set_option maxRecDepth 8000
open Go Go.Av
attribute [local irreducible] Go.Av.xH Go.Av.zU Go.Av.wY Go.Av.zT Go.Av.wZ Go.Av.zV Go.Av.Con
end Go.Proofs.YtjekjpgccnhobaaDoor
