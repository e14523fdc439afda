/- Texts that the proof needs: WS NU2. -/
import Derived.Test.YtjekjpgccnhobaaDoorP12ConfigBack
import Derived.Test.YtjekjpgccnhobaaDoorP20ConfigBack
import Derived.Test.YtjekjpgccnhobaaDoorP14ConfigBack
import Derived.Test.YtjekjpgccnhobaaDoorP21ConfigBack
/- A counter's next value. -/
namespace Go.Proofs.YtjekjpgccnhobaaDoor
open Go Go.Av
theorem wrapS (k n : Nat) (h : k < n) (hn : n ≤ 9223372036854775807) : IntKind.i64.wrap ((k : Int) + 1) = ((k + 1 : Nat) : Int) := by
  rw [yI] <;> omega
end Go.Proofs.YtjekjpgccnhobaaDoor
/- Numbers as texts, and texts as numbers: config's own. -/
namespace Go.Proofs.YtjekjpgccnhobaaDoor
set_option linter.unusedSimpArgs false
set_option linter.unusedVariables false
set_option maxRecDepth 8000
open Go Go.Av
attribute [local irreducible] Go.Av.CallK Go.Av.zZ Go.Av.CallQ Go.Av.zW Go.Av.CallR Go.Av.zY Go.Av.Con
theorem zD.shelf2 [Glob] {P : Program} {g : FuncId} (he : Go.Av.Enters P g) (xs : List Value) {z1 z2 : Value} (hz1 : scal z1 = true) (hz2 : scal z2 = true)
    (hrun : ∀ (F : Nat → Prop) (w : World) (m : Nm),Hp w F m (nmF [] []) → Calls P g xs.toArray w fun e w'=>e = .returned (.tuple #[z1,z2]) ∧ Keeps (fun _=>False) w w') :
    zD P g (xs.map fun x=>.p (.v x)) (.tup [.p (.v z1),.p (.v z2)]):=by
  unfold zD Con
  intro F w m ys hp hl har
  have hl' : ys.length = xs.length:=by simpa using hl
  have hys : ys = xs := by
    apply List.ext_getElem?
    intro i
    by_cases hi : i < xs.length
    · obtain ⟨y, h1, h2⟩ := har i (.p (.v xs[i])) (by simp [hi])
      have h3 : RP w _ (.v xs[i]) y:=h2
      cases h3
      rw [h1,List.getElem?_eq_getElem hi]
    · rw [List.getElem?_eq_none (by omega),List.getElem?_eq_none (by omega)]
  subst hys
  refine .inl ⟨he,(hrun F w m hp).mono fun e w' ⟨h1,hk⟩=>?_⟩
  subst h1
  refine ⟨hk.mono fun k h=>h.elim,.tuple #[z1,z2],m,rfl,?_,fun n k ho=>by simp [owns,yM] at ho,fun _ _ _=>rfl,⟨#[z1,z2],rfl,rfl,fun i v hi=>?_⟩⟩
  · exact Hp.none (fun k hk'=>Nat.lt_of_lt_of_le (hp.fold k hk') hk.size) yM fun g e he=>(hp.glob g e he).move hk.size (fun k hlt _=>hk.block k hlt id) fun k _ hf=>.inl hf
  · match i with
    | 0=>simp at hi;subst hi;exact ⟨z1,rfl,.v _ hz1⟩
    | 1=>simp at hi;subst hi;exact ⟨z2,rfl,.v _ hz2⟩
    | i + 2=>simp at hi
theorem cnum_con (l : List UInt8) (hl : l.length ≤ 9223372036854775807) : zD Tryd.prog 42 [.p (SB l)] (.tup [.p (I (yG l)), .p (SB (yB l))]) :=
  zD.shelf2 ⟨Tryd.f42,Tryd.func42,rfl,rfl⟩ [.string (bs l)] rfl rfl fun F w m hp=>number_walk l hl w
def dg (k : Nat) : UInt8 := UInt8.ofNat (48 + k)
theorem xG {k : Nat} (h : k < 10) : (dg k).toNat = 48 + k := by
  unfold dg
  rw [UInt8.toNat_ofNat']
  omega
def yZ (n : Nat) : List UInt8 := if n < 10 then [dg n] else if n < 100 then [dg (n / 10), dg (n % 10)] else [dg (n / 100), dg (n / 10 % 10), dg (n % 10)]
def preL (n : Nat) : List UInt8 := if n = 0 then [] else yZ n
theorem decL_pre {n : Nat} (h : n < 1000) : yZ n = preL (n / 10) ++ [dg (n % 10)] := by
  unfold preL
  by_cases h1 : n < 10
  · rw [if_pos (by omega)]
    unfold yZ
    rw [if_pos h1,Nat.mod_eq_of_lt h1];rfl
  · rw [if_neg (by omega)]
    by_cases h2 : n < 100
    · unfold yZ
      rw [if_neg h1,if_pos h2,if_pos (by omega)];rfl
    · unfold yZ
      rw [if_neg h1,if_neg h2,if_neg (by omega),if_pos (by omega)]
      rw [show n / 10 / 10 = n / 100 by omega];rfl
theorem preL_pos {n : Nat} (h : 0 < n) : preL n = yZ n := by unfold preL; rw [if_neg (by omega)]
theorem decL_lt (n : Nat) (h : n < 1000) : ∀ b ∈ yZ n, b.toNat < 128 := by
  intro b hb
  unfold yZ at hb
  split at hb
  · simp at hb;subst hb;rw [xG (by omega)];omega
  split at hb
  · simp at hb;rcases hb with rfl | rfl <;> rw [xG (by omega)] <;> omega
  · simp at hb;rcases hb with rfl | rfl | rfl <;> rw [xG (by omega)] <;> omega
def rns (l : List UInt8) : List (List PV) := l.map fun b => [PV.v (.int .i32 b.toNat)]
theorem unR_rns (l : List UInt8) : unR (rns l) = some (l.map fun b => (b.toNat : Int)) := by
  induction l with
  | nil=>rfl
  | cons b l ih =>
    show (match unR (rns l) with | some ns=>some ((b.toNat : Int) :: ns) | none=>none) = _
    rw [ih];rfl
theorem enc_asc {b : UInt8} (h : b.toNat < 128) : Utf8.encode (b.toNat : Int) = bs [b] := by
  unfold Utf8.encode
  have hv : Utf8.valid (b.toNat : Int) = true := by
    unfold Utf8.valid
    simp
    omega
  simp only [hv,if_true,Int.toNat_natCast]
  rw [if_pos (by omega),UInt8.ofNat_toNat]
  rfl
theorem runes_asc (l : List UInt8) (h : ∀ b ∈ l, b.toNat < 128) : Go.runesBytes (l.map fun b => (b.toNat : Int)) = bs l := by
  have key : ∀ (l a : List UInt8), (∀ b ∈ l, b.toNat < 128) → (l.map fun b => (b.toNat : Int)).foldl (fun r n => r ++ Utf8.encode n) (bs a) = bs (a ++ l) := by
    intro l
    induction l with
    | nil=>intro a _;simp
    | cons b l ih =>
      intro a h
      rw [xC,List.foldl_cons,enc_asc (h b List.mem_cons_self),bs_append,ih _ fun c hc=>h c (List.mem_cons_of_mem _ hc)]
      simp
  exact key l [] h
theorem digit_con (n : Nat) (h : n < 1000) : zD Tryd.prog 40 [.p (I n)] (.p (.v (.int .i32 (dg (n % 10)).toNat))) := by
  have h1 : (n : Int).tmod 10 = ((n % 10 : Nat) : Int):=by rw [Int.tmod_eq_emod_of_nonneg (by omega)];omega
  have h2 : IntKind.i32.wrap (((n % 10 : Nat) : Int)) = ((n % 10 : Nat) : Int):=by unfold IntKind.wrap;simp [IntKind.bits,IntKind.signed];omega
  have h3 : IntKind.i32.wrap (48 + ((n % 10 : Nat) : Int)) = ((dg (n % 10)).toNat : Int):=by rw [xG (by omega)];unfold IntKind.wrap;simp [IntKind.bits,IntKind.signed];omega
  generalize hx : ((n % 10 : Nat) : Int) = x at *
  generalize ((dg (n % 10)).toNat : Int) = y at *
  refine zK Tryd.tab Tryd.mixed Tryd.func40 rfl rfl Tryd.ntmps40 (by simp) (by simp) fun Q hr hn=>?_
  repeat' first|(refine hK _ ?_;clear hK)|(refine hK _ _ ?_;clear hK)|(clear hK;refine hK _ ?_;clear hK)|(clear hK;clear hK;refine hK _ ?_;clear hK)|(clear hK;clear hK;clear hK;refine hK _ ?_;clear hK)|(clear hK;clear hK;clear hK;clear hK;refine hK _ ?_;clear hK)|(refine zI fun K hK=>?_)|((first | refine zG ?_ | refine zN rfl (by kernel_rfl) ?_ | refine zM ?_ | refine zJ (by kernel_rfl) ?_);simp only [xC,xB,strip])|((first | refine wIs fun K hK=>?_ | refine wOs fun K hK=>?_ | refine wQs fun K hK=>?_ | refine zT ?_ | refine zU ?_ | refine zV ?_ | refine zL ?_);simp [h1,h2,h3])|(refine wIn ?_;refine And.intro (by kernel_rfl) ?_;try simp only [zX])|(first | refine zQ ?_ | refine zS ?_)|((first | refine zH ?_ | refine zO ?_ | refine zP ?_);try simp)|((first | refine zR ?_ | refine wOn ?_ | refine wQn ?_);try simp only [zX])
  all_goals apply hr
  all_goals simp [Tryd.f40]
set_option maxHeartbeats 2000000 in
theorem decimal_con (n : Nat) (h : n < 1000) : zD Tryd.prog 34 [.p (I n)] (.p (SB (yZ n))) := by
  have c0:=digit_con n h
  have w0 : IntKind.i64.wrap ((n : Int).tdiv 10) = ((n / 10 : Nat) : Int):=by rw [Int.tdiv_eq_ediv_of_nonneg (by omega),yI] <;> omega
  have w0' : IntKind.i64.wrap ((n : Int) / 10) = (n : Int) / 10:=by rw [yI] <;> omega
  have hpre:=decL_pre h
  have hlt:=decL_lt n h
  refine zK Tryd.tab Tryd.mixed Tryd.func34 rfl rfl Tryd.ntmps34 (by simp) (by simp) fun Q hr hn=>?_
  repeat' first|(refine hK _ ?_;clear hK)|(refine hK _ _ ?_;clear hK)|(clear hK;refine hK _ ?_;clear hK)|(clear hK;clear hK;refine hK _ ?_;clear hK)|(clear hK;clear hK;clear hK;refine hK _ ?_;clear hK)|(clear hK;clear hK;clear hK;clear hK;refine hK _ ?_;clear hK)|(refine zI fun K hK=>?_)|((first | refine zG ?_ | refine zN rfl (by kernel_rfl) ?_ | refine zM ?_ | refine zJ (by kernel_rfl) ?_);simp only [xC,xB,strip])|((first | refine wIs fun K hK=>?_ | refine wOs fun K hK=>?_ | refine wQs fun K hK=>?_ | refine zT ?_ | refine zU ?_ | refine zV ?_ | refine zL ?_);simp [w0,w0'])|(refine wIn ?_;refine And.intro (by kernel_rfl) ?_;try simp only [zX])|(first | refine zQ ?_ | refine zS ?_)|((first | refine zH ?_ | refine zO ?_ | refine zP ?_);try simp)|((first | refine zR ?_ | refine wOn ?_ | refine wQn ?_);try simp only [zX])|(refine zZ.pure (c0) rfl ?_)|(refine zZ.lent (c0) rfl ?_)|(refine zW.pure (c0) rfl ?_)|(refine zW.lent (c0) rfl ?_)|(refine zZ.own (c0) ?_)|(refine zY.pure (c0) rfl ?_)|(refine zY.lent (c0) rfl ?_)|(refine zY.own (c0) ?_)
  refine wLoop (fun N st=>∃ (m : Nat) (ds : List UInt8),m = N ∧ m < 1000 ∧ yZ n = preL m ++ ds ∧ st.s 0 = .p (I m) ∧ (st.s 3 = .full 1 (rns ds) ∨ st.s 3 = .p (.sl 1 (rns ds)))) (n / 10) ⟨n / 10,[dg (n % 10)],rfl,by omega,hpre,by simp [rns,w0']⟩ fun K N st hL ⟨m,ds,hm,hm3,hd,g0,g3⟩=>?_
  by_cases h0 : 0 < m
  · have h0' : (0 : Int) < m := by omega
    have c:=digit_con m hm3
    have w1 : IntKind.i64.wrap ((m : Int).tdiv 10) = ((m / 10 : Nat) : Int):=by rw [Int.tdiv_eq_ediv_of_nonneg (by omega),yI] <;> omega
    have w1' : IntKind.i64.wrap ((m : Int) / 10) = (m : Int) / 10:=by rw [yI] <;> omega
    have hd2 : yZ n = preL (m / 10) ++ (dg (m % 10) :: ds):=by rw [hd,preL_pos h0,decL_pre hm3];simp
    have hs : [PV.v (.int .i32 ((dg (m % 10)).toNat : Int))] :: rns ds = rns (dg (m % 10) :: ds):=rfl
    have hdl : ds.length ≤ 3 := by
      have:=congrArg List.length hd
      rw [List.length_append] at this
      have h3 : (yZ n).length ≤ 3:=by unfold yZ;split <;> (try split) <;> simp
      omega
    have hrl : (rns ds).length = ds.length:=by simp [rns]
    generalize ((dg (m % 10)).toNat : Int) = y at c hs
    rcases g3 with g3 | g3
    all_goals
      repeat' first|(refine hK _ ?_;clear hK)|(refine hK _ _ ?_;clear hK)|(clear hK;refine hK _ ?_;clear hK)|(clear hK;clear hK;refine hK _ ?_;clear hK)|(clear hK;clear hK;clear hK;refine hK _ ?_;clear hK)|(clear hK;clear hK;clear hK;clear hK;refine hK _ ?_;clear hK)|(refine zI fun K hK=>?_)|((first | refine zG ?_ | refine zN rfl (by kernel_rfl) ?_ | refine zM ?_ | refine zJ (by kernel_rfl) ?_);simp only [xC,xB,strip])|((first | refine wIs fun K hK=>?_ | refine wOs fun K hK=>?_ | refine wQs fun K hK=>?_ | refine zT ?_ | refine zU ?_ | refine zV ?_ | refine zL ?_);simp [g0,g3,h0,h0',w1,w1',hs])|(refine wIn ?_;refine And.intro (by kernel_rfl) ?_;try simp only [zX])|(first | refine zQ ?_ | refine zS ?_)|((first | refine zH ?_ | refine zO ?_ | refine zP ?_);try simp)|((first | refine zR ?_ | refine wOn ?_ | refine wQn ?_);try simp only [zX])|(refine zZ.pure (c) rfl ?_)|(refine zZ.lent (c) rfl ?_)|(refine zW.pure (c) rfl ?_)|(refine zW.lent (c) rfl ?_)|(refine zZ.own (c) ?_)|(refine zY.pure (c) rfl ?_)|(refine zY.lent (c) rfl ?_)|(refine zY.own (c) ?_)|(refine And.intro (by (try simp only [hrl]);omega) ?_)|(refine Or.inr ?_)
      refine hL _ (m / 10) (by omega) ⟨m / 10,dg (m % 10) :: ds,rfl,by omega,hd2,?_⟩
      simp [g0,w1,w1',hs]
  · have hm0 : m = 0 := by omega
    subst hm0
    have hds : yZ n = ds:=by rw [hd];rfl
    subst hds
    have hu:=unR_rns (yZ n)
    have hb:=runes_asc (yZ n) hlt
    rcases g3 with g3 | g3
    all_goals
      repeat' first|(refine hK _ ?_;clear hK)|(refine hK _ _ ?_;clear hK)|(clear hK;refine hK _ ?_;clear hK)|(clear hK;clear hK;refine hK _ ?_;clear hK)|(clear hK;clear hK;clear hK;refine hK _ ?_;clear hK)|(clear hK;clear hK;clear hK;clear hK;refine hK _ ?_;clear hK)|(refine zI fun K hK=>?_)|((first | refine zG ?_ | refine zN rfl (by kernel_rfl) ?_ | refine zM ?_ | refine zJ (by kernel_rfl) ?_);simp only [xC,xB,strip])|((first | refine wIs fun K hK=>?_ | refine wOs fun K hK=>?_ | refine wQs fun K hK=>?_ | refine zT ?_ | refine zU ?_ | refine zV ?_ | refine zL ?_);simp [g0,g3,hu,hb])|(refine wIn ?_;refine And.intro (by kernel_rfl) ?_;try simp only [zX])|(first | refine zQ ?_ | refine zS ?_)|((first | refine zH ?_ | refine zO ?_ | refine zP ?_);try simp)|((first | refine zR ?_ | refine wOn ?_ | refine wQn ?_);try simp only [zX])
      all_goals apply hr
      all_goals simp [Tryd.f34]
end Go.Proofs.YtjekjpgccnhobaaDoor
