/- Texts that the proof needs: CB3. -/
import Derived.Test.YtjekjpgccnhobaaDoorP28ConfigBack
/- Configs: the law ConfigBack. -/
namespace Go.Proofs.YtjekjpgccnhobaaDoor
set_option linter.unusedSimpArgs false
set_option linter.unusedVariables false
set_option maxRecDepth 8000
open Go Go.Av
attribute [local irreducible] Go.Av.CallK Go.Av.zZ Go.Av.CallQ Go.Av.zW Go.Av.CallR Go.Av.zY Go.Av.Con
theorem txtC_len {c : Cf} (h : c.ms.length ≤ 300) : (txtC c).length ≤ 4000 := by
  unfold txtC
  split
  · have h1 := memsT_len c.ms
    have h2:=txt_len ⟨c.ep,c.n⟩
    have h3:=xF c.kind.toNat
    unfold hdT
    rw [List.length_append,List.length_append,List.length_cons]
    omega
  · simp
theorem prsC_len (s : List UInt8) : (prsC s).ms.length ≤ s.length + 1 := by
  have h1:=shpC_len (spl s)
  have h2:=spl_len s
  have h3:=count_le s
  unfold prsC
  split
  · split
    · omega
    · simp [cf0]
  · simp [cf0]
set_option maxHeartbeats 8000000 in
theorem configBack_con (c : Cf) (s : List UInt8) (hz : c.ms.length ≤ 9223372036854775807) (hs : s.length ≤ 9223372036854775807) : zD Tryd.prog 5 [.p (.agg c.cells), .p (SB s)] (.p (B true)) := by
  have c0:=far04_con c hz
  have ca:=awake04
  by_cases hf : 300 < c.ms.length
  · rw [decide_eq_true hf] at c0
    unfold Cf.cells at *
    clear hz hf
    refine zK Tryd.tab Tryd.mixed Tryd.func5 rfl rfl Tryd.ntmps5 (by simp) (by simp) fun Q hr hn=>?_
    repeat' first|(refine hK _ ?_;clear hK)|(refine hK _ _ ?_;clear hK)|(clear hK;refine hK _ ?_;clear hK)|(clear hK;clear hK;refine hK _ ?_;clear hK)|(clear hK;clear hK;clear hK;refine hK _ ?_;clear hK)|(clear hK;clear hK;clear hK;clear hK;refine hK _ ?_;clear hK)|(refine zI fun K hK=>?_)|((first | refine zG ?_ | refine zN rfl (by kernel_rfl) ?_ | refine zM ?_ | refine zJ (by kernel_rfl) ?_);simp only [xC,xB,strip])|((first | refine wIs fun K hK=>?_ | refine wOs fun K hK=>?_ | refine wQs fun K hK=>?_ | refine zT ?_ | refine zU ?_ | refine zV ?_ | refine zL ?_);simp)|(refine wIn ?_;refine And.intro (by kernel_rfl) ?_;try simp only [zX])|(first | refine zQ ?_ | refine zS ?_)|((first | refine zH ?_ | refine zO ?_ | refine zP ?_);try simp)|((first | refine zR ?_ | refine wOn ?_ | refine wQn ?_);try simp only [zX])|(refine zZ.pure (c0) rfl ?_)|(refine zZ.lent (c0) rfl ?_)|(refine zW.pure (c0) rfl ?_)|(refine zW.lent (c0) rfl ?_)|(refine zZ.own (c0) ?_)|(refine zY.pure (c0) rfl ?_)|(refine zY.lent (c0) rfl ?_)|(refine zY.own (c0) ?_)|(refine zZ.pure (ca) rfl ?_)|(refine zZ.lent (ca) rfl ?_)|(refine zW.pure (ca) rfl ?_)|(refine zW.lent (ca) rfl ?_)|(refine zZ.own (ca) ?_)|(refine zY.pure (ca) rfl ?_)|(refine zY.lent (ca) rfl ?_)|(refine zY.own (ca) ?_)
    all_goals apply hr
    all_goals simp [Tryd.f5]
  rw [decide_eq_false hf] at c0
  by_cases hg : 3000 < s.length
  · have hg' : (3000 : Int) < s.length := by omega
    unfold Cf.cells at *
    clear hz hf
    refine zK Tryd.tab Tryd.mixed Tryd.func5 rfl rfl Tryd.ntmps5 (by simp) (by simp) fun Q hr hn=>?_
    repeat' first|(refine hK _ ?_;clear hK)|(refine hK _ _ ?_;clear hK)|(clear hK;refine hK _ ?_;clear hK)|(clear hK;clear hK;refine hK _ ?_;clear hK)|(clear hK;clear hK;clear hK;refine hK _ ?_;clear hK)|(clear hK;clear hK;clear hK;clear hK;refine hK _ ?_;clear hK)|(refine zI fun K hK=>?_)|((first | refine zG ?_ | refine zN rfl (by kernel_rfl) ?_ | refine zM ?_ | refine zJ (by kernel_rfl) ?_);simp only [xC,xB,strip])|((first | refine wIs fun K hK=>?_ | refine wOs fun K hK=>?_ | refine wQs fun K hK=>?_ | refine zT ?_ | refine zU ?_ | refine zV ?_ | refine zL ?_);simp [hg,hg'])|(refine wIn ?_;refine And.intro (by kernel_rfl) ?_;try simp only [zX])|(first | refine zQ ?_ | refine zS ?_)|((first | refine zH ?_ | refine zO ?_ | refine zP ?_);try simp)|((first | refine zR ?_ | refine wOn ?_ | refine wQn ?_);try simp only [zX])|(refine zZ.pure (c0) rfl ?_)|(refine zZ.lent (c0) rfl ?_)|(refine zW.pure (c0) rfl ?_)|(refine zW.lent (c0) rfl ?_)|(refine zZ.own (c0) ?_)|(refine zY.pure (c0) rfl ?_)|(refine zY.lent (c0) rfl ?_)|(refine zY.own (c0) ?_)|(refine zZ.pure (ca) rfl ?_)|(refine zZ.lent (ca) rfl ?_)|(refine zW.pure (ca) rfl ?_)|(refine zW.lent (ca) rfl ?_)|(refine zZ.own (ca) ?_)|(refine zY.pure (ca) rfl ?_)|(refine zY.lent (ca) rfl ?_)|(refine zY.own (ca) ?_)
    all_goals apply hr
    all_goals simp [Tryd.f5]
  have hg' : ¬ (3000 : Int) < s.length:=by omega
  have c1:=textC_con c (by omega)
  have c2:=check_con c (by omega)
  have hl:=txtC_len (c:=c) (by omega)
  have c3:=parseC_con (txtC c) (by omega)
  have c5:=parseC_con s (by omega)
  have hpl:=prsC_len s
  have c6:=textC_con (prsC s) (by omega)
  have c7:=check_con (prsC s) (by omega)
  have hrb:=@read_back s
  generalize hx : prsC s = X at *
  generalize hxe : prsE s = xe at *
  generalize check X = cx at *
  generalize txtC X = tx at *
  clear hx hxe hpl hl
  obtain ⟨xep,xn,xk,xms⟩:=X
  by_cases hc : check c = 0
  · obtain ⟨t1, t2, t3⟩ := text_back hc
    rw [hc] at c2
    rw [t1,t2] at c3
    have c4:=cfSame04_con c c
    rw [decide_eq_true rfl] at c4
    clear t1 t2 hz hf hc
    generalize txtC c = T at *
    obtain ⟨ep,n,kd,ms⟩:=c
    unfold Cf.cells at *
    dsimp only at *
    by_cases hxe : xe = 0
    · obtain ⟨h1, h2⟩ := hrb hxe
      subst h1 h2 hxe
      refine zK Tryd.tab Tryd.mixed Tryd.func5 rfl rfl Tryd.ntmps5 (by simp) (by simp) fun Q hr hn=>?_
      repeat' first|(refine hK _ ?_;clear hK)|(refine hK _ _ ?_;clear hK)|(clear hK;refine hK _ ?_;clear hK)|(clear hK;clear hK;refine hK _ ?_;clear hK)|(clear hK;clear hK;clear hK;refine hK _ ?_;clear hK)|(clear hK;clear hK;clear hK;clear hK;refine hK _ ?_;clear hK)|(refine zI fun K hK=>?_)|((first | refine zG ?_ | refine zN rfl (by kernel_rfl) ?_ | refine zM ?_ | refine zJ (by kernel_rfl) ?_);simp only [xC,xB,strip])|((first | refine wIs fun K hK=>?_ | refine wOs fun K hK=>?_ | refine wQs fun K hK=>?_ | refine zT ?_ | refine zU ?_ | refine zV ?_ | refine zL ?_);simp [hg,hg',t3])|(refine wIn ?_;refine And.intro (by kernel_rfl) ?_;try simp only [zX])|(first | refine zQ ?_ | refine zS ?_)|((first | refine zH ?_ | refine zO ?_ | refine zP ?_);try simp)|((first | refine zR ?_ | refine wOn ?_ | refine wQn ?_);try simp only [zX])|(refine zZ.pure (c0) rfl ?_)|(refine zZ.lent (c0) rfl ?_)|(refine zW.pure (c0) rfl ?_)|(refine zW.lent (c0) rfl ?_)|(refine zZ.own (c0) ?_)|(refine zY.pure (c0) rfl ?_)|(refine zY.lent (c0) rfl ?_)|(refine zY.own (c0) ?_)|(refine zZ.pure (c1) rfl ?_)|(refine zZ.lent (c1) rfl ?_)|(refine zW.pure (c1) rfl ?_)|(refine zW.lent (c1) rfl ?_)|(refine zZ.own (c1) ?_)|(refine zY.pure (c1) rfl ?_)|(refine zY.lent (c1) rfl ?_)|(refine zY.own (c1) ?_)|(refine zZ.pure (c2) rfl ?_)|(refine zZ.lent (c2) rfl ?_)|(refine zW.pure (c2) rfl ?_)|(refine zW.lent (c2) rfl ?_)|(refine zZ.own (c2) ?_)|(refine zY.pure (c2) rfl ?_)|(refine zY.lent (c2) rfl ?_)|(refine zY.own (c2) ?_)|(refine zZ.pure (c3) rfl ?_)|(refine zZ.lent (c3) rfl ?_)|(refine zW.pure (c3) rfl ?_)|(refine zW.lent (c3) rfl ?_)|(refine zZ.own (c3) ?_)|(refine zY.pure (c3) rfl ?_)|(refine zY.lent (c3) rfl ?_)|(refine zY.own (c3) ?_)|(refine zZ.pure (c4) rfl ?_)|(refine zZ.lent (c4) rfl ?_)|(refine zW.pure (c4) rfl ?_)|(refine zW.lent (c4) rfl ?_)|(refine zZ.own (c4) ?_)|(refine zY.pure (c4) rfl ?_)|(refine zY.lent (c4) rfl ?_)|(refine zY.own (c4) ?_)|(refine zZ.pure (c5) rfl ?_)|(refine zZ.lent (c5) rfl ?_)|(refine zW.pure (c5) rfl ?_)|(refine zW.lent (c5) rfl ?_)|(refine zZ.own (c5) ?_)|(refine zY.pure (c5) rfl ?_)|(refine zY.lent (c5) rfl ?_)|(refine zY.own (c5) ?_)|(refine zZ.pure (c6) rfl ?_)|(refine zZ.lent (c6) rfl ?_)|(refine zW.pure (c6) rfl ?_)|(refine zW.lent (c6) rfl ?_)|(refine zZ.own (c6) ?_)|(refine zY.pure (c6) rfl ?_)|(refine zY.lent (c6) rfl ?_)|(refine zY.own (c6) ?_)|(refine zZ.pure (c7) rfl ?_)|(refine zZ.lent (c7) rfl ?_)|(refine zW.pure (c7) rfl ?_)|(refine zW.lent (c7) rfl ?_)|(refine zZ.own (c7) ?_)|(refine zY.pure (c7) rfl ?_)|(refine zY.lent (c7) rfl ?_)|(refine zY.own (c7) ?_)|(refine zZ.pure (ca) rfl ?_)|(refine zZ.lent (ca) rfl ?_)|(refine zW.pure (ca) rfl ?_)|(refine zW.lent (ca) rfl ?_)|(refine zZ.own (ca) ?_)|(refine zY.pure (ca) rfl ?_)|(refine zY.lent (ca) rfl ?_)|(refine zY.own (ca) ?_)
      all_goals apply hr
      all_goals simp [Tryd.f5]
    · have hxe' := eq_false hxe
      clear hrb c6 c7
      refine zK Tryd.tab Tryd.mixed Tryd.func5 rfl rfl Tryd.ntmps5 (by simp) (by simp) fun Q hr hn=>?_
      repeat' first|(refine hK _ ?_;clear hK)|(refine hK _ _ ?_;clear hK)|(clear hK;refine hK _ ?_;clear hK)|(clear hK;clear hK;refine hK _ ?_;clear hK)|(clear hK;clear hK;clear hK;refine hK _ ?_;clear hK)|(clear hK;clear hK;clear hK;clear hK;refine hK _ ?_;clear hK)|(refine zI fun K hK=>?_)|((first | refine zG ?_ | refine zN rfl (by kernel_rfl) ?_ | refine zM ?_ | refine zJ (by kernel_rfl) ?_);simp only [xC,xB,strip])|((first | refine wIs fun K hK=>?_ | refine wOs fun K hK=>?_ | refine wQs fun K hK=>?_ | refine zT ?_ | refine zU ?_ | refine zV ?_ | refine zL ?_);simp [hg,hg',t3,hxe'])|(refine wIn ?_;refine And.intro (by kernel_rfl) ?_;try simp only [zX])|(first | refine zQ ?_ | refine zS ?_)|((first | refine zH ?_ | refine zO ?_ | refine zP ?_);try simp)|((first | refine zR ?_ | refine wOn ?_ | refine wQn ?_);try simp only [zX])|(refine zZ.pure (c0) rfl ?_)|(refine zZ.lent (c0) rfl ?_)|(refine zW.pure (c0) rfl ?_)|(refine zW.lent (c0) rfl ?_)|(refine zZ.own (c0) ?_)|(refine zY.pure (c0) rfl ?_)|(refine zY.lent (c0) rfl ?_)|(refine zY.own (c0) ?_)|(refine zZ.pure (c1) rfl ?_)|(refine zZ.lent (c1) rfl ?_)|(refine zW.pure (c1) rfl ?_)|(refine zW.lent (c1) rfl ?_)|(refine zZ.own (c1) ?_)|(refine zY.pure (c1) rfl ?_)|(refine zY.lent (c1) rfl ?_)|(refine zY.own (c1) ?_)|(refine zZ.pure (c2) rfl ?_)|(refine zZ.lent (c2) rfl ?_)|(refine zW.pure (c2) rfl ?_)|(refine zW.lent (c2) rfl ?_)|(refine zZ.own (c2) ?_)|(refine zY.pure (c2) rfl ?_)|(refine zY.lent (c2) rfl ?_)|(refine zY.own (c2) ?_)|(refine zZ.pure (c3) rfl ?_)|(refine zZ.lent (c3) rfl ?_)|(refine zW.pure (c3) rfl ?_)|(refine zW.lent (c3) rfl ?_)|(refine zZ.own (c3) ?_)|(refine zY.pure (c3) rfl ?_)|(refine zY.lent (c3) rfl ?_)|(refine zY.own (c3) ?_)|(refine zZ.pure (c4) rfl ?_)|(refine zZ.lent (c4) rfl ?_)|(refine zW.pure (c4) rfl ?_)|(refine zW.lent (c4) rfl ?_)|(refine zZ.own (c4) ?_)|(refine zY.pure (c4) rfl ?_)|(refine zY.lent (c4) rfl ?_)|(refine zY.own (c4) ?_)|(refine zZ.pure (c5) rfl ?_)|(refine zZ.lent (c5) rfl ?_)|(refine zW.pure (c5) rfl ?_)|(refine zW.lent (c5) rfl ?_)|(refine zZ.own (c5) ?_)|(refine zY.pure (c5) rfl ?_)|(refine zY.lent (c5) rfl ?_)|(refine zY.own (c5) ?_)|(refine zZ.pure (ca) rfl ?_)|(refine zZ.lent (ca) rfl ?_)|(refine zW.pure (ca) rfl ?_)|(refine zW.lent (ca) rfl ?_)|(refine zZ.own (ca) ?_)|(refine zY.pure (ca) rfl ?_)|(refine zY.lent (ca) rfl ?_)|(refine zY.own (ca) ?_)
      all_goals apply hr
      all_goals simp [Tryd.f5]
  · have ht : txtC c = [] := by unfold txtC; rw [if_neg hc]
    rw [ht] at c1 c3
    have hc':=eq_false hc
    generalize check c = ce at *
    generalize prsE [] = ye at *
    generalize prsC [] = Y at *
    clear hz hf ht
    obtain ⟨yep,yn,yk,yms⟩:=Y
    obtain ⟨ep,n,kd,ms⟩:=c
    unfold Cf.cells at *
    dsimp only at *
    by_cases hxe : xe = 0
    · obtain ⟨h1, h2⟩ := hrb hxe
      subst h1 h2 hxe
      refine zK Tryd.tab Tryd.mixed Tryd.func5 rfl rfl Tryd.ntmps5 (by simp) (by simp) fun Q hr hn=>?_
      repeat' first|(refine hK _ ?_;clear hK)|(refine hK _ _ ?_;clear hK)|(clear hK;refine hK _ ?_;clear hK)|(clear hK;clear hK;refine hK _ ?_;clear hK)|(clear hK;clear hK;clear hK;refine hK _ ?_;clear hK)|(clear hK;clear hK;clear hK;clear hK;refine hK _ ?_;clear hK)|(refine zI fun K hK=>?_)|((first | refine zG ?_ | refine zN rfl (by kernel_rfl) ?_ | refine zM ?_ | refine zJ (by kernel_rfl) ?_);simp only [xC,xB,strip])|((first | refine wIs fun K hK=>?_ | refine wOs fun K hK=>?_ | refine wQs fun K hK=>?_ | refine zT ?_ | refine zU ?_ | refine zV ?_ | refine zL ?_);simp [hg,hg',hc'])|(refine wIn ?_;refine And.intro (by kernel_rfl) ?_;try simp only [zX])|(first | refine zQ ?_ | refine zS ?_)|((first | refine zH ?_ | refine zO ?_ | refine zP ?_);try simp)|((first | refine zR ?_ | refine wOn ?_ | refine wQn ?_);try simp only [zX])|(refine zZ.pure (c0) rfl ?_)|(refine zZ.lent (c0) rfl ?_)|(refine zW.pure (c0) rfl ?_)|(refine zW.lent (c0) rfl ?_)|(refine zZ.own (c0) ?_)|(refine zY.pure (c0) rfl ?_)|(refine zY.lent (c0) rfl ?_)|(refine zY.own (c0) ?_)|(refine zZ.pure (c1) rfl ?_)|(refine zZ.lent (c1) rfl ?_)|(refine zW.pure (c1) rfl ?_)|(refine zW.lent (c1) rfl ?_)|(refine zZ.own (c1) ?_)|(refine zY.pure (c1) rfl ?_)|(refine zY.lent (c1) rfl ?_)|(refine zY.own (c1) ?_)|(refine zZ.pure (c2) rfl ?_)|(refine zZ.lent (c2) rfl ?_)|(refine zW.pure (c2) rfl ?_)|(refine zW.lent (c2) rfl ?_)|(refine zZ.own (c2) ?_)|(refine zY.pure (c2) rfl ?_)|(refine zY.lent (c2) rfl ?_)|(refine zY.own (c2) ?_)|(refine zZ.pure (c3) rfl ?_)|(refine zZ.lent (c3) rfl ?_)|(refine zW.pure (c3) rfl ?_)|(refine zW.lent (c3) rfl ?_)|(refine zZ.own (c3) ?_)|(refine zY.pure (c3) rfl ?_)|(refine zY.lent (c3) rfl ?_)|(refine zY.own (c3) ?_)|(refine zZ.pure (c5) rfl ?_)|(refine zZ.lent (c5) rfl ?_)|(refine zW.pure (c5) rfl ?_)|(refine zW.lent (c5) rfl ?_)|(refine zZ.own (c5) ?_)|(refine zY.pure (c5) rfl ?_)|(refine zY.lent (c5) rfl ?_)|(refine zY.own (c5) ?_)|(refine zZ.pure (c6) rfl ?_)|(refine zZ.lent (c6) rfl ?_)|(refine zW.pure (c6) rfl ?_)|(refine zW.lent (c6) rfl ?_)|(refine zZ.own (c6) ?_)|(refine zY.pure (c6) rfl ?_)|(refine zY.lent (c6) rfl ?_)|(refine zY.own (c6) ?_)|(refine zZ.pure (c7) rfl ?_)|(refine zZ.lent (c7) rfl ?_)|(refine zW.pure (c7) rfl ?_)|(refine zW.lent (c7) rfl ?_)|(refine zZ.own (c7) ?_)|(refine zY.pure (c7) rfl ?_)|(refine zY.lent (c7) rfl ?_)|(refine zY.own (c7) ?_)|(refine zZ.pure (ca) rfl ?_)|(refine zZ.lent (ca) rfl ?_)|(refine zW.pure (ca) rfl ?_)|(refine zW.lent (ca) rfl ?_)|(refine zZ.own (ca) ?_)|(refine zY.pure (ca) rfl ?_)|(refine zY.lent (ca) rfl ?_)|(refine zY.own (ca) ?_)
      all_goals apply hr
      all_goals simp [Tryd.f5]
    · have hxe' := eq_false hxe
      clear hrb c6 c7
      refine zK Tryd.tab Tryd.mixed Tryd.func5 rfl rfl Tryd.ntmps5 (by simp) (by simp) fun Q hr hn=>?_
      repeat' first|(refine hK _ ?_;clear hK)|(refine hK _ _ ?_;clear hK)|(clear hK;refine hK _ ?_;clear hK)|(clear hK;clear hK;refine hK _ ?_;clear hK)|(clear hK;clear hK;clear hK;refine hK _ ?_;clear hK)|(clear hK;clear hK;clear hK;clear hK;refine hK _ ?_;clear hK)|(refine zI fun K hK=>?_)|((first | refine zG ?_ | refine zN rfl (by kernel_rfl) ?_ | refine zM ?_ | refine zJ (by kernel_rfl) ?_);simp only [xC,xB,strip])|((first | refine wIs fun K hK=>?_ | refine wOs fun K hK=>?_ | refine wQs fun K hK=>?_ | refine zT ?_ | refine zU ?_ | refine zV ?_ | refine zL ?_);simp [hg,hg',hc',hxe'])|(refine wIn ?_;refine And.intro (by kernel_rfl) ?_;try simp only [zX])|(first | refine zQ ?_ | refine zS ?_)|((first | refine zH ?_ | refine zO ?_ | refine zP ?_);try simp)|((first | refine zR ?_ | refine wOn ?_ | refine wQn ?_);try simp only [zX])|(refine zZ.pure (c0) rfl ?_)|(refine zZ.lent (c0) rfl ?_)|(refine zW.pure (c0) rfl ?_)|(refine zW.lent (c0) rfl ?_)|(refine zZ.own (c0) ?_)|(refine zY.pure (c0) rfl ?_)|(refine zY.lent (c0) rfl ?_)|(refine zY.own (c0) ?_)|(refine zZ.pure (c1) rfl ?_)|(refine zZ.lent (c1) rfl ?_)|(refine zW.pure (c1) rfl ?_)|(refine zW.lent (c1) rfl ?_)|(refine zZ.own (c1) ?_)|(refine zY.pure (c1) rfl ?_)|(refine zY.lent (c1) rfl ?_)|(refine zY.own (c1) ?_)|(refine zZ.pure (c2) rfl ?_)|(refine zZ.lent (c2) rfl ?_)|(refine zW.pure (c2) rfl ?_)|(refine zW.lent (c2) rfl ?_)|(refine zZ.own (c2) ?_)|(refine zY.pure (c2) rfl ?_)|(refine zY.lent (c2) rfl ?_)|(refine zY.own (c2) ?_)|(refine zZ.pure (c3) rfl ?_)|(refine zZ.lent (c3) rfl ?_)|(refine zW.pure (c3) rfl ?_)|(refine zW.lent (c3) rfl ?_)|(refine zZ.own (c3) ?_)|(refine zY.pure (c3) rfl ?_)|(refine zY.lent (c3) rfl ?_)|(refine zY.own (c3) ?_)|(refine zZ.pure (c5) rfl ?_)|(refine zZ.lent (c5) rfl ?_)|(refine zW.pure (c5) rfl ?_)|(refine zW.lent (c5) rfl ?_)|(refine zZ.own (c5) ?_)|(refine zY.pure (c5) rfl ?_)|(refine zY.lent (c5) rfl ?_)|(refine zY.own (c5) ?_)|(refine zZ.pure (ca) rfl ?_)|(refine zZ.lent (ca) rfl ?_)|(refine zW.pure (ca) rfl ?_)|(refine zW.lent (ca) rfl ?_)|(refine zZ.own (ca) ?_)|(refine zY.pure (ca) rfl ?_)|(refine zY.lent (ca) rfl ?_)|(refine zY.own (ca) ?_)
      all_goals apply hr
      all_goals simp [Tryd.f5]
end Go.Proofs.YtjekjpgccnhobaaDoor
