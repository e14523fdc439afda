/- Texts that the proof needs: RGF. -/
import Derived.Test.YtleejpddecjhcaaP24RecordReads
import Derived.Test.YtleejpddecjhcaaP20RecordReads
import Derived.Test.YtleejpddecjhcaaP25RecordReads
/- Records: the law RecordReads. -/
namespace Go.Proofs.Ytleejpddecjhcaa
set_option linter.unusedSimpArgs false
set_option linter.unusedVariables false
set_option maxRecDepth 8000
open Go Go.Av
attribute [local simp] Try.T1 Try.T2 Try.T3 Try.T4 Try.T5 Try.T9 Try.T12 Try.T15 Try.T16 Try.T17 Try.T21 Try.T22 Try.T24 Try.T25 Try.T26 Try.T28 Try.T29 Try.T30 Try.T31 Try.T33 Try.T35 Try.T36 Try.T37 Try.T38 Try.T39 Try.T40 Try.T41 Try.T42 Try.T43 Try.T44 Try.T45 Try.T47 Try.T48 Try.T50 Try.T51 Try.T53 Try.T55 Try.T57 Try.T58 Try.T59 Try.T60 Try.T61 Try.T63 Try.T64 Try.T66 Try.T67 Try.T69 Try.T70 Try.T71 Try.T73 Try.T75 Try.T76 Try.T78 Try.T80 Try.T82 Try.T83 Try.T84 Try.T85 Try.T86 Try.T87 Try.T88 Try.T89 Try.T90 Try.T91 Try.T92 Try.T93 Try.T94 Try.T95 Try.T96 Try.T97 Try.T98 Try.T99 Try.T100 Try.T101 Try.T102 Try.T103 Try.T104 Try.T105 Try.T106 Try.T107 Try.T108 Try.T109 Try.T111 Try.T112 Try.T113 Try.T114 Try.T115 Try.T116 Try.T117 Try.T119 Try.T120 Try.T121 Try.T122 Try.T123 Try.T124 Try.T125 Try.T126 Try.T127 Try.T128 Try.T129 Try.T130 Try.T131 Try.T132 Try.T133 Try.T134 Try.T136 Try.T137 Try.T138 Try.T139 Try.T140 Try.T141 Try.T142 Try.T143 Try.T144 Try.T145 Try.T146 Try.T147 Try.T148 Try.T149 Try.T150 Try.T151 Try.T152 Try.T153 Try.T154 Try.T155 Try.T156 Try.T157 Try.T158 Try.T160 Try.T161 Try.T162 Try.T163 Try.T164 Try.T165 Try.T166 Try.T167 Try.T168 Try.T169 Try.T170 Try.T171 Try.T172 Try.T173 Try.T174 Try.T175 Try.T176 Try.T177 Try.T178 Try.T179 Try.T180 Try.T181 Try.T182 Try.T183 Try.T184 Try.T185 Try.T186 Try.T187 Try.T188 Try.T189 Try.T190 Try.T191 Try.T192 Try.T194 Try.T195 Try.T197 Try.T198 Try.T199 Try.T200 Try.T201 Try.T202 Try.T203 Try.T205 Try.T206 Try.T209 Try.T212 Try.T215 Try.T216
attribute [local irreducible] Go.Av.CallK Go.Av.CallE Go.Av.CallQ Go.Av.CallF Go.Av.CallR Go.Av.CallH Go.Av.Con
/-- What reading tells, opened: of it the bytes are few. -/
theorem rT_open {f : Fo} (hf : FoL f) (b : List UInt8) (a : Int) : ∃ cs k e, f.ok cs ∧ rT f b a = .tup [vOf cs, .p (I k), .p (I e)] ∧ ((f.en cs).length ≤ b.length ∨ (f.en cs).length ≤ f.sz f.ze) ∧ (e = 0 → 0 ≤ a ∧ a ≤ k ∧ k ≤ b.length ∧ b.take a.toNat ++ f.en cs = b.take k.toNat) := by
  unfold rT
  obtain ⟨cs, e, k, h⟩ : ∃ cs e k, f.rd b (0, a) = (cs, e, k) := ⟨_, _, _, rfl⟩
  have hok := hf.rok b (0, a)
  rw [h] at hok ⊢
  simp only at hok ⊢
  by_cases h0 : e = 0
  · subst h0
    rw [if_pos rfl]
    have ht := hf.took b a cs k h
    refine ⟨cs, k, 0, hok, rfl, .inl ?_, fun _ => ht⟩
    have := congrArg List.length ht.2.2.2
    rw [List.length_append, List.length_take, List.length_take] at this
    omega
  · rw [if_neg h0]
    exact ⟨f.ze, 0, e, hf.zok, rfl, .inr (hf.szl _ hf.zok), fun h => absurd h h0⟩
set_option maxHeartbeats 4000000 in
theorem recordReads_con (b : List UInt8) (a : Int) : ACon Try.prog 5 [.p (.sl 1 (by8 b)), .p (I a)] (.p (B true)) := by
  have ca := awake12
  have cb := big0_con b
  by_cases hb : 3000 < b.length
  · rw [decide_eq_true hb] at cb
    refine wBody Try.tab Try.mixed Try.func5 rfl rfl Try.ntmps5 (by simp) (by simp) fun Q hr hn => ?_
    repeat' first | (refine hK _ ?_; clear hK) | (refine hK _ _ ?_; clear hK) | (clear hK; refine hK _ ?_; clear hK) | (clear hK; clear hK; refine hK _ ?_; clear hK) | (clear hK; clear hK; clear hK; refine hK _ ?_; clear hK) | (clear hK; clear hK; clear hK; clear hK; refine hK _ ?_; clear hK) | (refine wSeq fun K hK => ?_) | ((first | refine wReg ?_ | refine wDrwQ rfl (by kernel_rfl) ?_ | refine wDrwI ?_ | refine wDrw (by kernel_rfl) ?_); simp only [List.map_cons, List.map_nil, strip]) | ((first | refine wIs fun K hK => ?_ | refine wOs fun K hK => ?_ | refine wQs fun K hK => ?_ | refine CallK_plain ?_ | refine CallQ_plain ?_ | refine CallR_plain ?_ | refine wCond ?_); simp) | (refine wIn ?_; refine And.intro (by kernel_rfl) ?_; try simp only [thenA_n]) | (first | refine wBlock ?_ | refine wScope ?_) | ((first | refine wRet ?_ | refine wExit ?_ | refine wSkip ?_); try simp) | ((first | refine wLabel ?_ | refine wOn ?_ | refine wQn ?_); try simp only [thenA_n]) | (refine CallE.pure (cb) rfl ?_) | (refine CallE.lent (cb) rfl ?_) | (refine CallF.pure (cb) rfl ?_) | (refine CallF.lent (cb) rfl ?_) | (refine CallE.own (cb) ?_) | (refine CallH.pure (cb) rfl ?_) | (refine CallH.lent (cb) rfl ?_) | (refine CallH.own (cb) ?_) | (refine CallE.pure (ca) rfl ?_) | (refine CallE.lent (ca) rfl ?_) | (refine CallF.pure (ca) rfl ?_) | (refine CallF.lent (ca) rfl ?_) | (refine CallE.own (ca) ?_) | (refine CallH.pure (ca) rfl ?_) | (refine CallH.lent (ca) rfl ?_) | (refine CallH.own (ca) ?_)
    all_goals apply hr
    all_goals simp [Try.f5]
  rw [decide_eq_false hb] at cb
  have c1 := readCf b a (by omega)
  have d1 := read12Cf b a (by omega)
  have c2 := readTx b a (by omega)
  have d2 := read12Tx b a (by omega)
  have c3 := readSt b a (by omega)
  have d3 := read12St b a (by omega)
  obtain ⟨cs1, k1, e1, o1, r1, -⟩ := rT_open fCf_L b a
  obtain ⟨cs2, k2, e2, o2, r2, -⟩ := rT_open fTx_L b a
  obtain ⟨cs3, k3, e3, o3, r3, -⟩ := rT_open fSt_L b a
  rw [r1] at c1 d1
  rw [r2] at c2 d2
  rw [r3] at c3 d3
  have s1 := selfCf _ o1
  have s2 := selfTx _ o2
  have s3 := selfSt _ o3
  obtain ⟨u0, u1, u2, u3, rfl, -⟩ := fCf_sh o1
  obtain ⟨v0, v1, v2, v3, v4, v5, v6, v7, rfl, -⟩ := fTx_sh o2
  obtain ⟨w0, w1, w2, w3, w4, w5, w6, w7, w8, rfl, -⟩ := fSt_sh o3
  simp only [vOf2] at *
  clear r1 r2 r3 o1 o2 o3 hb
  refine wBody Try.tab Try.mixed Try.func5 rfl rfl Try.ntmps5 (by simp) (by simp) fun Q hr hn => ?_
  repeat' first | (refine hK _ ?_; clear hK) | (refine hK _ _ ?_; clear hK) | (clear hK; refine hK _ ?_; clear hK) | (clear hK; clear hK; refine hK _ ?_; clear hK) | (clear hK; clear hK; clear hK; refine hK _ ?_; clear hK) | (clear hK; clear hK; clear hK; clear hK; refine hK _ ?_; clear hK) | (refine wSeq fun K hK => ?_) | ((first | refine wReg ?_ | refine wDrwQ rfl (by kernel_rfl) ?_ | refine wDrwI ?_ | refine wDrw (by kernel_rfl) ?_); simp only [List.map_cons, List.map_nil, strip]) | ((first | refine wIs fun K hK => ?_ | refine wOs fun K hK => ?_ | refine wQs fun K hK => ?_ | refine CallK_plain ?_ | refine CallQ_plain ?_ | refine CallR_plain ?_ | refine wCond ?_); simp) | (refine wIn ?_; refine And.intro (by kernel_rfl) ?_; try simp only [thenA_n]) | (first | refine wBlock ?_ | refine wScope ?_) | ((first | refine wRet ?_ | refine wExit ?_ | refine wSkip ?_); try simp) | ((first | refine wLabel ?_ | refine wOn ?_ | refine wQn ?_); try simp only [thenA_n]) | (refine CallE.pure (cb) rfl ?_) | (refine CallE.lent (cb) rfl ?_) | (refine CallF.pure (cb) rfl ?_) | (refine CallF.lent (cb) rfl ?_) | (refine CallE.own (cb) ?_) | (refine CallH.pure (cb) rfl ?_) | (refine CallH.lent (cb) rfl ?_) | (refine CallH.own (cb) ?_) | (refine CallE.pure (c1) rfl ?_) | (refine CallE.lent (c1) rfl ?_) | (refine CallF.pure (c1) rfl ?_) | (refine CallF.lent (c1) rfl ?_) | (refine CallE.own (c1) ?_) | (refine CallH.pure (c1) rfl ?_) | (refine CallH.lent (c1) rfl ?_) | (refine CallH.own (c1) ?_) | (refine CallE.pure (d1) rfl ?_) | (refine CallE.lent (d1) rfl ?_) | (refine CallF.pure (d1) rfl ?_) | (refine CallF.lent (d1) rfl ?_) | (refine CallE.own (d1) ?_) | (refine CallH.pure (d1) rfl ?_) | (refine CallH.lent (d1) rfl ?_) | (refine CallH.own (d1) ?_) | (refine CallE.pure (c2) rfl ?_) | (refine CallE.lent (c2) rfl ?_) | (refine CallF.pure (c2) rfl ?_) | (refine CallF.lent (c2) rfl ?_) | (refine CallE.own (c2) ?_) | (refine CallH.pure (c2) rfl ?_) | (refine CallH.lent (c2) rfl ?_) | (refine CallH.own (c2) ?_) | (refine CallE.pure (d2) rfl ?_) | (refine CallE.lent (d2) rfl ?_) | (refine CallF.pure (d2) rfl ?_) | (refine CallF.lent (d2) rfl ?_) | (refine CallE.own (d2) ?_) | (refine CallH.pure (d2) rfl ?_) | (refine CallH.lent (d2) rfl ?_) | (refine CallH.own (d2) ?_) | (refine CallE.pure (c3) rfl ?_) | (refine CallE.lent (c3) rfl ?_) | (refine CallF.pure (c3) rfl ?_) | (refine CallF.lent (c3) rfl ?_) | (refine CallE.own (c3) ?_) | (refine CallH.pure (c3) rfl ?_) | (refine CallH.lent (c3) rfl ?_) | (refine CallH.own (c3) ?_) | (refine CallE.pure (d3) rfl ?_) | (refine CallE.lent (d3) rfl ?_) | (refine CallF.pure (d3) rfl ?_) | (refine CallF.lent (d3) rfl ?_) | (refine CallE.own (d3) ?_) | (refine CallH.pure (d3) rfl ?_) | (refine CallH.lent (d3) rfl ?_) | (refine CallH.own (d3) ?_) | (refine CallE.pure (s1) rfl ?_) | (refine CallE.lent (s1) rfl ?_) | (refine CallF.pure (s1) rfl ?_) | (refine CallF.lent (s1) rfl ?_) | (refine CallE.own (s1) ?_) | (refine CallH.pure (s1) rfl ?_) | (refine CallH.lent (s1) rfl ?_) | (refine CallH.own (s1) ?_) | (refine CallE.pure (s2) rfl ?_) | (refine CallE.lent (s2) rfl ?_) | (refine CallF.pure (s2) rfl ?_) | (refine CallF.lent (s2) rfl ?_) | (refine CallE.own (s2) ?_) | (refine CallH.pure (s2) rfl ?_) | (refine CallH.lent (s2) rfl ?_) | (refine CallH.own (s2) ?_) | (refine CallE.pure (s3) rfl ?_) | (refine CallE.lent (s3) rfl ?_) | (refine CallF.pure (s3) rfl ?_) | (refine CallF.lent (s3) rfl ?_) | (refine CallE.own (s3) ?_) | (refine CallH.pure (s3) rfl ?_) | (refine CallH.lent (s3) rfl ?_) | (refine CallH.own (s3) ?_) | (refine CallE.pure (ca) rfl ?_) | (refine CallE.lent (ca) rfl ?_) | (refine CallF.pure (ca) rfl ?_) | (refine CallF.lent (ca) rfl ?_) | (refine CallE.own (ca) ?_) | (refine CallH.pure (ca) rfl ?_) | (refine CallH.lent (ca) rfl ?_) | (refine CallH.own (ca) ?_)
  all_goals apply hr
  all_goals simp [Try.f5]
end Go.Proofs.Ytleejpddecjhcaa
