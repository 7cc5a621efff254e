/- RingReads. -/
import Derived.Test.YthnmoalomodbpaaRl
import Derived.Test.YthnmoalomodbpaaRk
namespace Go.Proofs.Ythnmoalomodbpaa
open Go.RowKit Go.Maps
set_option linter.unusedVariables false
set_option linter.unusedSimpArgs false
set_option maxRecDepth 100000
set_option maxHeartbeats 8000000 in
theorem reads_core (W : World) (pa : Option Addr) (len pc : Nat) (ps : Nat → PutD) (hps : PutsIn W (.slice pa len pc) len ps) (s : Int) (D A U m : Nat) (hD : D < 18446744073709551616) (hA : A < 18446744073709551616) (hU : U < 18446744073709551616) (hm : m ≤ 65535) : Calls Try.prog 6 #[.slice pa len pc, .agg #[.int .i64 s, .int .u64 (D : Int), .int .u64 (A : Int), .int .u64 (U : Int)], .int .u16 (m : Int)] W fun e w' => e = .returned (.bool true) ∧ Below W.heap.size W w' := by
  have HP : Hid (PutsIn W (.slice pa len pc) len ps) := hps
  have HD : Hid (D < 18446744073709551616 ∧ A < 18446744073709551616 ∧ U < 18446744073709551616) := ⟨hD, hA, hU⟩
  have HD2 : Hid (m ≤ 65535) := hm
  clear hps hD hA hU hm
  go_enter Try.func6, Try.ntmps6
  go_wp2_with fail
  refine (awake_any _).mono ?_
  rintro e w1 ⟨rfl, hb1⟩
  have H1 : Hid (Below (W.alloc (.cells #[.int .i64 s, .int .u64 (D : Int), .int .u64 (A : Int), .int .u64 (U : Int)] 24)).heap.size (W.alloc (.cells #[.int .i64 s, .int .u64 (D : Int), .int .u64 (A : Int), .int .u64 (U : Int)] 24)) w1) := hb1
  clear hb1
  go_wp2_with fail
  refine (memory_any (.slice pa len pc) len ps _ (HP.out.up (below_to (one_box _ _) H1.out))).mono ?_
  rintro e w2 ⟨pv, a, nn, c, rfl, hb2, ⟨rfl, h0⟩ | ⟨rb, F, M, rfl, hboth, hF⟩⟩
  · have HE : Hid (Below W.heap.size W w2) := below_to (below_to (one_box _ _) H1.out) hb2
    clear hb2 h0
    go_wp2_with fail
    go_ret
    exact ⟨rfl, HE.out.alloc HE.out.size _⟩
  have X3 : Hid (St W (w2.alloc (.cells #[.int .u64 8192, .slice a nn c] 29)) s D A U (.pointer none) w2.heap.size rb a nn c F M) := St.made H1.out hb2 hboth hF
  clear hb2 hboth hF H1
  go_upto_region 4 with fail
  generalize w2.heap.size = b8 at *
  generalize w2.alloc (.cells #[.int .u64 8192, .slice a nn c] 29) = w3 at *
  obtain ⟨c0, c1, c2, c3⟩ := box4_facts X3.out.1; obtain ⟨d0, d1, _, _⟩ := box_facts X3.out.2.1
  have K12 : Hid (Calls Try.prog 12 #[.agg #[.int .u64 8192, .slice a nn c], .agg #[.int .i64 s, .int .u64 (D : Int), .int .u64 (A : Int), .int .u64 (U : Int)]] w3 fun e w' => e = .returned (.int .i64 (chkN s D A U 8192)) ∧ St W w' s D A U (.pointer none) b8 rb a nn c F M) := (rcheck_any HD.out.1 HD.out.2.1 HD.out.2.2 8192 (by omega) a nn c w3).mono fun e w' ⟨he, hb⟩ => ⟨he, X3.out.step hb⟩
  obtain ⟨kk, hkk⟩ : ∃ kk, chkN s D A U 8192 = kk := ⟨_, rfl⟩
  have HK : Hid (chkN s D A U 8192 = kk) := hkk
  rw [hkk] at K12
  clear hkk
  by_cases hk0 : kk = 0
  case neg =>
    have hk1 : (kk == 0) = false := by simp [hk0]
    go_wp2_with fail
    refine Calls.mono K12.out ?_
    rintro e w4 ⟨rfl, h4⟩
    have X4 : Hid (St W w4 s D A U (.pointer none) b8 rb a nn c F M) := h4
    clear h4
    go_wp2_with fail
    go_ret
    exact ⟨rfl, X4.out.2.2.2.2.2.2⟩
  subst hk0
  obtain ⟨n, hs, hg⟩ := gd_of HK.out HD.out.1
  subst hs
  have HG : Hid (Gd n D A U) := hg
  clear hg HK
  have K12b : Hid (Calls Try.prog 12 #[.agg #[.int .u64 8192, .slice a nn c], .agg #[.int .i64 (n : Int), .int .u64 (D : Int), .int .u64 (A : Int), .int .u64 (U : Int)]] w3 fun e w' => e = .returned (.int .i64 0) ∧ (St W w' (n : Int) D A U (.pointer none) b8 rb a nn c F M ∧ Below w3.heap.size w3 w')) := (rcheck_any HD.out.1 HD.out.2.1 HD.out.2.2 8192 (by omega) a nn c w3).mono fun e w' ⟨he, hb⟩ => ⟨by rw [he, HG.out.chk], X3.out.step hb, hb⟩
  clear K12
  obtain ⟨nb, bs, g1, ⟨a', c', hsl⟩, g3, g4, g5⟩ := X3.out.2.2.1.2
  simp only [Value.slice.injEq] at hsl
  obtain ⟨rfl, rfl, rfl⟩ := hsl
  obtain ⟨r, hr⟩ : ∃ r, r = m % n := ⟨_, rfl⟩
  have hle := X3.out.2.2.1.1.le
  have K23 : Hid (∀ V, (St W V (n : Int) D A U (.pointer none) b8 rb a nn c F M ∧ Below w3.heap.size w3 V) → Calls Try.prog 23 #[.pointer (some ⟨rb, 0, none⟩), .agg #[.int .i64 (n : Int), .int .u64 (D : Int), .int .u64 (A : Int), .int .u64 (U : Int)]] V fun e w' => e = .returned (.int .u16 (wordN M (A) 2 8192 : Nat)) ∧ (St W w' (n : Int) D A U (.pointer none) b8 rb a nn c F M ∧ Below w3.heap.size w3 w')) := fun V hV => (flags_any hV.1.2.2.1.1 HG.out).mono fun e w' ⟨he, hb⟩ => ⟨he, hV.1.step hb, below_to hV.2 hb⟩
  have K24 : Hid (∀ V, (St W V (n : Int) D A U (.pointer none) b8 rb a nn c F M ∧ Below w3.heap.size w3 V) → Calls Try.prog 24 #[.agg #[.int .u64 8192, .slice a nn c], .agg #[.int .i64 (n : Int), .int .u64 (D : Int), .int .u64 (A : Int), .int .u64 (U : Int)]] V fun e w' => e = .returned (.int .i64 (wordN M (A) 2 8192 : Nat)) ∧ (St W w' (n : Int) D A U (.pointer none) b8 rb a nn c F M ∧ Below w3.heap.size w3 w')) := fun V hV => (rflags_any (g3.below hV.2) g4 hle (by omega) HG.out).mono fun e w' ⟨he, hb⟩ => ⟨he, hV.1.step hb, below_to hV.2 hb⟩
  have K25 : Hid (∀ V, (St W V (n : Int) D A U (.pointer none) b8 rb a nn c F M ∧ Below w3.heap.size w3 V) → Calls Try.prog 25 #[.pointer (some ⟨rb, 0, none⟩), .agg #[.int .i64 (n : Int), .int .u64 (D : Int), .int .u64 (A : Int), .int .u64 (U : Int)]] V fun e w' => e = .returned (.int .u16 (wordN M (A + 2) 2 8192 : Nat)) ∧ (St W w' (n : Int) D A U (.pointer none) b8 rb a nn c F M ∧ Below w3.heap.size w3 w')) := fun V hV => (offered_any hV.1.2.2.1.1 HG.out).mono fun e w' ⟨he, hb⟩ => ⟨he, hV.1.step hb, below_to hV.2 hb⟩
  have K26 : Hid (∀ V, (St W V (n : Int) D A U (.pointer none) b8 rb a nn c F M ∧ Below w3.heap.size w3 V) → Calls Try.prog 26 #[.agg #[.int .u64 8192, .slice a nn c], .agg #[.int .i64 (n : Int), .int .u64 (D : Int), .int .u64 (A : Int), .int .u64 (U : Int)]] V fun e w' => e = .returned (.int .i64 (wordN M (A + 2) 2 8192 : Nat)) ∧ (St W w' (n : Int) D A U (.pointer none) b8 rb a nn c F M ∧ Below w3.heap.size w3 w')) := fun V hV => (roffered_any (g3.below hV.2) g4 hle (by omega) HG.out).mono fun e w' ⟨he, hb⟩ => ⟨he, hV.1.step hb, below_to hV.2 hb⟩
  have K27 : Hid (∀ V, (St W V (n : Int) D A U (.pointer none) b8 rb a nn c F M ∧ Below w3.heap.size w3 V) → Calls Try.prog 27 #[.pointer (some ⟨rb, 0, none⟩), .agg #[.int .i64 (n : Int), .int .u64 (D : Int), .int .u64 (A : Int), .int .u64 (U : Int)], .int .u16 (m : Int)] V fun e w' => e = .returned (.int .u16 (wordN M (A + 4 + 2 * r) 2 8192 : Nat)) ∧ (St W w' (n : Int) D A U (.pointer none) b8 rb a nn c F M ∧ Below w3.heap.size w3 w')) := fun V hV => (head_any hV.1.2.2.1.1 HG.out m r HD2.out hr).mono fun e w' ⟨he, hb⟩ => ⟨he, hV.1.step hb, below_to hV.2 hb⟩
  have K28 : Hid (∀ V, (St W V (n : Int) D A U (.pointer none) b8 rb a nn c F M ∧ Below w3.heap.size w3 V) → Calls Try.prog 28 #[.agg #[.int .u64 8192, .slice a nn c], .agg #[.int .i64 (n : Int), .int .u64 (D : Int), .int .u64 (A : Int), .int .u64 (U : Int)], .int .i64 (m : Int)] V fun e w' => e = .returned (.int .i64 (wordN M (A + 4 + 2 * r) 2 8192 : Nat)) ∧ (St W w' (n : Int) D A U (.pointer none) b8 rb a nn c F M ∧ Below w3.heap.size w3 w')) := fun V hV => (rhead_any (g3.below hV.2) g4 hle (by omega) HG.out m r HD2.out hr).mono fun e w' ⟨he, hb⟩ => ⟨he, hV.1.step hb, below_to hV.2 hb⟩
  have K29 : Hid (∀ V, (St W V (n : Int) D A U (.pointer none) b8 rb a nn c F M ∧ Below w3.heap.size w3 V) → Calls Try.prog 29 #[.pointer (some ⟨rb, 0, none⟩), .agg #[.int .i64 (n : Int), .int .u64 (D : Int), .int .u64 (A : Int), .int .u64 (U : Int)]] V fun e w' => e = .returned (.int .u16 (wordN M (A + 4 + 2 * n) 2 8192 : Nat)) ∧ (St W w' (n : Int) D A U (.pointer none) b8 rb a nn c F M ∧ Below w3.heap.size w3 w')) := fun V hV => (wanted_any hV.1.2.2.1.1 HG.out).mono fun e w' ⟨he, hb⟩ => ⟨he, hV.1.step hb, below_to hV.2 hb⟩
  have K30 : Hid (∀ V, (St W V (n : Int) D A U (.pointer none) b8 rb a nn c F M ∧ Below w3.heap.size w3 V) → Calls Try.prog 30 #[.agg #[.int .u64 8192, .slice a nn c], .agg #[.int .i64 (n : Int), .int .u64 (D : Int), .int .u64 (A : Int), .int .u64 (U : Int)]] V fun e w' => e = .returned (.int .i64 (wordN M (A + 4 + 2 * n) 2 8192 : Nat)) ∧ (St W w' (n : Int) D A U (.pointer none) b8 rb a nn c F M ∧ Below w3.heap.size w3 w')) := fun V hV => (rwanted_any (g3.below hV.2) g4 hle (by omega) HG.out).mono fun e w' ⟨he, hb⟩ => ⟨he, hV.1.step hb, below_to hV.2 hb⟩
  have hy0 := rd_lt hle (A)
  generalize wordN M (A) 2 8192 = y0 at *
  have ya0 : wrap64 (y0 : Int) = (y0 : Int) := by unfold wrap64; omega
  have yb0 : IntKind.i64.wrap (y0 : Int) = (y0 : Int) := wrapi y0 (Nat.lt_of_le_of_lt hy0 (by decide))
  have yc0 : ((y0 : Int) == (y0 : Int)) = true := by simp
  clear hy0
  have hy1 := rd_lt hle (A + 2)
  generalize wordN M (A + 2) 2 8192 = y1 at *
  have ya1 : wrap64 (y1 : Int) = (y1 : Int) := by unfold wrap64; omega
  have yb1 : IntKind.i64.wrap (y1 : Int) = (y1 : Int) := wrapi y1 (Nat.lt_of_le_of_lt hy1 (by decide))
  have yc1 : ((y1 : Int) == (y1 : Int)) = true := by simp
  clear hy1
  have hy2 := rd_lt hle (A + 4 + 2 * r)
  generalize wordN M (A + 4 + 2 * r) 2 8192 = y2 at *
  have ya2 : wrap64 (y2 : Int) = (y2 : Int) := by unfold wrap64; omega
  have yb2 : IntKind.i64.wrap (y2 : Int) = (y2 : Int) := wrapi y2 (Nat.lt_of_le_of_lt hy2 (by decide))
  have yc2 : ((y2 : Int) == (y2 : Int)) = true := by simp
  clear hy2
  have hy3 := rd_lt hle (A + 4 + 2 * n)
  generalize wordN M (A + 4 + 2 * n) 2 8192 = y3 at *
  have ya3 : wrap64 (y3 : Int) = (y3 : Int) := by unfold wrap64; omega
  have yb3 : IntKind.i64.wrap (y3 : Int) = (y3 : Int) := wrapi y3 (Nat.lt_of_le_of_lt hy3 (by decide))
  have yc3 : ((y3 : Int) == (y3 : Int)) = true := by simp
  clear hy3
  have hm := HD2.out
  have ym : wrap64 (m : Int) = (m : Int) := by unfold wrap64; omega
  have yn : IntKind.i64.wrap (m : Int) = (m : Int) := wrapi m (Nat.lt_of_le_of_lt hm (by decide))
  clear hm g1 g3 g4 g5 hr hle
  go_wp2_with fail
  refine Calls.mono K12b.out ?_
  rintro e w4 ⟨rfl, h4⟩
  have X4 : Hid (St W w4 (n : Int) D A U (.pointer none) b8 rb a nn c F M ∧ Below w3.heap.size w3 w4) := h4
  clear h4 K12b
  go_upto_region 6 with fail
  have Xd : Hid (St W w4.drew (n : Int) D A U (.pointer none) b8 rb a nn c F M ∧ Below w3.heap.size w3 w4.drew) := ⟨X4.out.1.step (Below.drew (Below.refl _ _)), X4.out.2.drew⟩
  clear c0 c1 c2 c3 d0 d1
  obtain ⟨c0, c1, c2, c3⟩ := box4_facts X4.out.1.1; obtain ⟨d0, d1, _, _⟩ := box_facts X4.out.1.2.1
  go_region_held3 (fun Z => Z.cell? ⟨W.heap.size, 0, none⟩ = some (.int .i64 (n : Int)) ∧ Z.cell? ⟨W.heap.size, 1, none⟩ = some (.int .u64 (D : Int)) ∧ Z.cell? ⟨W.heap.size, 2, none⟩ = some (.int .u64 (A : Int)) ∧ Z.cell? ⟨W.heap.size, 3, none⟩ = some (.int .u64 (U : Int)) ∧ Z.cell? ⟨b8, 0, none⟩ = some (.int .u64 8192) ∧ Z.cell? ⟨b8, 1, none⟩ = some (.slice a nn c)) (go_keep) (first | (go_at_call 23; refine (K23.out _ Xd.out).mono ?_; rintro e w10 ⟨rfl, h10⟩; have Y10 : Hid (St W w10 (n : Int) D A U (.pointer none) b8 rb a nn c F M ∧ Below w3.heap.size w3 w10) := h10; clear h10; obtain ⟨m100, m101, m102, m103⟩ := box4_facts Y10.out.1.1; obtain ⟨n100, n101, _, _⟩ := box_facts Y10.out.1.2.1) | (go_at_call 24; refine (K24.out _ Y10.out).mono ?_; rintro e w11 ⟨rfl, h11⟩; have Y11 : Hid (St W w11 (n : Int) D A U (.pointer none) b8 rb a nn c F M ∧ Below w3.heap.size w3 w11) := h11; clear h11; obtain ⟨m110, m111, m112, m113⟩ := box4_facts Y11.out.1.1; obtain ⟨n110, n111, _, _⟩ := box_facts Y11.out.1.2.1) | (go_at_call 25; refine (K25.out _ Y11.out).mono ?_; rintro e w12 ⟨rfl, h12⟩; have Y12 : Hid (St W w12 (n : Int) D A U (.pointer none) b8 rb a nn c F M ∧ Below w3.heap.size w3 w12) := h12; clear h12; obtain ⟨m120, m121, m122, m123⟩ := box4_facts Y12.out.1.1; obtain ⟨n120, n121, _, _⟩ := box_facts Y12.out.1.2.1) | (go_at_call 26; refine (K26.out _ Y12.out).mono ?_; rintro e w13 ⟨rfl, h13⟩; have Y13 : Hid (St W w13 (n : Int) D A U (.pointer none) b8 rb a nn c F M ∧ Below w3.heap.size w3 w13) := h13; clear h13; obtain ⟨m130, m131, m132, m133⟩ := box4_facts Y13.out.1.1; obtain ⟨n130, n131, _, _⟩ := box_facts Y13.out.1.2.1) | (go_at_call 27; refine (K27.out _ Y13.out).mono ?_; rintro e w14 ⟨rfl, h14⟩; have Y14 : Hid (St W w14 (n : Int) D A U (.pointer none) b8 rb a nn c F M ∧ Below w3.heap.size w3 w14) := h14; clear h14; obtain ⟨m140, m141, m142, m143⟩ := box4_facts Y14.out.1.1; obtain ⟨n140, n141, _, _⟩ := box_facts Y14.out.1.2.1) | (go_at_call 28; refine (K28.out _ Y14.out).mono ?_; rintro e w15 ⟨rfl, h15⟩; have Y15 : Hid (St W w15 (n : Int) D A U (.pointer none) b8 rb a nn c F M ∧ Below w3.heap.size w3 w15) := h15; clear h15; obtain ⟨m150, m151, m152, m153⟩ := box4_facts Y15.out.1.1; obtain ⟨n150, n151, _, _⟩ := box_facts Y15.out.1.2.1) | (go_at_call 29; refine (K29.out _ Y15.out).mono ?_; rintro e w16 ⟨rfl, h16⟩; have Y16 : Hid (St W w16 (n : Int) D A U (.pointer none) b8 rb a nn c F M ∧ Below w3.heap.size w3 w16) := h16; clear h16; obtain ⟨m160, m161, m162, m163⟩ := box4_facts Y16.out.1.1; obtain ⟨n160, n161, _, _⟩ := box_facts Y16.out.1.2.1) | (go_at_call 30; refine (K30.out _ Y16.out).mono ?_; rintro e w17 ⟨rfl, h17⟩; have Y17 : Hid (St W w17 (n : Int) D A U (.pointer none) b8 rb a nn c F M ∧ Below w3.heap.size w3 w17) := h17; clear h17; obtain ⟨m170, m171, m172, m173⟩ := box4_facts Y17.out.1.1; obtain ⟨n170, n171, _, _⟩ := box_facts Y17.out.1.2.1))
  go_wp2_with fail
  go_ret
  exact ⟨rfl, Y17.out.1.2.2.2.2.2.2⟩
theorem reads_walk (W : World) (v : Value) (len : Nat) (ps : Nat → PutD) (hps : PutsIn W v len ps) (s : Int) (D A U : Nat) (hD : D < 18446744073709551616) (hA : A < 18446744073709551616) (hU : U < 18446744073709551616) (m : Int) (hm : (Lit.int .u16 m).wf = true) : Calls Try.prog 6 #[v, .agg #[.int .i64 s, .int .u64 (D : Int), .int .u64 (A : Int), .int .u64 (U : Int)], .int .u16 m] W fun e w' => e = .returned (.bool true) ∧ Below W.heap.size W w' := by
  obtain ⟨a, c, rfl⟩ := puts_form hps
  obtain ⟨n, rfl, hn⟩ := nat_u16 hm
  exact reads_core W a len c ps hps s D A U n hD hA hU hn
end Go.Proofs.Ythnmoalomodbpaa
