/- The statement of layer 2 on copies returns true for every input: the walk up to its round. -/
import Derived.Test.YtbodmgihoklhiaaCopies
namespace Go.Proofs.Ytbodmgihoklhiaa
open Go.RowKit Go.Maps
set_option linter.unusedVariables false
set_option linter.unusedSimpArgs false
/-- what holds of the memories when the round begins -/
structure Pre (bsw : Nat → Nat × Nat) (nw : Nat) (M : Nat → Nat) : Prop where
  le : nw ≤ 2000
  eq : ∀ a, rget bsw nw a = M a
  rng : Rng bsw nw 8192
theorem ret_true {b : Bool} (h : b = true) : Ending.returned (.bool b) = .returned (.bool true) := by rw [h]
theorem one_span (A : List Nat) : (((((spans A).take (1 : Int).toNat).length : Nat) : Int) == 0) = decide (A = []) := by
  rcases List.eq_nil_or_concat A with rfl | ⟨B, x, rfl⟩
  · rfl
  · have h1 : 0 < (spans (B.concat x)).length := by
      rw [List.concat_eq_append, spans_snoc]
      rcases stretchL_cases (spans B) x with h | ⟨r, p, L, _, _, h⟩ <;> rw [h] <;> simp
    have h2 : ((spans (B.concat x)).take (1 : Int).toNat).length = 1 := by
      rw [List.length_take]; show min 1 _ = 1; omega
    rw [h2]
    simp
theorem two_len {ks : List Nat} {p1 p2 : Nat} (hk : ks.Pairwise (· < ·)) (h : ∀ k ∈ ks, k = p1 ∨ k = p2) : ks.length ≤ 2 := two_of (hk.imp (fun h => Nat.ne_of_lt h)) h
theorem few_spans {M Mc : Nat → Nat} {A : List Nat} {p1 p2 : Nat} (hA : A.Pairwise (· < ·)) (hM : ∀ x, x ∈ A ↔ M x ≠ Mc x) (hS : ∀ k, Apart M Mc k → k = p1 ∨ k = p2) : (spans A).length ≤ 10000 := by
  obtain ⟨ks, h1, h2⟩ := pages_rise p1 p2 hS
  have e : A = diffs M Mc ks := rise_one _ _ hA (diffs_rise M Mc ks h1) (fun x => by
    rw [hM, diffs_mem, h2]
    refine ⟨fun h => ⟨⟨x % 4096, Nat.mod_lt _ (by decide), ?_⟩, h⟩, fun h => h.2⟩
    rw [show x / 4096 * 4096 + x % 4096 = x from by omega]; exact h)
  have h3 := diffs_len M Mc ks
  have h4 : ks.length ≤ 2 := two_len h1 (fun k hk => hS k ((h2 k).1 hk))
  have h5 := spans_len A
  rw [e] at h5 ⊢
  omega
theorem same_later {w0 w5 X w6 : World} {ad av : Option Addr} {l2 cd cv : Nat} {l : List (Nat × Nat)} (hB : w0.heap.size ≤ X.heap.size) (h6 : SpanIn X.heap.size w6 (.slice ad l2 cd) l) (h5 : SpanIn w0.heap.size w5 (.slice av l2 cv) l) (hb : Below w5.heap.size w5 w6) (hl : l.length ≤ 1000000) : ∀ V, Below w6.heap.size w6 V → Calls Try.prog 22 #[.slice ad l2 cd, .slice av l2 cv] V fun e w' => e = .returned (.bool true) ∧ Below V.heap.size V w' := fun V hV =>
  (same_spans (B := w0.heap.size) ((h6.low hB).kept (fun g hg => hV.block g (h6.lt g hg).2)) ((h5.kept (fun g hg => hb.block g (h5.lt g hg).2)).kept (fun g hg => hV.block g (by have := (h5.lt g hg).2; have := hb.size; omega))) hl).mono fun e w' ⟨he, q, hq⟩ => ⟨he, by rw [hq]; exact below_drewN (Below.refl _ _) q⟩
theorem no_apart {M : Nat → Nat} : ∀ k, Apart M M k → k = 0 ∨ k = 0 := by rintro k ⟨i, _, h⟩; exact absurd rfl h
set_option maxRecDepth 100000 in
set_option maxHeartbeats 8000000 in
theorem copies_core (W : World) (v : Value) (len : Nat) (ops : Nat → OpD) (hsc : ScriptIn W v len ops) (sa : Option Addr) (len2 sc : Nat) (ops2 : Nat → OpD) (hsc2 : ScriptIn W (.slice sa len2 sc) len2 ops2) (most : Int) :
    Calls Try.prog 7 #[v, .slice sa len2 sc, .int .i64 most] W fun e w' => e = .returned (.bool true) ∧ Below W.heap.size W w' := by
  have HS : Hid (ScriptIn W v len ops) := hsc
  have HS2 : Hid (ScriptIn W (.slice sa len2 sc) len2 ops2) := hsc2
  have hlen2 : len2 ≤ 9223372036854775807 := by
    rcases hsc2 with ⟨rfl, _⟩ | ⟨b, off, cap, _, h, _⟩
    · omega
    · exact h
  clear hsc hsc2
  go_enter Try.func7, Try.ntmps7
  go_wp2_with (first | (go_at_call 9; refine (awake_any _).mono ?_; rintro e w1 ⟨rfl, h01⟩))
  refine (played_any _ v len ops (ScriptIn.below HS.out h01)).mono ?_
  rintro e w2 ⟨pv, a, n, c, rfl, hBl, rfl | ⟨rb, F, M, rfl, hboth, hFW⟩⟩
  · go_wp2
    go_ret
    exact ⟨rfl, (h01.trans (hBl.mono h01.size)).alloc (Nat.le_trans h01.size hBl.size) _⟩
  · have h02 : Below W.heap.size W w2 := h01.trans (hBl.mono h01.size)
    obtain ⟨hram, nb, bsw, hnb, ⟨a', c', hsl⟩, href, heq, hrng⟩ := hboth
    simp only [Value.slice.injEq] at hsl
    obtain ⟨rfl, rfl, rfl⟩ := hsl
    have PRE : Hid (Pre bsw n M) := ⟨hnb, heq, hrng⟩
    have hal : Below w2.heap.size w2 (w2.alloc (.cells #[.int .u64 8192, .slice a n c] 28)) := (Below.refl _ _).alloc (Nat.le_refl _) _
    have X : Hid (RamAt (w2.alloc (.cells #[.int .u64 8192, .slice a n c] 28)) F rb 8192 2000 (.pointer none) M ∧ RefIn F (w2.alloc (.cells #[.int .u64 8192, .slice a n c] 28)) (.slice a n c) n bsw ∧ Below W.heap.size W (w2.alloc (.cells #[.int .u64 8192, .slice a n c] 28)) ∧ (w2.alloc (.cells #[.int .u64 8192, .slice a n c] 28)).heap[w2.heap.size]? = some (.cells #[.int .u64 8192, .slice a n c] 28 (0, 0)) ∧ ¬ F w2.heap.size ∧ W.heap.size ≤ w2.heap.size) :=
      ⟨hram.below hal, href.below hal, h02.trans (hal.mono h02.size), heap_alloc_new _ _, fun hq => by have := hram.lt _ hq; omega, h02.size⟩
    clear h01 hBl h02 hram href heq hrng hnb hal hFW
    go_wp2_with fail
    generalize w2.alloc (.cells #[.int .u64 8192, .slice a n c] 28) = w3 at *
    generalize w2.heap.size = b8 at *
    refine (copy_any X.out.1 (by omega)).mono ?_
    rintro e w4 ⟨rc, Fc, rfl, hcr, hcF, hb4⟩
    have Y : Hid (RamAt w4 F rb 8192 2000 (.pointer none) M ∧ RamAt w4 Fc rc 8192 2000 (.pointer none) M ∧ RefIn Fc w4 (.slice a n c) n bsw ∧ Below W.heap.size W w4 ∧ w4.heap[b8]? = some (.cells #[.int .u64 8192, .slice a n c] 28 (0, 0)) ∧ (∀ q, F q → ¬ Fc q) ∧ (∀ q, Fc q → W.heap.size ≤ q) ∧ ¬ Fc b8 ∧ ¬ F b8 ∧ W.heap.size ≤ b8) := by
      obtain ⟨x1, x2, x3, x4, x5, x6⟩ := X.out
      have l8 := (Array.getElem?_eq_some_iff.1 x4).1
      refine ⟨x1.below hb4, hcr, ?_, x3.trans (hb4.mono x3.size), below_box x4 hb4, fun q hq hf => by have := x1.lt q hq; have := hcF q hf; omega, fun q hq => Nat.le_trans x3.size (hcF q hq), fun hq => by have := hcF _ hq; omega, x5, x6⟩
      have h := x2.below hb4
      rcases x2 with h0 | ⟨g, cg, hv, hg, hc⟩
      · exact .inl h0
      · rcases h with h0 | ⟨g', cg', hv', hg', hc'⟩
        · exact .inl h0
        · by_cases hn0 : n = 0
          · subst hn0; exact .inl ⟨rfl, _, _, hv'⟩
          · refine .inr ⟨g', cg', hv', fun hq => ?_, hc'⟩
            rw [hv] at hv'
            simp only [Value.slice.injEq, Option.some.injEq, Addr.mk.injEq, and_true, true_and] at hv'
            have h5 : g < w3.heap.size := block_lt_of_cell (hc 0 (by omega)).1
            have h6 := hcF _ hq
            have h7 := hv'.1
            omega
    clear hcr hcF hb4 X
    have SA : Hid (∀ V, Below w4.heap.size w4 V → Calls Try.prog 24 #[.pointer (some ⟨rb, 0, none⟩), .pointer (some ⟨rc, 0, none⟩)] V fun e w' => e = .returned (.bool true) ∧ Below V.heap.size V w') := fun V hV => same_any (Y.out.1.below hV) (Y.out.2.1.below hV) (by omega) (by omega) (by omega) 0 0 no_apart true (by simp)
    have SB : Hid (∀ V, Below w4.heap.size w4 V → Calls Try.prog 24 #[.pointer (some ⟨rc, 0, none⟩), .pointer (some ⟨rb, 0, none⟩)] V fun e w' => e = .returned (.bool true) ∧ Below V.heap.size V w') := fun V hV => same_any (Y.out.2.1.below hV) (Y.out.1.below hV) (by omega) (by omega) (by omega) 0 0 no_apart true (by simp)
    have SD : Hid (∀ V, Below w4.heap.size w4 V → Calls Try.prog 25 #[.pointer (some ⟨rb, 0, none⟩), .pointer (some ⟨rc, 0, none⟩), .int .i64 9] V fun e w' => ∃ ad cd, e = .returned (.slice ad 0 cd) ∧ Below V.heap.size V w') := fun V hV => (differ_any (Y.out.1.below hV) (Y.out.2.1.below hV) (by omega) (by omega) (by omega) 0 0 (by omega) (by omega) no_apart 9 [] List.Pairwise.nil (by simp)).mono fun e w' ⟨v, he, hs, hb⟩ => by
      obtain ⟨ad, cd, rfl⟩ := hs.form
      exact ⟨ad, cd, he, hb⟩
    go_wp2_with fail
    refine (SA.out _ (Below.refl _ _)).mono ?_
    rintro e w5 ⟨rfl, hb5⟩
    go_wp2_with fail
    refine (SB.out _ hb5).mono ?_
    rintro e w6 ⟨rfl, hb6⟩
    have hb46 := below_call hb5 hb6
    go_wp2_with fail
    refine (SD.out _ hb46).mono ?_
    rintro e w7 ⟨ad, cd, rfl, hb7⟩
    have hb47 := below_call hb46 hb7
    obtain ⟨c0, c1, _, _⟩ := box_facts (below_box Y.out.2.2.2.2.1 hb47)
    have C0 : Hid (Cq W (w7.alloc (.cells #[.int .u64 8192, .slice a n c] 28)) b8 w7.heap.size rb rc M bsw a n c 0 a n c (.int .u64 8192) a n c) := by
      obtain ⟨y1, y2, y3, y4, y5, y6, y7, y8, y9, y10⟩ := Y.out
      have hba : Below w4.heap.size w4 (w7.alloc (.cells #[.int .u64 8192, .slice a n c] 28)) := hb47.alloc hb47.size _
      have hs47 := hb47.size
      refine ⟨F, Fc, M, y1.below hba, y3.below hba, ⟨y2.below hba, n, bsw, PRE.out.le, ⟨a, c, rfl⟩, y3.below hba, PRE.out.eq, PRE.out.rng⟩, y6, y7, y8, fun hq => by have := y2.lt _ hq; omega, y9, fun hq => by have := y1.lt _ hq; omega, below_box y5 hba, heap_alloc_new _ _, y4.trans (hba.mono y4.size)⟩
    have hb811 : b8 ≠ w7.heap.size := by
      have := (Array.getElem?_eq_some_iff.1 (below_box Y.out.2.2.2.2.1 hb47)).1
      omega
    have hW11 : W.heap.size ≤ w7.heap.size := Nat.le_trans Y.out.2.2.2.1.size hb47.size
    clear SA SB SD hb5 hb6 hb46 hb7 Y
    go_wp2_with fail
    generalize w7.alloc (.cells #[.int .u64 8192, .slice a n c] 28) = w8 at *
    generalize w7.heap.size = b11 at *
    go_loopw [12] (fun iv wr => ∃ (j : Nat) (ax : Option Addr) (nx cx : Nat), j ≤ len2 ∧ j ≤ 20 ∧ iv = .int .i64 j ∧ Cq W wr b8 b11 rb rc M bsw a n c j ax nx cx (.int .u64 8192) ax nx cx) (fun iv _ => 20 - (intOf iv).toNat)
    case atStart => exact ⟨0, a, n, c, by omega, by omega, rfl, C0.out⟩
    case round =>
      obtain ⟨j, ax, nx, cx, hj, hj20, rfl, hat⟩ := hrel
      clear C0 c0 c1
      by_cases hgo : j < len2 ∧ j < 20
      · obtain ⟨hg1, hg2⟩ := hgo
        have hgi1 : (j : Int) < len2 := by omega
        have hgi2 : (j : Int) < 20 := by omega
        obtain ⟨Fm, Fc, Mc, h1, h2, h3, h4, h5, h6, h7, h8, h9, h10, h11, h12⟩ := hat
        rcases HS2.out with ⟨h0, _⟩ | ⟨bs, os, cs, hv, _, hops⟩
        · omega
        simp only [Value.slice.injEq] at hv
        obtain ⟨rfl, -, rfl⟩ := hv
        obtain ⟨k0, k1, k2, k3, k4, kin, kl⟩ := hops j hg1
        clear hops
        generalize ops2 j = o at *
        obtain ⟨z, x, k, y, oa, ol, oc⟩ := o
        simp only at k0 k1 k2 k3 k4 kl
        have k5 := And.intro k0 (And.intro k1 (And.intro k2 (And.intro k3 k4)))
        have hfive := five_later k5 h12
        obtain ⟨c0, c1, c2, c3, c4⟩ := hfive
        obtain ⟨s, hs⟩ : ∃ s, smallB ⟨z, x, k, y, oa, ol, oc⟩ = s := ⟨_, rfl⟩
        have K : Hid ((W.cell? ⟨bs, os + j * 5, none⟩ = some (.int .i64 z) ∧ W.cell? ⟨bs, os + j * 5 + 1, none⟩ = some (.int .u64 (x : Nat)) ∧ W.cell? ⟨bs, os + j * 5 + 2, none⟩ = some (.int .i64 k) ∧ W.cell? ⟨bs, os + j * 5 + 3, none⟩ = some (.int .u64 (y : Nat)) ∧ W.cell? ⟨bs, os + j * 5 + 4, none⟩ = some (.slice oa ol oc)) ∧ OpD.In ⟨z, x, k, y, oa, ol, oc⟩ (fun q => W.heap.size ≤ q) W ∧ smallB ⟨z, x, k, y, oa, ol, oc⟩ = s) := ⟨k5, kin, hs⟩
        have R : Hid (RamAt wr Fm rb 8192 2000 (.pointer none) M ∧ RefIn Fc wr (.slice a n c) n bsw ∧ Both Fc wr rc 8192 (.slice ax nx cx) (2000 + 64 * j) Mc ∧ (∀ q, Fm q → ¬ Fc q) ∧ (∀ q, Fc q → W.heap.size ≤ q)) := ⟨h1, h2, h3, h4, h5⟩
        have R2 : Hid (¬ Fc b8 ∧ ¬ Fc b11 ∧ ¬ Fm b8 ∧ ¬ Fm b11) := ⟨h6, h7, h8, h9⟩
        have R3 : Hid (wr.heap[b8]? = some (.cells #[.int .u64 8192, .slice a n c] 28 (0, 0)) ∧ wr.heap[b11]? = some (.cells #[.int .u64 8192, .slice ax nx cx] 28 (0, 0)) ∧ Below W.heap.size W wr) := ⟨h10, h11, h12⟩
        clear k0 k1 k2 k3 k4 k5 kin hs h1 h2 h3 h4 h5 h6 h7 h8 h9 h10 h11 h12
        cases s with
        | false =>
          go_wp2_with (first | (go_at_call 19; refine (small_flat z x k y oa ol oc kl _).mono ?_; rw [K.out.2.2]; rintro e w3' ⟨rfl, hb3⟩))
          go_ret
          exact ⟨rfl, R3.out.2.2.trans (hb3.mono R3.out.2.2.size)⟩
        | true =>
          go_wp2_with (first | (go_at_call 19; refine (small_flat z x k y oa ol oc kl _).mono ?_; rw [K.out.2.2]; rintro e v3 ⟨rfl, hb3⟩; obtain ⟨d0, d1, d2, d3⟩ := box_facts (below_box R3.out.2.1 hb3); have HB3 : Hid (Below wr.heap.size wr v3) := hb3; clear hb3))
          have hW3 : Hid (Below W.heap.size W v3) := R3.out.2.2.trans (HB3.out.mono R3.out.2.2.size)
          obtain ⟨s0, s1, s2, s3, s4⟩ := five_later K.out.1 hW3.out
          have V : Hid (OpD.In ⟨z, x, k, y, oa, ol, oc⟩ Fc v3 ∧ Both Fc v3 rc 8192 (.slice ax nx cx) (2000 + 64 * j) Mc) := ⟨K.out.2.1.later hW3.out R.out.2.2.2.2, R.out.2.2.1.below HB3.out⟩
          have z8 : v3.heap.size ≠ b11 := World.new_ne v3 ⟨b11, 0, none⟩ d0
          have z9 : v3.heap.size ≠ bs := World.new_ne v3 ⟨bs, os + j * 5, none⟩ s0
          go_region_held3 (fun Z => Z.cell? ⟨b11, 0, none⟩ = some (.int .u64 8192) ∧ Z.cell? ⟨b11, 1, none⟩ = some (.slice ax nx cx) ∧ Z.cell? ⟨bs, os + j * 5, none⟩ = some (.int .i64 z) ∧ Z.cell? ⟨bs, os + j * 5 + 1, none⟩ = some (.int .u64 (x : Nat)) ∧ Z.cell? ⟨bs, os + j * 5 + 2, none⟩ = some (.int .i64 k) ∧ Z.cell? ⟨bs, os + j * 5 + 3, none⟩ = some (.int .u64 (y : Nat)) ∧ Z.cell? ⟨bs, os + j * 5 + 4, none⟩ = some (.slice oa ol oc)) (go_keep) (first | (go_at_call 26; refine (do_8192 Fc _ rc _ (2000 + 64 * j) Mc z x k y oa ol oc (Both.below V.out.2 (by first | exact (Below.refl _ _).drew | exact ((Below.refl _ _).alloc (Nat.le_refl _) _).drew)) (OpD.In.below V.out.1 (by first | exact (Below.refl _ _).drew | exact ((Below.refl _ _).alloc (Nat.le_refl _) _).drew)) K.out.2.2 (by omega)).mono ?_; rintro e w4' ⟨a', n', c', F4, M4, rfl, hb4, hs4⟩; have D4 := cq_do R.out.1 R.out.2.1 R.out.2.2.2.1 R.out.2.2.2.2 R2.out.1 R2.out.2.1 R2.out.2.2.1 R2.out.2.2.2 R3.out.1 R3.out.2.1 R3.out.2.2 (below_call HB3.out (by first | exact (Below.refl _ _).drew | exact ((Below.refl _ _).alloc (Nat.le_refl _) _).drew)) hs4 hb4; have E4 : Hid (Cq W w4' b8 b11 rb rc M bsw a n c (j + 1) a' n' c' (.int .u64 8192) ax nx cx) := D4.1; obtain ⟨v0, v1, v2, v3', v4⟩ := five_later K.out.1 (show Below W.heap.size W w4' from by obtain ⟨_, _, _, _, _, _, _, _, _, _, _, _, _, _, hz⟩ := E4.out; exact hz); obtain ⟨t0, t1, t2, t3⟩ := box_facts (show w4'.heap[b11]? = some (.cells #[.int .u64 8192, .slice ax nx cx] 28 (0, 0)) from by obtain ⟨_, _, _, _, _, _, _, _, _, _, _, _, _, hz, _⟩ := E4.out; exact hz); have zz : b11 < w4'.heap.size := block_lt_of_cell t0; (try (have xn := new_box hs4 V.out.2.1.lt; obtain ⟨n0, n1, n2, n3⟩ := box_facts xn; have XN : Hid (w4'.heap[v3.heap.size]? = some (.cells #[.int .u64 0, .slice none 0 0] 28 (0, 0)) ∧ ∃ Fm Fc Mc, RamAt w4' Fm rb 8192 2000 (.pointer none) M ∧ RefIn Fc w4' (.slice a n c) n bsw ∧ Both Fc w4' rc 8192 (.slice a' n' c') (2000 + 64 * (j + 1)) Mc ∧ (∀ q, Fm q → ¬ Fc q) ∧ (∀ q, Fc q → W.heap.size ≤ q) ∧ ¬ Fc b8 ∧ ¬ Fc b11 ∧ ¬ Fm b8 ∧ ¬ Fm b11 ∧ ¬ Fc v3.heap.size ∧ ¬ Fm v3.heap.size) := ⟨xn, D4.2 v3.heap.size HB3.out.size (by simp) (fun hq => by have := V.out.2.1.lt _ hq; omega)⟩; clear xn)); clear hb4 hs4 D4))
          · go_wp2_with fail
            go_roundw
            case rel => exact ⟨j + 1, a', n', c', by omega, by omega, by go_num, by first | exact (E4.out.below ((Below.refl _ _).alloc (Nat.le_refl _) _)).set hb811 hW11 | exact (E4.out.set hb811 hW11).below ((Below.refl _ _).alloc (Nat.le_refl _) _)⟩
            case measure => simp [intOf]; omega
          · go_wp2_with fail
            go_roundw
            case rel =>
              have h8 : b8 < wr.heap.size := (Array.getElem?_eq_some_iff.1 R3.out.1).1
              have hz8 : b8 ≠ v3.heap.size := by have := HB3.out.size; omega
              exact ⟨j + 1, a', n', c', by omega, by omega, by go_num, (Cq.own E4.out XN.out.1 hz8 z8.symm (Nat.le_trans R3.out.2.2.size HB3.out.size) XN.out.2).set hb811 hW11⟩
            case measure => simp [intOf]; omega
      · obtain ⟨Fm, Fc, Mc, h1, h2, h3, h4, h5, h6, h7, h8, h9, h10, h11, h12⟩ := hat
        obtain ⟨hrc, nb', bsx, hnx, ⟨a2, c2, hsl⟩, hrefx, heqx, hrngx⟩ := h3
        simp only [Value.slice.injEq] at hsl
        obtain ⟨rfl, rfl, rfl⟩ := hsl
        have hS := two_pages PRE.out.rng hrngx PRE.out.eq heqx
        obtain ⟨A, hA, hM⟩ := addresses_rise 524288 524289 hS
        have hMr : ∀ x, x ∈ A ↔ rget bsw n x ≠ rget bsx nx x := by intro x; rw [hM, PRE.out.eq, heqx]
        have LA : Hid ((spans A).length ≤ 10000) := few_spans hA hM hS
        have AP : Hid (∀ V (mst : Int), Below wr.heap.size wr V → Calls Try.prog 27 #[.agg #[.int .u64 8192, .slice a n c], .agg #[.int .u64 8192, .slice ax nx cx], .int .i64 mst] V fun e w' => ∃ ad cd, e = .returned (.slice ad ((spans A).take mst.toNat).length cd) ∧ SpanIn V.heap.size w' (.slice ad ((spans A).take mst.toNat).length cd) ((spans A).take mst.toNat) ∧ Below V.heap.size V w') := fun V mst hV =>
          (apart_any (F := Fc) 8192 mst (h2.below hV) (hrefx.below hV) (by have := PRE.out.le; omega) (by omega) (fun i hi => by have := PRE.out.rng i hi; omega) (fun i hi => by have := hrngx i hi; omega) A hA hMr).mono fun e w' ⟨v, he, hs, hb⟩ => by
            obtain ⟨ad, cd, rfl⟩ := hs.form
            exact ⟨ad, cd, he, hs, hb⟩
        have DF : Hid (∀ V, Below wr.heap.size wr V → Calls Try.prog 25 #[.pointer (some ⟨rb, 0, none⟩), .pointer (some ⟨rc, 0, none⟩), .int .i64 most] V fun e w' => ∃ ad cd, e = .returned (.slice ad ((spans A).take most.toNat).length cd) ∧ SpanIn V.heap.size w' (.slice ad ((spans A).take most.toNat).length cd) ((spans A).take most.toNat) ∧ Below V.heap.size V w') := fun V hV =>
          (differ_any (h1.below hV) (hrc.below hV) (by omega) (by omega) (by omega) 524288 524289 (by omega) (by omega) hS most A hA hM).mono fun e w' ⟨v, he, hs, hb⟩ => by
            obtain ⟨ad, cd, rfl⟩ := hs.form
            exact ⟨ad, cd, he, hs, hb⟩
        obtain ⟨r, hr⟩ : ∃ r : Bool, decide (A = []) = r := ⟨_, rfl⟩
        have hr2 : r = true ↔ ∀ a, M a = Mc a := by
          rw [← hr, decide_eq_true_iff]
          constructor
          · intro h a
            by_cases hq : M a = Mc a
            · exact hq
            · have := (hM a).2 hq; rw [h] at this; simp at this
          · intro h
            exact List.eq_nil_iff_forall_not_mem.2 (fun x hx => (hM x).1 hx (h x))
        have SM : Hid (∀ V, Below wr.heap.size wr V → Calls Try.prog 24 #[.pointer (some ⟨rb, 0, none⟩), .pointer (some ⟨rc, 0, none⟩)] V fun e w' => e = .returned (.bool r) ∧ Below V.heap.size V w') := fun V hV => same_any (h1.below hV) (hrc.below hV) (by omega) (by omega) (by omega) 524288 524289 hS r hr2
        have hr0 : (((((spans A).take (1 : Int).toNat).length : Nat) : Int) == 0) = r := by rw [← hr]; exact one_span A
        have BB : Hid (∀ V, Below wr.heap.size wr V → V.cell? ⟨b8, 0, none⟩ = some (.int .u64 8192) ∧ V.cell? ⟨b8, 1, none⟩ = some (.slice a n c) ∧ V.cell? ⟨b11, 0, none⟩ = some (.int .u64 8192) ∧ V.cell? ⟨b11, 1, none⟩ = some (.slice ax nx cx)) := fun V hV => by
          obtain ⟨e0, e1, _, _⟩ := box_facts (below_box h10 hV)
          obtain ⟨e2, e3, _, _⟩ := box_facts (below_box h11 hV)
          exact ⟨e0, e1, e2, e3⟩
        obtain ⟨e0, e1, e2, e3⟩ := BB.out wr (Below.refl _ _)
        have HBW : Hid (Below W.heap.size W wr) := h12
        clear h1 h2 h4 h5 h6 h7 h8 h9 h10 h11 h12 hrc hnx hrefx heqx hrngx hS hA hM hMr hr hr2
        by_cases hl : (j : Int) < len2
        · have hl2 : ¬ (j : Int) < 20 := by omega
          go_wp2_with fail
          refine (AP.out _ most (Below.refl _ _)).mono ?_
          rintro e w5 ⟨av, cv, rfl, hsp5, hb5⟩
          have W5 : Hid (SpanIn wr.heap.size w5 (.slice av ((spans A).take most.toNat).length cv) ((spans A).take most.toNat)) := hsp5
          have Z5 : Hid (Below wr.heap.size wr w5) := hb5
          clear hsp5 hb5
          have B5 : Hid (∀ V, Below w5.heap.size w5 V → V.cell? ⟨b8, 0, none⟩ = some (.int .u64 8192) ∧ V.cell? ⟨b8, 1, none⟩ = some (.slice a n c) ∧ V.cell? ⟨b11, 0, none⟩ = some (.int .u64 8192) ∧ V.cell? ⟨b11, 1, none⟩ = some (.slice ax nx cx)) := fun V hV => BB.out V (below_call Z5.out hV)
          obtain ⟨m0, m1, m2, m3⟩ := B5.out w5 (Below.refl _ _)
          have DF5 : Hid (∀ V, Below w5.heap.size w5 V → Calls Try.prog 25 #[.pointer (some ⟨rb, 0, none⟩), .pointer (some ⟨rc, 0, none⟩), .int .i64 most] V fun e w' => ∃ ad cd, e = .returned (.slice ad ((spans A).take most.toNat).length cd) ∧ SpanIn V.heap.size w' (.slice ad ((spans A).take most.toNat).length cd) ((spans A).take most.toNat) ∧ Below V.heap.size V w') := fun V hV => DF.out V (below_call Z5.out hV)
          have SM5 : Hid (∀ V, Below w5.heap.size w5 V → Calls Try.prog 24 #[.pointer (some ⟨rb, 0, none⟩), .pointer (some ⟨rc, 0, none⟩)] V fun e w' => e = .returned (.bool r) ∧ Below V.heap.size V w') := fun V hV => SM.out V (below_call Z5.out hV)
          have AP5 : Hid (∀ V, Below w5.heap.size w5 V → Calls Try.prog 27 #[.agg #[.int .u64 8192, .slice a n c], .agg #[.int .u64 8192, .slice ax nx cx], .int .i64 1] V fun e w' => ∃ ad cd, e = .returned (.slice ad ((spans A).take (1 : Int).toNat).length cd) ∧ SpanIn V.heap.size w' (.slice ad ((spans A).take (1 : Int).toNat).length cd) ((spans A).take (1 : Int).toNat) ∧ Below V.heap.size V w') := fun V hV => AP.out V 1 (below_call Z5.out hV)
          generalize hL1 : (((spans A).take (1 : Int).toNat).length : Nat) = l1 at *
          generalize hL2 : ((spans A).take most.toNat).length = l2 at *
          have HL2 : Hid (l2 ≤ 10000) := (show l2 ≤ 10000 from by rw [← hL2]; exact Nat.le_trans (List.length_take_le' _ _) LA.out)
          clear hL1 hL2
          go_wp2_with fail
          go_region_held3 (fun V => V.cell? ⟨b8, 0, none⟩ = some (.int .u64 8192) ∧ V.cell? ⟨b8, 1, none⟩ = some (.slice a n c) ∧ V.cell? ⟨b11, 0, none⟩ = some (.int .u64 8192) ∧ V.cell? ⟨b11, 1, none⟩ = some (.slice ax nx cx)) (go_keep) (first | (go_at_call 25; (with_reducible refine Calls.mono (DF5.out _ (by repeat (first | exact Y9.out | exact Y8.out | exact Y7.out | exact Y6.out | exact Below.refl _ _ | with_reducible refine Below.drew ?_))) ?_); rintro e w6' ⟨ad', cd', rfl, hsp6, hb6⟩; have Y6 : Hid (Below w5.heap.size w5 w6') := below_call (by repeat (first | exact Y9.out | exact Y8.out | exact Y7.out | exact Y6.out | exact Below.refl _ _ | with_reducible refine Below.drew ?_)) hb6; obtain ⟨p0, p1, p2, p3⟩ := B5.out w6' Y6.out; have SS6 : Hid (∀ V, Below w6'.heap.size w6' V → Calls Try.prog 22 #[.slice ad' l2 cd', .slice av l2 cv] V fun e w' => e = .returned (.bool true) ∧ Below V.heap.size V w') := same_later (Nat.le_trans Z5.out.size (Below.size (B := w5.heap.size) (by repeat (first | exact Y9.out | exact Y8.out | exact Y7.out | exact Y6.out | exact Below.refl _ _ | with_reducible refine Below.drew ?_)))) hsp6 W5.out Y6.out (Nat.le_trans (List.length_take_le' _ _) (Nat.le_trans LA.out (by omega))); clear hsp6 hb6) | (go_at_call 22; (with_reducible refine Calls.mono (SS6.out _ (by repeat (first | exact Below.refl _ _ | with_reducible refine Below.drew ?_))) ?_); rintro e w7' ⟨rfl, hb7⟩; have Y7 : Hid (Below w5.heap.size w5 w7') := below_call (by repeat (first | exact Y9.out | exact Y8.out | exact Y7.out | exact Y6.out | exact Below.refl _ _ | with_reducible refine Below.drew ?_)) hb7; obtain ⟨q0, q1, q2, q3⟩ := B5.out w7' Y7.out; clear hb7) | (go_at_call 24; (with_reducible refine Calls.mono (SM5.out _ (by repeat (first | exact Y9.out | exact Y8.out | exact Y7.out | exact Y6.out | exact Below.refl _ _ | with_reducible refine Below.drew ?_))) ?_); rintro e w8' ⟨rfl, hb8⟩; have Y8 : Hid (Below w5.heap.size w5 w8') := below_call (by repeat (first | exact Y9.out | exact Y8.out | exact Y7.out | exact Y6.out | exact Below.refl _ _ | with_reducible refine Below.drew ?_)) hb8; obtain ⟨r0, r1, r2, r3⟩ := B5.out w8' Y8.out; clear hb8) | (go_at_call 27; (with_reducible refine Calls.mono (AP5.out _ (by repeat (first | exact Y9.out | exact Y8.out | exact Y7.out | exact Y6.out | exact Below.refl _ _ | with_reducible refine Below.drew ?_))) ?_); rintro e w9' ⟨a9, c9, rfl, _, hb9⟩; have Y9 : Hid (Below w5.heap.size w5 w9') := below_call (by repeat (first | exact Y9.out | exact Y8.out | exact Y7.out | exact Y6.out | exact Below.refl _ _ | with_reducible refine Below.drew ?_)) hb9; obtain ⟨o0, o1, o2, o3⟩ := B5.out w9' Y9.out; clear hb9))
          all_goals go_wp2_with fail
          all_goals go_ret
          all_goals exact ⟨ret_true (by simp [hr0]), HBW.out.trans ((below_call Z5.out Y9.out).mono HBW.out.size)⟩
        · go_wp2_with fail
          refine (AP.out _ most (Below.refl _ _)).mono ?_
          rintro e w5 ⟨av, cv, rfl, hsp5, hb5⟩
          have W5 : Hid (SpanIn wr.heap.size w5 (.slice av ((spans A).take most.toNat).length cv) ((spans A).take most.toNat)) := hsp5
          have Z5 : Hid (Below wr.heap.size wr w5) := hb5
          clear hsp5 hb5
          have B5 : Hid (∀ V, Below w5.heap.size w5 V → V.cell? ⟨b8, 0, none⟩ = some (.int .u64 8192) ∧ V.cell? ⟨b8, 1, none⟩ = some (.slice a n c) ∧ V.cell? ⟨b11, 0, none⟩ = some (.int .u64 8192) ∧ V.cell? ⟨b11, 1, none⟩ = some (.slice ax nx cx)) := fun V hV => BB.out V (below_call Z5.out hV)
          obtain ⟨m0, m1, m2, m3⟩ := B5.out w5 (Below.refl _ _)
          have DF5 : Hid (∀ V, Below w5.heap.size w5 V → Calls Try.prog 25 #[.pointer (some ⟨rb, 0, none⟩), .pointer (some ⟨rc, 0, none⟩), .int .i64 most] V fun e w' => ∃ ad cd, e = .returned (.slice ad ((spans A).take most.toNat).length cd) ∧ SpanIn V.heap.size w' (.slice ad ((spans A).take most.toNat).length cd) ((spans A).take most.toNat) ∧ Below V.heap.size V w') := fun V hV => DF.out V (below_call Z5.out hV)
          have SM5 : Hid (∀ V, Below w5.heap.size w5 V → Calls Try.prog 24 #[.pointer (some ⟨rb, 0, none⟩), .pointer (some ⟨rc, 0, none⟩)] V fun e w' => e = .returned (.bool r) ∧ Below V.heap.size V w') := fun V hV => SM.out V (below_call Z5.out hV)
          have AP5 : Hid (∀ V, Below w5.heap.size w5 V → Calls Try.prog 27 #[.agg #[.int .u64 8192, .slice a n c], .agg #[.int .u64 8192, .slice ax nx cx], .int .i64 1] V fun e w' => ∃ ad cd, e = .returned (.slice ad ((spans A).take (1 : Int).toNat).length cd) ∧ SpanIn V.heap.size w' (.slice ad ((spans A).take (1 : Int).toNat).length cd) ((spans A).take (1 : Int).toNat) ∧ Below V.heap.size V w') := fun V hV => AP.out V 1 (below_call Z5.out hV)
          generalize hL1 : (((spans A).take (1 : Int).toNat).length : Nat) = l1 at *
          generalize hL2 : ((spans A).take most.toNat).length = l2 at *
          have HL2 : Hid (l2 ≤ 10000) := (show l2 ≤ 10000 from by rw [← hL2]; exact Nat.le_trans (List.length_take_le' _ _) LA.out)
          clear hL1 hL2
          go_wp2_with fail
          go_region_held3 (fun V => V.cell? ⟨b8, 0, none⟩ = some (.int .u64 8192) ∧ V.cell? ⟨b8, 1, none⟩ = some (.slice a n c) ∧ V.cell? ⟨b11, 0, none⟩ = some (.int .u64 8192) ∧ V.cell? ⟨b11, 1, none⟩ = some (.slice ax nx cx)) (go_keep) (first | (go_at_call 25; (with_reducible refine Calls.mono (DF5.out _ (by repeat (first | exact Y9.out | exact Y8.out | exact Y7.out | exact Y6.out | exact Below.refl _ _ | with_reducible refine Below.drew ?_))) ?_); rintro e w6' ⟨ad', cd', rfl, hsp6, hb6⟩; have Y6 : Hid (Below w5.heap.size w5 w6') := below_call (by repeat (first | exact Y9.out | exact Y8.out | exact Y7.out | exact Y6.out | exact Below.refl _ _ | with_reducible refine Below.drew ?_)) hb6; obtain ⟨p0, p1, p2, p3⟩ := B5.out w6' Y6.out; have SS6 : Hid (∀ V, Below w6'.heap.size w6' V → Calls Try.prog 22 #[.slice ad' l2 cd', .slice av l2 cv] V fun e w' => e = .returned (.bool true) ∧ Below V.heap.size V w') := same_later (Nat.le_trans Z5.out.size (Below.size (B := w5.heap.size) (by repeat (first | exact Y9.out | exact Y8.out | exact Y7.out | exact Y6.out | exact Below.refl _ _ | with_reducible refine Below.drew ?_)))) hsp6 W5.out Y6.out (Nat.le_trans (List.length_take_le' _ _) (Nat.le_trans LA.out (by omega))); clear hsp6 hb6) | (go_at_call 22; (with_reducible refine Calls.mono (SS6.out _ (by repeat (first | exact Below.refl _ _ | with_reducible refine Below.drew ?_))) ?_); rintro e w7' ⟨rfl, hb7⟩; have Y7 : Hid (Below w5.heap.size w5 w7') := below_call (by repeat (first | exact Y9.out | exact Y8.out | exact Y7.out | exact Y6.out | exact Below.refl _ _ | with_reducible refine Below.drew ?_)) hb7; obtain ⟨q0, q1, q2, q3⟩ := B5.out w7' Y7.out; clear hb7) | (go_at_call 24; (with_reducible refine Calls.mono (SM5.out _ (by repeat (first | exact Y9.out | exact Y8.out | exact Y7.out | exact Y6.out | exact Below.refl _ _ | with_reducible refine Below.drew ?_))) ?_); rintro e w8' ⟨rfl, hb8⟩; have Y8 : Hid (Below w5.heap.size w5 w8') := below_call (by repeat (first | exact Y9.out | exact Y8.out | exact Y7.out | exact Y6.out | exact Below.refl _ _ | with_reducible refine Below.drew ?_)) hb8; obtain ⟨r0, r1, r2, r3⟩ := B5.out w8' Y8.out; clear hb8) | (go_at_call 27; (with_reducible refine Calls.mono (AP5.out _ (by repeat (first | exact Y9.out | exact Y8.out | exact Y7.out | exact Y6.out | exact Below.refl _ _ | with_reducible refine Below.drew ?_))) ?_); rintro e w9' ⟨a9, c9, rfl, _, hb9⟩; have Y9 : Hid (Below w5.heap.size w5 w9') := below_call (by repeat (first | exact Y9.out | exact Y8.out | exact Y7.out | exact Y6.out | exact Below.refl _ _ | with_reducible refine Below.drew ?_)) hb9; obtain ⟨o0, o1, o2, o3⟩ := B5.out w9' Y9.out; clear hb9))
          all_goals go_wp2_with fail
          all_goals go_ret
          all_goals exact ⟨ret_true (by simp [hr0]), HBW.out.trans ((below_call Z5.out Y9.out).mono HBW.out.size)⟩
theorem copies_walk (W : World) (v : Value) (len : Nat) (ops : Nat → OpD) (hsc : ScriptIn W v len ops) (v2 : Value) (len2 : Nat) (ops2 : Nat → OpD) (hsc2 : ScriptIn W v2 len2 ops2) (most : Int) (hm : (Lit.int .i64 most).wf = true) :
    Calls Try.prog 7 #[v, v2, .int .i64 most] W fun e w' => e = .returned (.bool true) ∧ Below W.heap.size W w' := by
  obtain ⟨sa, sc, rfl⟩ : ∃ a c, v2 = .slice a len2 c := by
    rcases hsc2 with ⟨rfl, a, c, rfl⟩ | ⟨b, off, cap, rfl, _⟩
    · exact ⟨_, _, rfl⟩
    · exact ⟨_, _, rfl⟩
  exact copies_core W v len ops hsc sa len2 sc ops2 hsc2 most
end Go.Proofs.Ytbodmgihoklhiaa
