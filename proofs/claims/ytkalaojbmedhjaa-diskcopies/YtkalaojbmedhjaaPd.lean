/- Package disk: Read, Write, Flush, Fill, Sector. -/
import Derived.Test.YtkalaojbmedhjaaPc
namespace Go.Proofs.Ytkalaojbmedhjaa
open Go.RowKit Go.Maps
set_option linter.unusedVariables false
set_option linter.unusedSimpArgs false
set_option maxRecDepth 100000
theorem askE_pos {K : Dk} (h : K.fail = 1) : askE K = 133 := by unfold askE; rw [if_pos h]
theorem askE_neg {K : Dk} (h : K.fail ≠ 1) : askE K = 0 := by unfold askE; rw [if_neg h]
/-- 'if e := d.request(); e != api.OK' -/
theorem request_bad {w : World} {db bm : Nat} {K : Dk} (h : DiskAt w db bm K) (hf : K.fail = 1) : Calls Try.prog 29 #[.pointer (some ⟨db, 0, none⟩)] w fun e w' => e = .returned (.int .i64 133) ∧ DiskAt w' db bm (askK K) ∧ Two db bm w w' := by
  have := request_any h
  rw [askE_pos hf] at this
  exact this
theorem request_good {w : World} {db bm : Nat} {K : Dk} (h : DiskAt w db bm K) (hf : K.fail ≠ 1) : Calls Try.prog 29 #[.pointer (some ⟨db, 0, none⟩)] w fun e w' => e = .returned (.int .i64 0) ∧ DiskAt w' db bm (askK K) ∧ Two db bm w w' := by
  have := request_any h
  rw [askE_neg hf] at this
  exact this
theorem read_bad {w : World} {db bm : Nat} {K : Dk} (h : DiskAt w db bm K) (x n : Nat) (hx : x < 18446744073709551616) (hn : n < 18446744073709551616) (hE : readE K x n ≠ 0) :
    Calls Try.prog 21 #[.pointer (some ⟨db, 0, none⟩), .int .u64 (x : Nat), .int .u64 (n : Nat)] w fun e w' => e = .returned (.tuple #[.slice none 0 0, .int .i64 (readE K x n : Nat)]) ∧ DiskAt w' db bm (askK K) ∧ Two db bm w w' := by
  by_cases hf : K.fail = 1
  · have e : readE K x n = 133 := by unfold readE; rw [if_pos hf]
    rw [e]
    have C := request_bad h hf
    clear hE e hf h
    go_enter Try.func21, Try.ntmps21
    go_wp2_with fail
    first | refine C.mono ?_ | refine C.out.mono ?_
    rintro e w1 ⟨rfl, h1, t1⟩
    have X : Hid (_ ∧ _) := ⟨h1, t1⟩
    clear h1 t1
    go_wp2
    go_ret2
    exact ⟨rfl, X.out.1, X.out.2⟩
  · have e : readE K x n = pieceE K.count x n := by unfold readE; rw [if_neg hf]
    rw [e] at hE ⊢
    have C : Hid (Calls Try.prog 29 #[.pointer (some ⟨db, 0, none⟩)] w fun e w' => e = .returned (.int .i64 0) ∧ DiskAt w' db bm (askK K) ∧ Two db bm w w') := request_good h hf
    have n1 : (((pieceE K.count x n : Nat) : Int) == 0) = false := by simp; omega
    obtain ⟨q, hq⟩ : ∃ q, pieceE K.count x n = q := ⟨_, rfl⟩
    rw [hq] at n1 ⊢
    have HQ : Hid (pieceE K.count x n = q) := hq
    clear e hf h hE hq
    go_enter Try.func21, Try.ntmps21
    go_wp2_with fail
    first | refine C.mono ?_ | refine C.out.mono ?_
    rintro e w1 ⟨rfl, h1, t1⟩
    have X : Hid (DiskAt w1 db bm (askK K) ∧ Two db bm w w1) := ⟨h1, t1⟩
    clear h1 t1
    go_wp2_with fail
    refine (there_any X.out.1 x n hx hn).mono ?_
    rintro e w2 ⟨rfl, hw⟩
    rw [hw]
    clear hw w2
    rw [show (askK K).count = K.count from rfl, HQ.out]
    go_wp2
    go_ret2
    exact ⟨rfl, X.out.1, X.out.2⟩
theorem piece_zero {c x n : Nat} (h : pieceE c x n = 0) : n % 512 = 0 ∧ x * 512 + n ≤ c * 512 := by
  unfold pieceE at h
  split at h
  · omega
  · split at h
    · omega
    · omega
theorem read_good {w : World} {db bm : Nat} {K : Dk} (h : DiskAt w db bm K) (x n : Nat) (hx : x < 18446744073709551616) (hn : n < 18446744073709551616) (hE : readE K x n = 0) :
    Calls Try.prog 21 #[.pointer (some ⟨db, 0, none⟩), .int .u64 (x : Nat), .int .u64 (n : Nat)] w fun e w' => ∃ g, e = .returned (.tuple #[.slice (some ⟨g, 0, none⟩) n n, .int .i64 0]) ∧ RowAt w' g n (fun i => K.M (x * 512 + i)) ∧ w.heap.size ≤ g ∧ DiskAt w' db bm (askK K) ∧ Two db bm w w' := by
  have hf : K.fail ≠ 1 := fun hf => by unfold readE at hE; rw [if_pos hf] at hE; cases hE
  have e : readE K x n = pieceE K.count x n := by unfold readE; rw [if_neg hf]
  rw [e] at hE
  have HP : Hid (pieceE K.count x n = 0) := hE
  have C : Hid (Calls Try.prog 29 #[.pointer (some ⟨db, 0, none⟩)] w fun e w' => e = .returned (.int .i64 0) ∧ DiskAt w' db bm (askK K) ∧ Two db bm w w') := request_good h hf
  clear e hf h hE
  go_enter Try.func21, Try.ntmps21
  go_wp2_with fail
  first | refine C.mono ?_ | refine C.out.mono ?_
  rintro e w1 ⟨rfl, h1, t1⟩
  have X : Hid (DiskAt w1 db bm (askK K) ∧ Two db bm w w1) := ⟨h1, t1⟩
  clear h1 t1
  go_wp2_with fail
  refine (there_any X.out.1 x n hx hn).mono ?_
  rintro e w2 ⟨rfl, hw⟩
  rw [hw]
  clear hw w2
  rw [show (askK K).count = K.count from rfl, HP.out]
  go_wp2_with fail
  refine (get_any X.out.1 x n (piece_zero HP.out).1 (piece_zero HP.out).2).mono ?_
  rintro e w2 ⟨rfl, hr, hb⟩
  have Y : Hid (RowAt w2 w1.heap.size n (fun i => K.M (x * 512 + i)) ∧ Below w1.heap.size w1 w2) := ⟨hr, hb⟩
  clear hr hb
  go_wp2
  go_ret2
  exact ⟨w1.heap.size, rfl, Y.out.1, X.out.2.size, X.out.1.step Y.out.2, X.out.2.trans (Two.of_below Y.out.2)⟩
theorem write_any {w : World} {db bm : Nat} {K : Dk} (h : DiskAt w db bm K) (x L : Nat) (f : Nat → Nat) (v : Value) (hx : x < 18446744073709551616) (hr : ReadsF (fun k => k = db ∨ k = bm) w v L f) (hf : ∀ i, f i ≤ 255) :
    Calls Try.prog 17 #[.pointer (some ⟨db, 0, none⟩), .int .u64 (x : Nat), v] w fun e w' => e = .returned (.int .i64 (writeE K x L : Nat)) ∧ DiskAt w' db bm (writeK K x L f) ∧ Two db bm w w' := by
  obtain ⟨av, cv, rfl, hL⟩ := hr.form
  have HR : Hid (ReadsF (fun k => k = db ∨ k = bm) w (.slice av L cv) L f) := hr
  clear hr
  by_cases h1 : K.fail = 1
  · have e : writeE K x L = 133 := by unfold writeE; rw [if_pos h1]
    have e2 : writeK K x L f = askK K := by unfold writeK; rw [e]; rfl
    rw [e, e2]
    have C := request_bad h h1
    clear e e2 h1 h
    go_enter Try.func17, Try.ntmps17
    go_wp2_with fail
    first | refine C.mono ?_ | refine C.out.mono ?_
    rintro e w1 ⟨rfl, h1, t1⟩
    have X : Hid (_ ∧ _) := ⟨h1, t1⟩
    clear h1 t1
    go_wp2
    go_ret
    exact ⟨rfl, X.out.1, X.out.2⟩
  have C : Hid (Calls Try.prog 29 #[.pointer (some ⟨db, 0, none⟩)] w fun e w' => e = .returned (.int .i64 0) ∧ DiskAt w' db bm (askK K) ∧ Two db bm w w') := request_good h h1
  cases hl : K.locked with
  | true =>
    have e : writeE K x L = 132 := by unfold writeE; rw [if_neg h1, if_pos hl]
    have e2 : writeK K x L f = askK K := by unfold writeK; rw [e]; rfl
    rw [e, e2]
    clear e e2 h1 h
    go_enter Try.func17, Try.ntmps17
    go_wp2_with fail
    first | refine C.mono ?_ | refine C.out.mono ?_
    rintro e w1 ⟨rfl, h1, t1⟩
    have c1 := h1.c1
    rw [show (askK K).locked = true from hl] at c1
    have X : Hid (_ ∧ _) := ⟨h1, t1⟩
    clear h1 t1 hl
    go_wp2
    go_ret
    exact ⟨rfl, X.out.1, X.out.2⟩
  | false =>
    have e : writeE K x L = pieceE K.count x L := by unfold writeE; rw [if_neg h1, if_neg (by rw [hl]; simp)]
    by_cases hp : pieceE K.count x L = 0
    · have e2 : writeK K x L f = putK (askK K) x L f := by unfold writeK; rw [e, if_pos hp]
      rw [e, e2, hp]
      have HP : Hid (pieceE K.count x L = 0) := hp
      clear e e2 h1 h hp
      go_enter Try.func17, Try.ntmps17
      go_wp2_with fail
      first | refine C.mono ?_ | refine C.out.mono ?_
      rintro e w1 ⟨rfl, h1, t1⟩
      have c1 := h1.c1
      rw [show (askK K).locked = false from hl] at c1
      have X : Hid (DiskAt w1 db bm (askK K) ∧ Two db bm w w1) := ⟨h1, t1⟩
      clear h1 t1 hl
      go_wp2_with fail
      refine (there_any X.out.1 x L hx (by omega)).mono ?_
      rintro e w2 ⟨rfl, hw⟩
      rw [hw]
      clear hw w2
      rw [show (askK K).count = K.count from rfl, HP.out]
      go_wp2_with fail
      refine (put_any X.out.1 x L f _ (HR.out.two X.out.2) hf (piece_zero HP.out).2).mono ?_
      rintro e w2 ⟨rfl, h2, t2⟩
      have Y : Hid (_ ∧ _) := ⟨h2, t2⟩
      clear h2 t2
      go_wp2
      go_ret
      exact ⟨rfl, Y.out.1, X.out.2.trans Y.out.2⟩
    · have e2 : writeK K x L f = askK K := by unfold writeK; rw [e, if_neg hp]
      rw [e, e2]
      have n1 : (((pieceE K.count x L : Nat) : Int) == 0) = false := by simp; omega
      obtain ⟨q, hq⟩ : ∃ q, pieceE K.count x L = q := ⟨_, rfl⟩
      rw [hq] at n1 ⊢
      have HQ : Hid (pieceE K.count x L = q) := hq
      clear e e2 h1 h hp hq
      go_enter Try.func17, Try.ntmps17
      go_wp2_with fail
      first | refine C.mono ?_ | refine C.out.mono ?_
      rintro e w1 ⟨rfl, h1, t1⟩
      have c1 := h1.c1
      rw [show (askK K).locked = false from hl] at c1
      have X : Hid (DiskAt w1 db bm (askK K) ∧ Two db bm w w1) := ⟨h1, t1⟩
      clear h1 t1 hl
      go_wp2_with fail
      refine (there_any X.out.1 x L hx (by omega)).mono ?_
      rintro e w2 ⟨rfl, hw⟩
      rw [hw]
      clear hw w2
      rw [show (askK K).count = K.count from rfl, HQ.out]
      go_wp2
      go_ret
      exact ⟨rfl, X.out.1, X.out.2⟩
theorem flush_any {w : World} {db bm : Nat} {K : Dk} (h : DiskAt w db bm K) : Calls Try.prog 25 #[.pointer (some ⟨db, 0, none⟩)] w fun e w' => e = .returned (.int .i64 (askE K : Nat)) ∧ DiskAt w' db bm (flushK K) ∧ Two db bm w w' := by
  by_cases h1 : K.fail = 1
  · have e : flushK K = askK K := by unfold flushK; rw [if_pos h1]
    rw [e, askE_pos h1]
    have C := request_bad h h1
    clear e h1 h
    go_enter Try.func25, Try.ntmps25
    go_wp2_with fail
    first | refine C.mono ?_ | refine C.out.mono ?_
    rintro e w1 ⟨rfl, h1, t1⟩
    have X : Hid (_ ∧ _) := ⟨h1, t1⟩
    clear h1 t1
    go_wp2
    go_ret
    exact ⟨rfl, X.out.1, X.out.2⟩
  · have HE : Hid (flushK K = { askK K with fl := inc K.fl }) := by show _ = _; unfold flushK; rw [if_neg h1]
    rw [askE_neg h1]
    have HO : Hid (flushK K).Ok := flushK_ok h.2.2
    have C : Hid (Calls Try.prog 29 #[.pointer (some ⟨db, 0, none⟩)] w fun e w' => e = .returned (.int .i64 0) ∧ DiskAt w' db bm (askK K) ∧ Two db bm w w') := request_good h h1
    have hi := inc_num K.fl
    clear h1 h
    go_enter Try.func25, Try.ntmps25
    go_wp2_with fail
    first | refine C.mono ?_ | refine C.out.mono ?_
    rintro e w1 ⟨rfl, h1, t1⟩
    have c4 := h1.c4
    rw [show (askK K).fl = K.fl from rfl] at c4
    have f4 := h1.1.frozen 4
    have X : Hid (DiskAt w1 db bm (askK K) ∧ Two db bm w w1) := ⟨h1, t1⟩
    clear h1 t1
    go_wp2
    go_ret
    have hu : Upon db w1 (w1.setCell ⟨db, 4, none⟩ (.int .u64 (inc K.fl : Nat))) := (Upon.refl _ _).set 4 _
    have hk := HO.out
    rw [HE.out] at hk ⊢
    exact ⟨rfl, X.out.1.cells rfl rfl hk (X.out.1.1.set 4 _) hu, X.out.2.trans (Two.of_upon hu)⟩
theorem sector_no {w : World} {db bm : Nat} {K : Dk} (h : DiskAt w db bm K) (n : Nat) (hn : K.count ≤ n) : Calls Try.prog 23 #[.pointer (some ⟨db, 0, none⟩), .int .u64 (n : Nat)] w fun e w' => e = .returned (.tuple #[.slice none 0 0, .bool false]) ∧ w' = w := by
  have C := count_any h
  have e : decide (K.count ≤ n) = true := by simp; omega
  clear h hn
  go_enter Try.func23, Try.ntmps23
  go_wp2_with fail
  first | refine C.mono ?_ | refine C.out.mono ?_
  rintro e w1 ⟨rfl, hw⟩
  rw [hw]
  clear hw w1
  go_wp2
  go_ret2
  exact ⟨rfl, rfl⟩
theorem sector_yes {w : World} {db bm : Nat} {K : Dk} (h : DiskAt w db bm K) (n : Nat) (hn : n < K.count) : Calls Try.prog 23 #[.pointer (some ⟨db, 0, none⟩), .int .u64 (n : Nat)] w fun e w' => e = .returned (.tuple #[.slice (some ⟨w.heap.size, 0, none⟩) 512 512, .bool true]) ∧ RowAt w' w.heap.size 512 (secF K.M n) ∧ Below w.heap.size w w' := by
  have C := count_any h
  have G := get_any h n 512 rfl (by omega)
  have e : decide (K.count ≤ n) = false := by simp; omega
  clear h hn
  go_enter Try.func23, Try.ntmps23
  go_wp2_with fail
  first | refine C.mono ?_ | refine C.out.mono ?_
  rintro e w1 ⟨rfl, hw⟩
  rw [hw]
  clear hw w1
  go_wp2_with fail
  refine G.mono ?_
  rintro e w1 ⟨rfl, hr, hb⟩
  have X : Hid (_ ∧ _) := ⟨hr, hb⟩
  clear hr hb
  go_wp2
  go_ret2
  exact ⟨rfl, X.out.1, X.out.2⟩
theorem fill_eq {K : Dk} (h : K.Ok) (L : Nat) (f : Nat → Nat) : putK K 0 (min L (K.count * 512)) f = fillK K L f := by
  have e : layN K.M (K.count * 512) (0 * 512) (up (min L (K.count * 512))) (min L (K.count * 512)) f = layN K.M (K.count * 512) (0 * 512) (up L) L f := by
    funext a
    unfold layN up
    by_cases h1 : a < K.count * 512
    · rw [if_pos h1, if_pos h1]
      by_cases h2 : 0 * 512 ≤ a ∧ a < 0 * 512 + (L + 511) / 512 * 512
      · have g2 : 0 * 512 ≤ a ∧ a < 0 * 512 + (min L (K.count * 512) + 511) / 512 * 512 := by omega
        rw [if_pos g2, if_pos h2]
        by_cases h3 : a - 0 * 512 < L
        · have g3 : a - 0 * 512 < min L (K.count * 512) := by omega
          rw [if_pos g3, if_pos h3]
        · have g3 : ¬ a - 0 * 512 < min L (K.count * 512) := by omega
          rw [if_neg g3, if_neg h3]
      · have g2 : ¬ (0 * 512 ≤ a ∧ a < 0 * 512 + (min L (K.count * 512) + 511) / 512 * 512) := by omega
        rw [if_neg g2, if_neg h2]
    · rw [if_neg h1, if_neg h1]
  unfold fillK putK
  rw [e]
theorem readsF_take {F : Nat → Prop} {w : World} {a : Option Addr} {n cap m : Nat} {f : Nat → Nat} (h : ReadsF F w (.slice a n cap) n f) (hm : m ≤ n) : ReadsF F w (.slice a m cap) m f ∧ n ≤ cap ∧ cap ≤ 9223372036854775807 := by
  rcases h with ⟨rfl, a', cap', h1, h2⟩ | ⟨b, off, cap', h2, h3, h4, h5, h6⟩
  · simp only [Value.slice.injEq] at h2
    obtain ⟨rfl, -, rfl⟩ := h2
    obtain rfl : m = 0 := by omega
    exact ⟨.inl ⟨rfl, _, _, h1, rfl⟩, Nat.zero_le _, h1⟩
  · simp only [Value.slice.injEq] at h2
    obtain ⟨rfl, -, rfl⟩ := h2
    exact ⟨.inr ⟨b, off, _, rfl, h3, by omega, h5, fun i hi => h6 i (by omega)⟩, h4, h5⟩
set_option maxHeartbeats 1000000 in
theorem fill_any {w : World} {db bm : Nat} {K : Dk} (h : DiskAt w db bm K) (L : Nat) (f : Nat → Nat) (v : Value) (hr : ReadsF (fun k => k = db ∨ k = bm) w v L f) (hf : ∀ i, f i ≤ 255) :
    Calls Try.prog 37 #[.pointer (some ⟨db, 0, none⟩), v] w fun e w' => e = .returned (.tuple #[]) ∧ DiskAt w' db bm (fillK K L f) ∧ Two db bm w w' := by
  obtain ⟨av, cv, rfl, hL⟩ := hr.form
  have hc := h.2.2.cnt
  obtain ⟨m, hm⟩ : ∃ m, m = min L (K.count * 512) := ⟨_, rfl⟩
  obtain ⟨hr2, hcap, hcap2⟩ := readsF_take hr (m := m) (by omega)
  have hP := put_any h 0 m f (.slice av m cv) hr2 hf (by omega)
  rw [hm, fill_eq h.2.2, ← hm] at hP
  have C := count_any h
  have P : Hid (Calls Try.prog 31 #[.pointer (some ⟨db, 0, none⟩), .int .u64 ((0 : Nat) : Int), .slice av m cv] w fun e w' => e = .returned (.tuple #[]) ∧ DiskAt w' db bm (fillK K L f) ∧ Two db bm w w') := hP
  obtain ⟨c, hcc⟩ : ∃ c, K.count = c := ⟨_, rfl⟩
  have hmin : (if (c : Int) * 512 < (L : Int) then (c : Int) * 512 else (L : Int)) = (m : Nat) := by subst hcc; split <;> omega
  have hm1 : (m : Int) ≤ cv ∧ m ≤ cv := by omega
  have C2 : Hid (Calls Try.prog 12 #[.pointer (some ⟨db, 0, none⟩)] w fun e w' => e = .returned (.int .u64 (c : Nat)) ∧ w' = w) := by rw [← hcc]; exact C
  have hc5 : c ≤ 65536 := by omega
  clear hP hm hr hr2 hcc hc C h
  go_enter Try.func37, Try.ntmps37
  go_wp2_with fail
  refine C2.out.mono ?_
  rintro e w1 ⟨rfl, hw⟩
  rw [hw]
  clear hw w1
  go_wp2_with fail
  refine P.out.mono ?_
  rintro e w1 ⟨rfl, h1, t1⟩
  have X : Hid (_ ∧ _) := ⟨h1, t1⟩
  clear h1 t1
  go_wp2
  go_end0
  exact ⟨rfl, X.out.1, X.out.2⟩
end Go.Proofs.Ytkalaojbmedhjaa
