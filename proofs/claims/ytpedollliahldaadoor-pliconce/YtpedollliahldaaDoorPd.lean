/- Package plic's calls Done and Lines. -/
import Derived.Test.YtpedollliahldaaDoorPc
namespace Go.Proofs.YtpedollliahldaaDoor
open Go.RowKit
set_option linter.unusedVariables false
set_option linter.unusedSimpArgs false
set_option maxRecDepth 100000
theorem below_drewN {B : Nat} {W w : World} (h : Below B W w) (k : Nat) : Below B W (w.drewN k) := by
  induction k with
  | zero => exact h
  | succ k ih => exact Below.drew ih
theorem and_yes (x n : Nat) (hx : x < 4294967296) (hn : n < 32) (h : x.testBit n = true) : bits .and .u32 (x : Int) ((2 ^ n : Nat) : Int) = ((2 ^ n : Nat) : Int) := by
  rw [u32_and_nat _ _ hx (pow_lt hn)]
  congr 1
  apply Nat.eq_of_testBit_eq
  intro j
  rw [Nat.testBit_and, Nat.testBit_two_pow]
  by_cases e : n = j
  · subst e; simp [h]
  · simp [e]
theorem and_no (x n : Nat) (hx : x < 4294967296) (hn : n < 32) (h : x.testBit n = false) : bits .and .u32 (x : Int) ((2 ^ n : Nat) : Int) = 0 := by
  rw [u32_and_nat _ _ hx (pow_lt hn)]
  have : x &&& 2 ^ n = 0 := by
    apply Nat.eq_of_testBit_eq
    intro j
    rw [Nat.testBit_and, Nat.testBit_two_pow, Nat.zero_testBit]
    by_cases e : n = j
    · subst e; simp [h]
    · simp [e]
  rw [this]; rfl
theorem Box.lets {w : World} {b : Nat} {S : St} (h : Box 28 w b (progC S)) (c : Nat) (hc : c < 2) : w.cell? ⟨b, 35 + c, none⟩ = some (.int .u32 (S.lets c : Nat)) := by
  rw [h.prog (35 + c) (by omega)]
  simp [progF, show 35 + c < 37 from by omega, show ¬ 35 + c < 32 from by omega, show ¬ 35 + c = 32 from by omega, show ¬ 35 + c = 33 from by omega, show ¬ 35 + c = 34 from by omega]
theorem Box.least {w : World} {b : Nat} {S : St} (h : Box 28 w b (progC S)) (c : Nat) (hc : c < 2) : w.cell? ⟨b, 37 + c, none⟩ = some (.int .u32 (S.least c : Nat)) := by
  rw [h.prog (37 + c) (by omega)]
  simp [progF, show ¬ 37 + c < 37 from by omega, show ¬ 37 + c < 32 from by omega, show ¬ 37 + c = 32 from by omega, show ¬ 37 + c = 33 from by omega, show ¬ 37 + c = 34 from by omega]
theorem Box.prio {w : World} {b : Nat} {S : St} (h : Box 28 w b (progC S)) (i : Nat) (hi : i < 32) : w.cell? ⟨b, i, none⟩ = some (.int .u32 (S.prio i : Nat)) := by
  rw [h.prog i (by omega)]
  simp [progF, hi]
theorem done_ctx (b : Nat) (c n : Int) (h : (decide (0 ≤ c) && decide (c < 2)) = false) (w : World) : Calls Tryd.prog 11 #[.pointer (some ⟨b, 0, none⟩), .int .i64 c, .int .i64 n] w fun e w' => e = .returned (.tuple #[]) ∧ Below w.heap.size w w' := by
  have hc := context_any c
  rw [h] at hc
  clear h
  go_enter Tryd.func11, Tryd.ntmps11
  go_wp2_with fail
  go_quiet ((go_at_call 16; exact Calls.quiet_of_same (hc _)))
  go_wp2_with fail
  refine bodyPost_ret (results_none rfl _ _ _) rfl ?_
  exact ⟨rfl, below_drewN (Below.refl _ _) _⟩
theorem done_src (b c : Nat) (n : Int) (hc2 : c < 2) (h : (decide (1 ≤ n) && decide (n < 32)) = false) (w : World) : Calls Tryd.prog 11 #[.pointer (some ⟨b, 0, none⟩), .int .i64 (c : Int), .int .i64 n] w fun e w' => e = .returned (.tuple #[]) ∧ Below w.heap.size w w' := by
  have hc := context_any (c : Int)
  rw [show (decide (0 ≤ (c : Int)) && decide ((c : Int) < 2)) = true from by simp; omega] at hc
  have hs := source_any n
  rw [h] at hs
  clear h hc2
  go_enter Tryd.func11, Tryd.ntmps11
  go_wp2_with fail
  go_quiet (first | (go_at_call 16; exact Calls.quiet_of_same (hc _)) | (go_at_call 19; exact Calls.quiet_of_same (hs _)))
  go_wp2_with fail
  refine bodyPost_ret (results_none rfl _ _ _) rfl ?_
  exact ⟨rfl, below_drewN (Below.refl _ _) _⟩
set_option maxHeartbeats 2000000 in
theorem done_any (b c n : Nat) (hc2 : c < 2) (h1 : 1 ≤ n) (h2 : n < 32) (S : St) (hS : S.Ok) (w : World) (hx : Box 28 w b (progC S)) : Calls Tryd.prog 11 #[.pointer (some ⟨b, 0, none⟩), .int .i64 (c : Int), .int .i64 (n : Int)] w fun e w' => e = .returned (.tuple #[]) ∧ Box 28 w' b (progC (doneS S c n)) ∧ Upon b w w' := by
  have hc := context_any (c : Int)
  rw [show (decide (0 ≤ (c : Int)) && decide ((c : Int) < 2)) = true from by simp; omega] at hc
  have hs := source_any (n : Int)
  rw [show (decide (1 ≤ (n : Int)) && decide ((n : Int) < 32)) = true from by simp; omega] at hs
  have hbt := bit_any n h2
  have hn1 := clr_num S.serv n hS.2.2.2.1 h2
  have X0 : Hid (In 28 w b (progC S) w) := ⟨hx, Upon.refl _ _⟩
  have HK : Hid (({ S with serv := setB S.serv n false } : St).Ok) := serv_ok hS n false h2
  have f0 := hx.lets c hc2
  have hci : (c : Int) < 2 := by omega
  have HC : Hid (c < 2) := hc2
  cases hl : (S.lets c).testBit n
  · have ha := and_no _ n (hS.2.2.2.2.1 c) h2 hl
    have HR : Hid (doneS S c n = S) := by show doneS S c n = S; unfold doneS; rw [hl]; rfl
    clear hx hS h1 h2 hl hc2 hn1 HK
    generalize hqb : ((2 ^ n : Nat) : Int) = bb at *
    clear hqb
    go_enter Tryd.func11, Tryd.ntmps11
    go_wp2_with fail
    go_region_held3 (fun V => V.cell? ⟨b, 35 + c, none⟩ = some (.int .u32 (S.lets c : Nat))) (go_keep) (first | (go_at_call 16; refine (hc _).mono ?_; rintro e w' ⟨rfl, hw⟩; rw [hw]; clear hw w') | (go_at_call 19; refine (hs _).mono ?_; rintro e w' ⟨rfl, hw⟩; rw [hw]; clear hw w') | (go_at_call 18; refine (hbt _).mono ?_; rintro e w1 ⟨rfl, hb1⟩; have X1 : Hid (In 28 w b (progC S) w1) := X0.out.drew.step hb1; clear hb1; have p0 := X1.out.1.lets c HC.out))
    go_wp2_with fail
    refine bodyPost_ret (results_none rfl _ _ _) rfl ?_
    exact ⟨rfl, by rw [HR.out]; exact X1.out.1, X1.out.2⟩
  · have ha := and_yes _ n (hS.2.2.2.2.1 c) h2 hl
    have HR : Hid (doneS S c n = gateS { S with serv := setB S.serv n false }) := by show doneS S c n = _; unfold doneS; rw [hl]; rfl
    have hbb : (((2 ^ n : Nat) : Int) == 0) = false := by
      have := Nat.two_pow_pos n
      generalize 2 ^ n = q at *
      simp; omega
    clear hx hS h1 h2 hl hc2
    generalize hqb : ((2 ^ n : Nat) : Int) = bb at *
    clear hqb
    go_enter Tryd.func11, Tryd.ntmps11
    go_wp2_with fail
    go_region_held3 (fun V => V.cell? ⟨b, 35 + c, none⟩ = some (.int .u32 (S.lets c : Nat))) (go_keep) (first | (go_at_call 16; refine (hc _).mono ?_; rintro e w' ⟨rfl, hw⟩; rw [hw]; clear hw w') | (go_at_call 19; refine (hs _).mono ?_; rintro e w' ⟨rfl, hw⟩; rw [hw]; clear hw w') | (go_at_call 18; refine (hbt _).mono ?_; rintro e w1 ⟨rfl, hb1⟩; have X1 : Hid (In 28 w b (progC S) w1) := X0.out.drew.step hb1; clear hb1; have p0 := X1.out.1.lets c HC.out))
    clear f0 p0 X0 ha hbb
    go_upto_region 1 with fail
    have f2 : w1.cell? ⟨b, 34, none⟩ = some (.int .u32 (S.serv : Nat)) := X1.out.1.prog 34 (by omega)
    go_region_with (go_at_call 18; refine (hbt _).mono ?_; rintro e w2 ⟨rfl, hb2⟩; have X2 : Hid (In 28 w b (progC S) w2) := X1.out.drew.step hb2; clear hb2; have g2 : w2.cell? ⟨b, 34, none⟩ = some (.int .u32 (S.serv : Nat)) := X2.out.1.prog 34 (by omega); have z2 := X2.out.1.frozen 34)
    all_goals have X3 : Hid (In 28 w b (progC { S with serv := setB S.serv n false }) (w2.setCell ⟨b, 34, none⟩ (.int .u32 (setB S.serv n false : Nat)))) := X2.out.serv _
    all_goals generalize w2.setCell ⟨b, 34, none⟩ (.int .u32 (setB S.serv n false : Nat)) = w3 at *
    all_goals clear X1 X2 f2 g2 z2 hn1 hc hs
    all_goals
      go_wp2_with fail
      refine (rouse_any b _ HK.out _ X3.out.1).mono ?_
      rintro e w4 ⟨rfl, hb4, hu4⟩
      have X4 : Hid (In 28 w b (progC (doneS S c n)) w4) := by rw [HR.out]; exact ⟨hb4, X3.out.2.trans hu4⟩
      clear hb4 hu4 X3
      go_wp2_with fail
      first | go_end0 | refine bodyPost_ret (results_none rfl _ _ _) rfl ?_
      exact ⟨rfl, X4.out⟩
theorem Below.step2 {B : Nat} {w V V' : World} (h : Below B w V) (hb : Below V.heap.size V V') (hB : B ≤ V.heap.size) : Below B w V' := h.trans (hb.mono hB)
theorem below2 {w V V' : World} (h : Below w.heap.size w V) (hb : Below V.heap.size V V') : Below w.heap.size w V' := h.trans (hb.mono h.size)
set_option maxHeartbeats 2000000 in
theorem lineof_any (b c l : Nat) (hc2 : c < 2) (hl : l < 64) (S : St) (hS : S.Ok) (w : World) (hx : Box 28 w b (progC S)) (ht : TabLies w) : Calls Tryd.prog 24 #[.pointer (some ⟨b, 0, none⟩), .int .i64 (c : Int), .int .i64 (l : Int)] w fun e w' => e = .returned (.int .u64 (lineN S c l : Nat)) ∧ Below w.heap.size w w' := by
  have hf := first_any b c hc2 S hS w hx ht
  have HX : Hid (Box 28 w b (progC S)) := hx
  have hci : (c : Int) < 2 := by omega
  have HC : Hid (c < 2) := hc2
  by_cases h : S.least c < mostN S.prio (firstN S c)
  · have HR : Hid (lineN S c l = 2 ^ l) := by show lineN S c l = _; unfold lineN; rw [if_pos h]
    have hgt : (S.least c : Int) < (mostN S.prio (firstN S c) : Nat) := by omega
    have HP : Hid (hiOf (setF (fun _ => (l : Int)) 1) 64 0 = 2 ^ l) := setF_pow l hl
    clear h hx ht hS hc2 hl
    generalize mostN S.prio (firstN S c) = mm at *
    generalize firstN S c = nn at *
    go_enter Tryd.func24, Tryd.ntmps24
    go_wp2_with fail
    refine hf.mono ?_
    rintro e w1 ⟨rfl, hb1⟩
    have f5 := (HX.out.step hb1).least c HC.out
    have X1 : Hid (Below w.heap.size w w1) := hb1
    clear hb1
    go_wp2_with fail
    refine (wbits_any (fun _ => (l : Int)) 1 (.slice (some ⟨w1.heap.size, 0, none⟩) 1 1) (by omega) _ (reads_one w1 _)).mono ?_
    rintro e w2 ⟨rfl, hw⟩
    have X2 : Hid (Below w.heap.size w w2) := by rw [hw]; exact X1.out.alloc X1.out.size _
    clear hw
    go_wp2_with fail
    go_ret
    exact ⟨by rw [HR.out, HP.out]; rfl, X2.out⟩
  · have HR : Hid (lineN S c l = 0) := by show lineN S c l = _; unfold lineN; rw [if_neg h]
    have hgt : ¬ (S.least c : Int) < (mostN S.prio (firstN S c) : Nat) := by omega
    clear h hx ht hS hc2 hl
    generalize mostN S.prio (firstN S c) = mm at *
    generalize firstN S c = nn at *
    go_enter Tryd.func24, Tryd.ntmps24
    go_wp2_with fail
    refine hf.mono ?_
    rintro e w1 ⟨rfl, hb1⟩
    have f5 := (HX.out.step hb1).least c HC.out
    have X1 : Hid (Below w.heap.size w w1) := hb1
    clear hb1
    go_wp2_with fail
    go_ret
    exact ⟨by rw [HR.out]; rfl, X1.out⟩
theorem lines_any (b : Nat) (S : St) (hS : S.Ok) (w : World) (hx : Box 28 w b (progC S)) (ht : TabLies w) : Calls Tryd.prog 13 #[.pointer (some ⟨b, 0, none⟩)] w fun e w' => e = .returned (.int .u64 (linesN S : Nat)) ∧ Below w.heap.size w w' := by
  have H0 : Hid (∀ V, Below w.heap.size w V → Calls Tryd.prog 24 #[.pointer (some ⟨b, 0, none⟩), .int .i64 0, .int .i64 11] V fun e w' => e = .returned (.int .u64 (lineN S 0 11 : Nat)) ∧ Below V.heap.size V w') := fun V h => lineof_any b 0 11 (by omega) (by omega) S hS V (hx.step h) (ht.step h)
  have H1 : Hid (∀ V, Below w.heap.size w V → Calls Tryd.prog 24 #[.pointer (some ⟨b, 0, none⟩), .int .i64 1, .int .i64 9] V fun e w' => e = .returned (.int .u64 (lineN S 1 9 : Nat)) ∧ Below V.heap.size V w') := fun V h => lineof_any b 1 9 (by omega) (by omega) S hS V (hx.step h) (ht.step h)
  have hor : bits .or .u64 (lineN S 0 11 : Int) (lineN S 1 9 : Int) = ((linesN S : Nat) : Int) := by
    have a1 : lineN S 0 11 < 18446744073709551616 := by rcases lineN_cases S 0 11 with h | h <;> rw [h] <;> decide
    have a2 : lineN S 1 9 < 18446744073709551616 := by rcases lineN_cases S 1 9 with h | h <;> rw [h] <;> decide
    rw [bits_or_u64_nat _ _ a1 a2]; rfl
  clear hx ht hS
  go_enter Tryd.func13, Tryd.ntmps13
  go_wp2_with fail
  refine (H0.out _ (Below.refl _ _)).mono ?_
  rintro e w1 ⟨rfl, hb1⟩
  have X1 : Hid (Below w.heap.size w w1) := hb1
  clear hb1
  go_wp2_with fail
  refine (H1.out _ X1.out).mono ?_
  rintro e w2 ⟨rfl, hb2⟩
  have X2 : Hid (Below w.heap.size w w2) := below2 X1.out hb2
  clear hb2
  go_wp2_with fail
  go_ret
  exact ⟨rfl, X2.out⟩
end Go.Proofs.YtpedollliahldaaDoor
