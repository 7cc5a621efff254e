/- Package plic's calls Take, Line and Done. -/
import Derived.Test.YtpedollliahldaaDoorPb
namespace Go.Proofs.YtpedollliahldaaDoor
open Go.RowKit
set_option linter.unusedVariables false
set_option linter.unusedSimpArgs false
set_option maxRecDepth 100000
theorem clr_num (x n : Nat) (hx : x < 4294967296) (hn : n < 32) : bits .andNot .u32 (x : Int) ((2 ^ n : Nat) : Int) = ((setB x n false : Nat) : Int) := by
  rw [u32_andNot_nat _ _ hx (pow_lt hn), clr_eq x n hx hn]
theorem set_num (x n : Nat) (hx : x < 4294967296) (hn : n < 32) : bits .or .u32 (x : Int) ((2 ^ n : Nat) : Int) = ((setB x n true : Nat) : Int) := by
  rw [u32_or_nat _ _ hx (pow_lt hn), set_eq x n]
theorem take_no (b : Nat) (c : Int) (h : (decide (0 ≤ c) && decide (c < 2)) = false) (w : World) : Calls Tryd.prog 9 #[.pointer (some ⟨b, 0, none⟩), .int .i64 c] w fun e w' => e = .returned (.int .i64 0) ∧ w' = w := by
  have hc := context_any c
  rw [h] at hc
  clear h
  go_enter Tryd.func9, Tryd.ntmps9
  go_wp2_with (go_at_call 16; refine (hc _).mono ?_; rintro e w' ⟨rfl, rfl⟩)
  go_ret
  exact ⟨rfl, rfl⟩
/-- a box behind a call of its own, and what else is as it was -/
def In (t : TypeId) (w : World) (b : Nat) (C : Array Value) (V : World) : Prop := Box t V b C ∧ Upon b w V
theorem In.step {t : TypeId} {w V V' : World} {b : Nat} {C : Array Value} (h : In t w b C V) (hb : Below V.heap.size V V') : In t w b C V' := ⟨h.1.step hb, h.2.trans (Upon.of_below hb)⟩
theorem In.drew {t : TypeId} {w V : World} {b : Nat} {C : Array Value} (h : In t w b C V) : In t w b C V.drew := h.step (Below.drew (Below.refl _ _))
theorem In.set {t : TypeId} {w V : World} {b : Nat} {C : Array Value} (h : In t w b C V) (i : Nat) (v : Value) : In t w b (C.setIfInBounds i v) (V.setCell ⟨b, i, none⟩ v) := ⟨h.1.set i v, h.2.set i v⟩
theorem In.waits {w V : World} {b : Nat} {S : St} (h : In 28 w b (progC S) V) (x : Nat) : In 28 w b (progC { S with waits := x }) (V.setCell ⟨b, 33, none⟩ (.int .u32 (x : Nat))) := by
  have h2 := h.set 33 (.int .u32 (x : Nat))
  rw [progC_waits] at h2
  exact h2
theorem In.high {w V : World} {b : Nat} {S : St} (h : In 28 w b (progC S) V) (x : Nat) : In 28 w b (progC { S with high := x }) (V.setCell ⟨b, 32, none⟩ (.int .u32 (x : Nat))) := by
  have h2 := h.set 32 (.int .u32 (x : Nat))
  rw [progC_high] at h2
  exact h2
theorem In.serv {w V : World} {b : Nat} {S : St} (h : In 28 w b (progC S) V) (x : Nat) : In 28 w b (progC { S with serv := x }) (V.setCell ⟨b, 34, none⟩ (.int .u32 (x : Nat))) := by
  have h2 := h.set 34 (.int .u32 (x : Nat))
  rw [progC_serv] at h2
  exact h2
set_option maxHeartbeats 2000000 in
theorem take_any (b c : Nat) (hc : c < 2) (S : St) (hS : S.Ok) (w : World) (hx : Box 28 w b (progC S)) (ht : TabLies w) : Calls Tryd.prog 9 #[.pointer (some ⟨b, 0, none⟩), .int .i64 (c : Int)] w fun e w' => e = .returned (.int .i64 (firstN S c : Nat)) ∧ Box 28 w' b (progC (takeS S c)) ∧ Upon b w w' := by
  have hcc := context_any (c : Int)
  rw [show (decide (0 ≤ (c : Int)) && decide ((c : Int) < 2)) = true from by simp; omega] at hcc
  have hf := first_any b c hc S hS w hx ht
  have hbt := bit_any (firstN S c) (firstN_lt S c)
  have hn1 := clr_num S.waits (firstN S c) hS.2.2.1 (firstN_lt S c)
  have hn2 := set_num S.serv (firstN S c) hS.2.2.2.1 (firstN_lt S c)
  have HX : Hid (In 28 w b (progC S) w) := ⟨hx, Upon.refl _ _⟩
  by_cases h0 : firstN S c = 0
  · rw [h0] at hf ⊢
    have HR : Hid (takeS S c = S) := by show takeS S c = S; unfold takeS; rw [if_pos h0]
    clear h0 hx ht hS hc hbt hn1 hn2
    generalize mostN S.prio 0 = mm at *
    go_enter Tryd.func9, Tryd.ntmps9
    go_wp2_with fail
    refine (hcc _).mono ?_
    rintro e w' ⟨rfl, hw⟩
    rw [hw]
    clear hw w'
    go_wp2_with fail
    refine hf.mono ?_
    rintro e w1 ⟨rfl, hb1⟩
    have X1 : Hid (In 28 w b (progC S) w1) := HX.out.step hb1
    clear hb1
    go_wp2_with fail
    go_ret
    exact ⟨rfl, by rw [HR.out]; exact X1.out.1, X1.out.2⟩
  · have HR : Hid (takeS S c = takenS S (firstN S c)) := by show takeS S c = _; unfold takeS; rw [if_neg h0]
    have hne : ((firstN S c : Nat) : Int) ≠ 0 := by omega
    have hne2 : (((firstN S c : Nat) : Int) != 0) = true := by simp; omega
    clear h0 hx ht hS hc
    generalize hqn : firstN S c = n at *
    generalize mostN S.prio n = mm at *
    generalize hqb : ((2 ^ n : Nat) : Int) = bb at *
    clear hqb hqn
    go_enter Tryd.func9, Tryd.ntmps9
    go_wp2_with fail
    refine (hcc _).mono ?_
    rintro e w' ⟨rfl, hw⟩
    rw [hw]
    clear hw w'
    go_wp2_with fail
    refine hf.mono ?_
    rintro e w1 ⟨rfl, hb1⟩
    have X1 : Hid (In 28 w b (progC S) w1) := HX.out.step hb1
    clear hb1
    go_upto_region 5 with fail
    have f2 : w1.cell? ⟨b, 33, none⟩ = some (.int .u32 (S.waits : Nat)) := X1.out.1.prog 33 (by omega)
    go_region_with (go_at_call 18; refine (hbt _).mono ?_; rintro e w2 ⟨rfl, hb2⟩; have X2 : Hid (In 28 w b (progC S) w2) := X1.out.drew.step hb2; clear hb2; have g2 : w2.cell? ⟨b, 33, none⟩ = some (.int .u32 (S.waits : Nat)) := X2.out.1.prog 33 (by omega); have z2 := X2.out.1.frozen 33)
    all_goals have X3 : Hid (In 28 w b (progC { S with waits := setB S.waits n false }) (w2.setCell ⟨b, 33, none⟩ (.int .u32 (setB S.waits n false : Nat)))) := X2.out.waits _
    all_goals generalize w2.setCell ⟨b, 33, none⟩ (.int .u32 (setB S.waits n false : Nat)) = w3 at *
    all_goals clear X1 X2 f2 g2 z2 hn1 hcc hf
    all_goals
      go_upto_region 6 with fail
      have f4 : w3.cell? ⟨b, 34, none⟩ = some (.int .u32 (S.serv : Nat)) := X3.out.1.prog 34 (by omega)
      go_region_with (go_at_call 18; refine (hbt _).mono ?_; rintro e w4 ⟨rfl, hb4⟩; have X4 : Hid (In 28 w b (progC { S with waits := setB S.waits n false }) w4) := X3.out.drew.step hb4; clear hb4; have g4 : w4.cell? ⟨b, 34, none⟩ = some (.int .u32 (S.serv : Nat)) := X4.out.1.prog 34 (by omega); have z4 := X4.out.1.frozen 34)
      all_goals have X5 : Hid (In 28 w b (progC (takenS S n)) (w4.setCell ⟨b, 34, none⟩ (.int .u32 (setB S.serv n true : Nat)))) := X4.out.serv _
      all_goals generalize w4.setCell ⟨b, 34, none⟩ (.int .u32 (setB S.serv n true : Nat)) = w5 at *
      all_goals clear X3 X4 f4 g4 z4 hn2
      all_goals
        go_wp2_with fail
        go_ret
        exact ⟨rfl, by rw [HR.out]; exact X5.out.1, X5.out.2⟩
theorem line_no (b : Nat) (n : Int) (v : Bool) (h : (decide (1 ≤ n) && decide (n < 32)) = false) (w : World) : Calls Tryd.prog 10 #[.pointer (some ⟨b, 0, none⟩), .int .i64 n, .bool v] w fun e w' => e = .returned (.tuple #[]) ∧ w' = w := by
  have hc := source_any n
  rw [h] at hc
  clear h
  go_enter Tryd.func10, Tryd.ntmps10
  go_wp2_with (go_at_call 19; refine (hc _).mono ?_; rintro e w' ⟨rfl, rfl⟩)
  refine bodyPost_ret (results_none rfl _ _ _) rfl ?_
  exact ⟨rfl, rfl⟩
set_option maxHeartbeats 2000000 in
theorem line_any (b n : Nat) (v : Bool) (h1 : 1 ≤ n) (h2 : n < 32) (S : St) (hS : S.Ok) (w : World) (hx : Box 28 w b (progC S)) : Calls Tryd.prog 10 #[.pointer (some ⟨b, 0, none⟩), .int .i64 (n : Int), .bool v] w fun e w' => e = .returned (.tuple #[]) ∧ Box 28 w' b (progC (lineS S n v)) ∧ Upon b w w' := by
  have hcc := source_any (n : Int)
  rw [show (decide (1 ≤ (n : Int)) && decide ((n : Int) < 32)) = true from by simp; omega] at hcc
  have hbt := bit_any n h2
  have hn1 := clr_num S.high n hS.2.1 h2
  have hn2 := set_num S.high n hS.2.1 h2
  have X1 : Hid (In 28 w b (progC S) w) := ⟨hx, Upon.refl _ _⟩
  have HK : Hid (({ S with high := setB S.high n true } : St).Ok) := high_ok hS n true h2
  clear hx hS h1 h2
  generalize hqb : ((2 ^ n : Nat) : Int) = bb at *
  clear hqb
  cases v
  · clear hn2
    go_enter Tryd.func10, Tryd.ntmps10
    go_wp2_with fail
    refine (hcc _).mono ?_
    rintro e w' ⟨rfl, hw⟩
    rw [hw]
    clear hw w'
    go_upto_region 2 with fail
    have f2 : w.cell? ⟨b, 32, none⟩ = some (.int .u32 (S.high : Nat)) := X1.out.1.prog 32 (by omega)
    go_region_with (go_at_call 18; refine (hbt _).mono ?_; rintro e w2 ⟨rfl, hb2⟩; have X2 : Hid (In 28 w b (progC S) w2) := X1.out.drew.step hb2; clear hb2; have g2 : w2.cell? ⟨b, 32, none⟩ = some (.int .u32 (S.high : Nat)) := X2.out.1.prog 32 (by omega); have z2 := X2.out.1.frozen 32)
    all_goals have X3 : Hid (In 28 w b (progC (lineS S n false)) (w2.setCell ⟨b, 32, none⟩ (.int .u32 (setB S.high n false : Nat)))) := X2.out.high _
    all_goals generalize w2.setCell ⟨b, 32, none⟩ (.int .u32 (setB S.high n false : Nat)) = w3 at *
    all_goals clear X1 X2 f2 g2 z2 hn1 hcc
    all_goals
      go_wp2_with fail
      refine bodyPost_ret (results_none rfl _ _ _) rfl ?_
      exact ⟨rfl, X3.out⟩
  · clear hn1
    go_enter Tryd.func10, Tryd.ntmps10
    go_wp2_with fail
    refine (hcc _).mono ?_
    rintro e w' ⟨rfl, hw⟩
    rw [hw]
    clear hw w'
    go_upto_region 3 with fail
    have f2 : w.cell? ⟨b, 32, none⟩ = some (.int .u32 (S.high : Nat)) := X1.out.1.prog 32 (by omega)
    go_region_with (go_at_call 18; refine (hbt _).mono ?_; rintro e w2 ⟨rfl, hb2⟩; have X2 : Hid (In 28 w b (progC S) w2) := X1.out.drew.step hb2; clear hb2; have g2 : w2.cell? ⟨b, 32, none⟩ = some (.int .u32 (S.high : Nat)) := X2.out.1.prog 32 (by omega); have z2 := X2.out.1.frozen 32)
    all_goals have X3 : Hid (In 28 w b (progC { S with high := setB S.high n true }) (w2.setCell ⟨b, 32, none⟩ (.int .u32 (setB S.high n true : Nat)))) := X2.out.high _
    all_goals generalize w2.setCell ⟨b, 32, none⟩ (.int .u32 (setB S.high n true : Nat)) = w3 at *
    all_goals clear X1 X2 f2 g2 z2 hn2 hcc
    all_goals
      go_wp2_with fail
      refine (rouse_any b _ HK.out _ X3.out.1).mono ?_
      rintro e w4 ⟨rfl, hb4, hu4⟩
      have X4 : Hid (In 28 w b (progC (lineS S n true)) w4) := ⟨hb4, X3.out.2.trans hu4⟩
      clear hb4 hu4 X3
      go_wp2_with fail
      first | go_end0 | refine bodyPost_ret (results_none rfl _ _ _) rfl ?_
      exact ⟨rfl, X4.out⟩
end Go.Proofs.YtpedollliahldaaDoor
