/- Package disk's small calls: New, Count, Locked, Requests, Flushes, Fail, request, there. -/
import Derived.Test.YtkalaojbmedhjaaGc
namespace Go.Proofs.Ytkalaojbmedhjaa
open Go.RowKit Go.Maps
set_option linter.unusedVariables false
set_option linter.unusedSimpArgs false
set_option maxRecDepth 100000
section
variable {w : World} {db bm : Nat} {K : Dk}
theorem DiskAt.c0 (h : DiskAt w db bm K) : w.cell? ⟨db, 0, none⟩ = some (.int .u64 (K.count : Nat)) := h.1.cell 0 _ rfl
theorem DiskAt.c1 (h : DiskAt w db bm K) : w.cell? ⟨db, 1, none⟩ = some (.bool K.locked) := h.1.cell 1 _ rfl
theorem DiskAt.c2 (h : DiskAt w db bm K) : w.cell? ⟨db, 2, none⟩ = some (.map (some bm)) := h.1.cell 2 _ rfl
theorem DiskAt.c3 (h : DiskAt w db bm K) : w.cell? ⟨db, 3, none⟩ = some (.int .u64 (K.reqs : Nat)) := h.1.cell 3 _ rfl
theorem DiskAt.c4 (h : DiskAt w db bm K) : w.cell? ⟨db, 4, none⟩ = some (.int .u64 (K.fl : Nat)) := h.1.cell 4 _ rfl
theorem DiskAt.c5 (h : DiskAt w db bm K) : w.cell? ⟨db, 5, none⟩ = some (.int .u64 (K.fail : Nat)) := h.1.cell 5 _ rfl
end
theorem count_any {w : World} {db bm : Nat} {K : Dk} (h : DiskAt w db bm K) : Calls Try.prog 12 #[.pointer (some ⟨db, 0, none⟩)] w fun e w' => e = .returned (.int .u64 (K.count : Nat)) ∧ w' = w := by
  have c := h.c0
  go_enter Try.func12, Try.ntmps12
  go_wp2
  go_ret
  exact ⟨rfl, rfl⟩
theorem locked_any {w : World} {db bm : Nat} {K : Dk} (h : DiskAt w db bm K) : Calls Try.prog 13 #[.pointer (some ⟨db, 0, none⟩)] w fun e w' => e = .returned (.bool K.locked) ∧ w' = w := by
  have c := h.c1
  go_enter Try.func13, Try.ntmps13
  go_wp2
  go_ret
  exact ⟨rfl, rfl⟩
theorem requests_any {w : World} {db bm : Nat} {K : Dk} (h : DiskAt w db bm K) : Calls Try.prog 14 #[.pointer (some ⟨db, 0, none⟩)] w fun e w' => e = .returned (.int .u64 (K.reqs : Nat)) ∧ w' = w := by
  have c := h.c3
  go_enter Try.func14, Try.ntmps14
  go_wp2
  go_ret
  exact ⟨rfl, rfl⟩
theorem flushes_any {w : World} {db bm : Nat} {K : Dk} (h : DiskAt w db bm K) : Calls Try.prog 27 #[.pointer (some ⟨db, 0, none⟩)] w fun e w' => e = .returned (.int .u64 (K.fl : Nat)) ∧ w' = w := by
  have c := h.c4
  go_enter Try.func27, Try.ntmps27
  go_wp2
  go_ret
  exact ⟨rfl, rfl⟩
theorem fail_any {w : World} {db bm : Nat} {K : Dk} (h : DiskAt w db bm K) (n : Nat) (hn : n < 18446744073709551616) : Calls Try.prog 20 #[.pointer (some ⟨db, 0, none⟩), .int .u64 (n : Nat)] w fun e w' => e = .returned (.tuple #[]) ∧ DiskAt w' db bm (failK K n) ∧ Two db bm w w' := by
  have c := h.c5
  have fz := h.1.frozen 5
  have H : Hid (DiskAt w db bm K) := h
  clear h
  go_enter Try.func20, Try.ntmps20
  go_wp2
  go_end0
  have hu : Upon db w (w.setCell ⟨db, 5, none⟩ (.int .u64 (n : Nat))) := (Upon.refl _ _).set 5 _
  exact ⟨rfl, H.out.cells rfl rfl (failK_ok H.out.2.2 n hn) (H.out.1.set 5 _) hu, Two.of_upon hu⟩
set_option maxHeartbeats 1000000 in
theorem request_any {w : World} {db bm : Nat} {K : Dk} (h : DiskAt w db bm K) : Calls Try.prog 29 #[.pointer (some ⟨db, 0, none⟩)] w fun e w' => e = .returned (.int .i64 (askE K : Nat)) ∧ DiskAt w' db bm (askK K) ∧ Two db bm w w' := by
  have c3 := h.c3
  have c5 := h.c5
  have f3 := h.1.frozen 3
  have f5 := h.1.frozen 5
  have hi := inc_num K.reqs
  have hK := askK_ok h.2.2
  have h5 := h.2.2.fai
  have H : Hid (DiskAt w db bm K) := h
  have HK : Hid (askK K).Ok := hK
  clear h hK
  rcases Nat.lt_or_ge K.fail 1 with h0 | h0
  · have e0 : K.fail = 0 := by omega
    have HE : Hid (askE K = 0 ∧ askK K = { K with reqs := inc K.reqs, fail := 0 }) := ⟨by unfold askE; rw [if_neg (by omega)], by unfold askK; rw [e0]⟩
    rw [e0] at c5
    clear h0 e0 h5
    go_enter Try.func29, Try.ntmps29
    go_wp2
    go_ret
    have hu : Upon db w (w.setCell ⟨db, 3, none⟩ (.int .u64 (inc K.reqs : Nat))) := (Upon.refl _ _).set 3 _
    refine ⟨by rw [HE.out.1]; rfl, H.out.cells rfl rfl HK.out ?_ hu, Two.of_upon hu⟩
    have := H.out.1.set 3 (.int .u64 (inc K.reqs : Nat))
    have e5 : K.fail = 0 := by have := congrArg Dk.fail HE.out.2; simp [askK] at this; have c := H.out.c5; rw [c5] at c; simp at c; omega
    rw [HE.out.2]
    simpa [diskC, e5] using this
  · have hd := show IntKind.u64.wrap ((K.fail : Int) - 1) = ((K.fail - 1 : Nat) : Int) from by rw [wrap_u64]; omega
    have n0 : ((K.fail : Int) == 0) = false := by simp; omega
    have hu : Upon db w ((w.setCell ⟨db, 3, none⟩ (.int .u64 (inc K.reqs : Nat))).setCell ⟨db, 5, none⟩ (.int .u64 ((K.fail - 1 : Nat) : Int))) := ((Upon.refl _ _).set 3 _).set 5 _
    have hx : Box 60 ((w.setCell ⟨db, 3, none⟩ (.int .u64 (inc K.reqs : Nat))).setCell ⟨db, 5, none⟩ (.int .u64 ((K.fail - 1 : Nat) : Int))) db (diskC (askK K) bm) := (H.out.1.set 3 (.int .u64 (inc K.reqs : Nat))).set 5 (.int .u64 ((K.fail - 1 : Nat) : Int))
    have HX : Hid (_ ∧ _) := ⟨hu, hx⟩
    clear hu hx
    rcases Nat.lt_or_ge K.fail 2 with h1 | h1
    · have HE : Hid (askE K = 133) := by show askE K = 133; unfold askE; rw [if_pos (by omega)]
      have n1 : (((K.fail - 1 : Nat) : Int) == 0) = true := by simp; omega
      generalize K.fail - 1 = q at *
      clear h0 h1 h5
      go_enter Try.func29, Try.ntmps29
      go_wp2
      go_ret
      exact ⟨by rw [HE.out]; rfl, H.out.cells rfl rfl HK.out HX.out.2 HX.out.1, Two.of_upon HX.out.1⟩
    · have HE : Hid (askE K = 0) := by show askE K = 0; unfold askE; rw [if_neg (by omega)]
      have n1 : (((K.fail - 1 : Nat) : Int) == 0) = false := by simp; omega
      generalize K.fail - 1 = q at *
      clear h0 h1 h5
      go_enter Try.func29, Try.ntmps29
      go_wp2
      go_ret
      exact ⟨by rw [HE.out]; rfl, H.out.cells rfl rfl HK.out HX.out.2 HX.out.1, Two.of_upon HX.out.1⟩
theorem there_any {w : World} {db bm : Nat} {K : Dk} (h : DiskAt w db bm K) (x n : Nat) (hx : x < 18446744073709551616) (hn : n < 18446744073709551616) : Calls Try.prog 30 #[.pointer (some ⟨db, 0, none⟩), .int .u64 (x : Nat), .int .u64 (n : Nat)] w fun e w' => e = .returned (.int .i64 (pieceE K.count x n : Nat)) ∧ w' = w := by
  have c0 := h.c0
  have hc := h.2.2.cnt
  by_cases h1 : n % 512 = 0
  · have H1 : Hid (((n : Int) % 512 == 0) = true) := by show _ = _; simp; omega
    have hq : (n : Int) / 512 = ((n / 512 : Nat) : Int) := by omega
    by_cases h2 : x ≤ K.count ∧ n / 512 ≤ K.count - x
    · have H2 : Hid (inB (x : Int) ((n / 512 : Nat) : Int) 0 (K.count : Int) = true) := by show _ = _; simp only [inB, decide_eq_true_eq]; omega
      have HE : Hid (pieceE K.count x n = 0) := by show _ = _; unfold pieceE; rw [if_neg (by omega), if_pos h2]
      have hb : n / 512 ≤ 65536 := by omega
      generalize n / 512 = q at *
      clear h1 h2
      go_enter Try.func30, Try.ntmps30
      go_wp2_with (first | (go_at_call 40; refine (aligned_pos _ _ (by omega) (by omega) _).mono ?_; rintro e w1 ⟨rfl, hw⟩; rw [hw]; clear hw w1; rw [H1.out]) | (go_at_call 41; refine (within_any _ _ _ _ (by omega) (by omega) (by omega) (by omega) _).mono ?_; rintro e w1 ⟨rfl, hw⟩; rw [hw]; clear hw w1; rw [H2.out]))
      go_ret
      exact ⟨by rw [HE.out]; rfl, rfl⟩
    · have H2 : Hid (inB (x : Int) ((n / 512 : Nat) : Int) 0 (K.count : Int) = false) := by show _ = _; simp only [inB, decide_eq_false_iff_not]; omega
      have HE : Hid (pieceE K.count x n = 131) := by show _ = _; unfold pieceE; rw [if_neg (by omega), if_neg h2]
      have hb : n / 512 < 18446744073709551616 := by omega
      generalize n / 512 = q at *
      clear h1 h2
      go_enter Try.func30, Try.ntmps30
      go_wp2_with (first | (go_at_call 40; refine (aligned_pos _ _ (by omega) (by omega) _).mono ?_; rintro e w1 ⟨rfl, hw⟩; rw [hw]; clear hw w1; rw [H1.out]) | (go_at_call 41; refine (within_any _ _ _ _ (by omega) (by omega) (by omega) (by omega) _).mono ?_; rintro e w1 ⟨rfl, hw⟩; rw [hw]; clear hw w1; rw [H2.out]))
      go_ret
      exact ⟨by rw [HE.out]; rfl, rfl⟩
  · have H1 : Hid (((n : Int) % 512 == 0) = false) := by show _ = _; simp; omega
    have HE : Hid (pieceE K.count x n = 20) := by show _ = _; unfold pieceE; rw [if_pos h1]
    clear h1
    go_enter Try.func30, Try.ntmps30
    go_wp2_with (first | (go_at_call 40; refine (aligned_pos _ _ (by omega) (by omega) _).mono ?_; rintro e w1 ⟨rfl, hw⟩; rw [hw]; clear hw w1; rw [H1.out]))
    go_ret
    exact ⟨by rw [HE.out]; rfl, rfl⟩
/-- as it begins -/
def newK (c : Nat) (l : Bool) : Dk := ⟨c, l, 0, 0, 0, fun _ => 0⟩
theorem newK_ok (c : Nat) (l : Bool) (h : c ≤ 65536) : (newK c l).Ok := ⟨h, by show (0 : Nat) < _; omega, by show (0 : Nat) < _; omega, by show (0 : Nat) < _; omega, fun a => Nat.zero_le _, fun a _ => rfl⟩
theorem new_no (c : Nat) (l : Bool) (hc : c < 18446744073709551616) (h : c < 1 ∨ 65536 < c) (w : World) : Calls Try.prog 11 #[.int .u64 (c : Nat), .bool l] w fun e w' => e = .returned (.tuple #[.pointer none, .int .i64 130]) ∧ w' = w := by
  rcases h with h | h
  · have h1 : decide ((c : Int) < 1) = true := by simp; omega
    go_enter Try.func11, Try.ntmps11
    go_wp2
    go_ret2
    exact ⟨rfl, rfl⟩
  · have h1 : decide ((c : Int) < 1) = false := by simp; omega
    have h2 : decide ((65536 : Int) < c) = true := by simp; omega
    clear h
    go_enter Try.func11, Try.ntmps11
    go_wp2
    go_ret2
    exact ⟨rfl, rfl⟩
theorem new_yes (c : Nat) (l : Bool) (h1 : 1 ≤ c) (h2 : c ≤ 65536) (w : World) : Calls Try.prog 11 #[.int .u64 (c : Nat), .bool l] w fun e w' => ∃ db bm, e = .returned (.tuple #[.pointer (some ⟨db, 0, none⟩), .int .i64 0]) ∧ DiskAt w' db bm (newK c l) ∧ w.heap.size ≤ db ∧ w.heap.size ≤ bm ∧ Below w.heap.size w w' := by
  have e1 : decide ((c : Int) < 1) = false := by simp; omega
  have e2 : decide ((65536 : Int) < c) = false := by simp; omega
  have hmm := @run_makeMap Try.prog
  go_enter Try.func11, Try.ntmps11
  go_wp2
  go_ret2
  refine ⟨w.heap.size + 1, w.heap.size, rfl, ⟨?_, ⟨.map [], ((World.ownsMap_made w Try.prog 26 secElem).alloc _).mono (Nat.zero_le _), sect_made⟩, newK_ok c l h2⟩, by omega, Nat.le_refl _, ((Below.refl _ _).alloc (Nat.le_refl _) _).alloc (by simp) _⟩
  rw [show w.heap.size + 1 = (w.alloc (.map #[] 0)).heap.size from by simp]
  exact Box.new 60 (w.alloc (.map #[] 0)) (diskC (newK c l) w.heap.size)
end Go.Proofs.Ytkalaojbmedhjaa
