/- The calls of layer 2 on one memory: New, Size, Has, Write, Read, Load, Store. -/
import Derived.Test.YtcgjfklglckjcaaGet
namespace Go.Proofs.Ytcgjfklglckjcaa
open Go.RowKit Go.Maps
set_option linter.unusedVariables false
def rightB (s : Nat) : Bool := decide (4096 ≤ s ∧ s ≤ 268435456 ∧ s % 4096 = 0)
def widB (n : Int) : Bool := decide (n = 1 ∨ n = 2 ∨ n = 4 ∨ n = 8)
theorem size_any {w : World} {F : Nat → Prop} {rb size n : Nat} {lg : Value} {M : Nat → Nat} (h : RamAt w F rb size n lg M) :
    Calls Try.prog 41 #[.pointer (some ⟨rb, 0, none⟩)] w fun e w' => e = .returned (.int .u64 (size : Nat)) ∧ w' = w := by
  have hc := h.cells.1
  go_enter Try.func41, Try.ntmps41
  go_wp2
  go_ret
  exact ⟨rfl, rfl⟩
theorem has_any {w : World} {F : Nat → Prop} {rb size n : Nat} {lg : Value} {M : Nat → Nat} (h : RamAt w F rb size n lg M) (hs : size ≤ 268435456) (x L : Nat) (hx : x < 18446744073709551616) (hL : L < 18446744073709551616) :
    Calls Try.prog 55 #[.pointer (some ⟨rb, 0, none⟩), .int .u64 (x : Nat), .int .u64 (L : Nat)] w fun e w' => e = .returned (.bool (inB x L 2147483648 size)) ∧ w' = w := by
  go_enter Try.func55, Try.ntmps55
  go_wp2_with (first | (go_at_call 41; refine (size_any h).mono ?_; rintro e w' ⟨rfl, rfl⟩) | (go_at_call 65; refine (within_any _ _ _ _ (by omega) (by omega) (by omega) (by omega) _).mono ?_; rintro e w' ⟨rfl, rfl⟩))
  go_ret
  exact ⟨rfl, rfl⟩
theorem new_no (s : Nat) (hs : s < 18446744073709551616) (h : rightB s = false) (w : World) :
    Calls Try.prog 30 #[.int .u64 (s : Nat)] w fun e w' => e = .returned (.tuple #[.pointer none, .int .i64 20]) ∧ w' = w := by
  have h' : ¬ (4096 ≤ s ∧ s ≤ 268435456 ∧ s % 4096 = 0) := by simpa [rightB] using h
  by_cases h1 : (s : Int) < 4096
  · go_enter Try.func30, Try.ntmps30
    go_wp2_with (first | (go_at_call 52; refine (aligned_pos _ _ (by omega) (by omega) _).mono ?_; rintro e w' ⟨rfl, rfl⟩))
    go_ret2
    exact ⟨rfl, rfl⟩
  by_cases h2 : (268435456 : Int) < s
  · go_enter Try.func30, Try.ntmps30
    go_wp2_with (first | (go_at_call 52; refine (aligned_pos _ _ (by omega) (by omega) _).mono ?_; rintro e w' ⟨rfl, rfl⟩))
    go_ret2
    exact ⟨rfl, rfl⟩
  have h3 : (((s : Int) % 4096) == 0) = false := by simp; omega
  have H : Hid ((((s : Int) % 4096) == 0) = false) := h3
  clear h h' h3
  go_enter Try.func30, Try.ntmps30
  go_wp2_with (first | (go_at_call 52; refine (aligned_pos _ _ (by omega) (by omega) _).mono ?_; rintro e w' ⟨rfl, rfl⟩; rw [H.out]))
  go_ret2
  exact ⟨rfl, rfl⟩
theorem new_yes (s : Nat) (h : rightB s = true) (w : World) :
    Calls Try.prog 30 #[.int .u64 (s : Nat)] w fun e w' => ∃ rb F, e = .returned (.tuple #[.pointer (some ⟨rb, 0, none⟩), .int .i64 0]) ∧ RamAt w' F rb s 0 (.pointer none) (fun _ => 0) ∧ (∀ k, F k → w.heap.size ≤ k) ∧ Below w.heap.size w w' := by
  have h' : 4096 ≤ s ∧ s ≤ 268435456 ∧ s % 4096 = 0 := by simpa [rightB] using h
  have h1 : ¬ (s : Int) < 4096 := by omega
  have h2 : ¬ (268435456 : Int) < s := by omega
  have h3 : (((s : Int) % 4096) == 0) = true := by simp; omega
  have H : Hid ((((s : Int) % 4096) == 0) = true) := h3
  clear h h' h3
  have hmm := @run_makeMap Try.prog
  go_enter Try.func30, Try.ntmps30
  go_wp2_with (first | (go_at_call 52; refine (aligned_pos _ _ (by omega) (by omega) _).mono ?_; rintro e w' ⟨rfl, rfl⟩; rw [H.out]))
  go_ret2
  refine ⟨w'.heap.size + 1, fun k => k = w'.heap.size ∨ k = w'.heap.size + 1, rfl, ⟨w'.heap.size, fun _ => none, .map [], ?_, ?_, paged_made, ?_, ?_, ?_, .inr rfl, .inl rfl, ?_, ?_, ?_⟩, ?_, ?_⟩
  · have := heap_alloc_new (w'.alloc (.map #[] 0)) (.cells #[.int .u64 (s : Nat), .map (some w'.heap.size), .pointer none] 103)
    simpa using this
  · exact (World.ownsMap_made w' Try.prog 23 ptrElem).alloc _
  · intro k b hk; cases hk
  · intro k _ i _; rfl
  · intro k k' b hk; cases hk
  · intro k b hk; cases hk
  · rintro k (rfl | rfl) <;> simp <;> omega
  · intro a; exact Nat.zero_le _
  · rintro k (rfl | rfl) <;> omega
  · exact ((Below.refl _ _).alloc (Nat.le_refl _) _).alloc (by simp) _
theorem watched_nil {w : World} {F : Nat → Prop} {rb size n : Nat} {M : Nat → Nat} (h : RamAt w F rb size n (.pointer none) M) (L : Nat) (hL : L < 18446744073709551616) :
    Calls Try.prog 68 #[.pointer (some ⟨rb, 0, none⟩), .int .u64 (L : Nat)] w fun e w' => e = .returned (.bool false) ∧ w' = w := by
  have hc := h.cells.2
  by_cases h0 : (0 : Int) < L
  · go_enter Try.func68, Try.ntmps68
    go_wp2
    go_ret
    exact ⟨rfl, rfl⟩
  · go_enter Try.func68, Try.ntmps68
    go_wp2
    go_ret
    exact ⟨rfl, rfl⟩
theorem tellWrite_nil {w : World} {F : Nat → Prop} {rb size n : Nat} {M : Nat → Nat} (h : RamAt w F rb size n (.pointer none) M) (x : Value) (L : Nat) (hL : L < 18446744073709551616) :
    Calls Try.prog 57 #[.pointer (some ⟨rb, 0, none⟩), x, .int .u64 (L : Nat)] w fun e w' => e = .returned (.tuple #[]) ∧ w' = w := by
  go_enter Try.func57, Try.ntmps57
  go_wp2_with (first | (go_at_call 68; refine (watched_nil h L hL).mono ?_; rintro e w' ⟨rfl, rfl⟩))
  go_end0
  exact ⟨rfl, rfl⟩
theorem tellRead_nil {w : World} {F : Nat → Prop} {rb size n : Nat} {M : Nat → Nat} (h : RamAt w F rb size n (.pointer none) M) (x : Value) (L : Nat) (hL : L < 18446744073709551616) :
    Calls Try.prog 64 #[.pointer (some ⟨rb, 0, none⟩), x, .int .u64 (L : Nat)] w fun e w' => e = .returned (.tuple #[]) ∧ w' = w := by
  go_enter Try.func64, Try.ntmps64
  go_wp2_with (first | (go_at_call 68; refine (watched_nil h L hL).mono ?_; rintro e w' ⟨rfl, rfl⟩))
  go_end0
  exact ⟨rfl, rfl⟩
theorem ReadsF.form {F : Nat → Prop} {w : World} {v : Value} {n : Nat} {f : Nat → Nat} (h : ReadsF F w v n f) : ∃ a cap, v = .slice a n cap ∧ n ≤ 9223372036854775807 := by
  rcases h with ⟨rfl, a, cap, _, rfl⟩ | ⟨b, off, cap, rfl, _, h1, h2, _⟩
  · exact ⟨a, cap, rfl, by omega⟩
  · exact ⟨_, _, rfl, by omega⟩
set_option maxHeartbeats 400000 in
theorem write_any {w : World} {F : Nat → Prop} {rb size n : Nat} {M : Nat → Nat} (h : RamAt w F rb size n (.pointer none) M) (hs : size ≤ 268435456) (x L : Nat) (f : Nat → Nat) (v : Value) (hx : x < 18446744073709551616) (hr : ReadsF F w v L f) (hf : ∀ i, i < L → f i ≤ 255) (hn : n + L ≤ 1000000) :
    Calls Try.prog 32 #[.pointer (some ⟨rb, 0, none⟩), .int .u64 (x : Nat), v] w fun e w' => e = .returned (.bool (inB x L 2147483648 size)) ∧ ∃ F', RamAt w' F' rb size (n + L) (.pointer none) (if inB x L 2147483648 size = true then over M x L f else M) ∧ Step F w F' w' := by
  obtain ⟨a, cap, rfl, hL⟩ := hr.form
  cases hin : inB x L 2147483648 size with
  | true =>
    rw [if_pos rfl]
    have hb : (2147483648 : Int) ≤ x ∧ (x : Int) + L ≤ 2147483648 + size := by simpa [inB] using hin
    have H : Hid (inB x L 2147483648 size = true) := hin
    clear hin
    go_enter Try.func32, Try.ntmps32
    go_wp2_with (first | (go_at_call 55; refine (has_any h hs x L hx (by omega)).mono ?_; rintro e w' ⟨rfl, rfl⟩; rw [H.out]) | (go_at_call 56; refine (put_any h x L f _ hr hf (by omega) hn).mono ?_; rintro e w1 ⟨rfl, F1, h1, hs1⟩) | (go_at_call 57; refine (tellWrite_nil h1 _ L (by omega)).mono ?_; rintro e w' ⟨rfl, rfl⟩))
    go_ret
    exact ⟨rfl, F1, h1, hs1⟩
  | false =>
    rw [if_neg (by simp)]
    have H : Hid (inB x L 2147483648 size = false) := hin
    clear hin
    go_enter Try.func32, Try.ntmps32
    go_wp2_with (first | (go_at_call 55; refine (has_any h hs x L hx (by omega)).mono ?_; rintro e w' ⟨rfl, rfl⟩; rw [H.out]))
    go_ret
    exact ⟨rfl, F, h.mono (by omega), Step.refl _ _⟩
theorem reads_ownF {F : Nat → Prop} {w : World} {base : Nat} {v : Value} {n : Nat} {f : Nat → Nat} (h : w.ownsRow base 5 1 v n (rowK .u8 f n)) (hF : ∀ k, F k → k < base) : ReadsF F w v n f := by
  rcases h.2 with ⟨rfl, rfl⟩ | ⟨g, cap, cur, rfl, hb, _, h1, h2, _⟩
  · exact .inl ⟨rfl, _, _, by omega, rfl⟩
  · refine .inr ⟨g, 0, cap, rfl, fun hf => by have := hF g hf; omega, h1, by unfold maxLen at h2; omega, fun i hi => by rw [Nat.zero_add, h.cellAt i (by omega)]; exact rowK_get _ _ _ _ hi⟩
end Go.Proofs.Ytcgjfklglckjcaa
