/- Flags; what a walker has. -/
import Derived.Test.YtcgjfklglckjcaaCa
import Derived.Test.YtcgjfklglckjcaaSpans
import Derived.Laws.BitsAllLaws
namespace Go.Proofs.Ytcgjfklglckjcaa
open Go.RowKit Go.Maps
set_option linter.unusedVariables false
set_option linter.unusedSimpArgs false
set_option maxRecDepth 100000
theorem ne_cast (m : Nat) : (((m : Int)) != 0) = !decide (m = 0) := by
  by_cases h : m = 0
  · subst h; rfl
  · simp [h]
theorem hasf1 (da dl df dx : Nat) (hf : df ≤ 65535) (w : World) : Calls Try.prog 36 #[.agg #[.int .u64 (da : Int), .int .u32 (dl : Int), .int .u16 (df : Int), .int .u16 (dx : Int)], .int .u16 1] w fun e w' => e = .returned (.bool (fl df 1)) ∧ Below w.heap.size w w' := by
  have hb : Below w.heap.size w (w.alloc (.cells #[.int .u64 (da : Int), .int .u32 (dl : Int), .int .u16 (df : Int), .int .u16 (dx : Int)] 92)) := (Below.refl _ _).alloc (Nat.le_refl _) _
  have HB : Hid (Below w.heap.size w (w.alloc (.cells #[.int .u64 (da : Int), .int .u32 (dl : Int), .int .u16 (df : Int), .int .u16 (dx : Int)] 92))) := hb
  have h1 := fl_and df 0
  obtain ⟨m, hm⟩ : ∃ m, m = df &&& 1 := ⟨_, rfl⟩
  have e1 : bits .and .u16 (df : Int) 1 = (m : Int) := by rw [hm]; exact u16_and_nat df 1 (by omega) (by omega)
  have h2 : fl df 1 = !decide (m = 0) := by rw [hm]; simp only [Nat.reducePow] at h1; rw [h1]; simp
  rw [h2]
  have h3 : decide ((m : Int) = 0) = decide (m = 0) := by
    by_cases hh : m = 0
    · simp [hh]
    · simp [hh]
  clear hb hm h1 h2 hf
  go_enter Try.func36, Try.ntmps36
  go_wp2_with fail
  go_ret
  exact ⟨by rw [ne_cast]; rfl, HB.out⟩
theorem flag1 (da dl df dx : Nat) (hf : df ≤ 65535) (w : World) : Calls Try.prog 39 #[.agg #[.int .u64 (da : Int), .int .u32 (dl : Int), .int .u16 (df : Int), .int .u16 (dx : Int)], .int .u16 1] w fun e w' => e = .returned (.bool (fl df 1)) ∧ Below w.heap.size w w' := by
  have hb : Below w.heap.size w (w.alloc (.cells #[.int .u64 (da : Int), .int .u32 (dl : Int), .int .u16 (df : Int), .int .u16 (dx : Int)] 92)) := (Below.refl _ _).alloc (Nat.le_refl _) _
  have HB : Hid (Below w.heap.size w (w.alloc (.cells #[.int .u64 (da : Int), .int .u32 (dl : Int), .int .u16 (df : Int), .int .u16 (dx : Int)] 92))) := hb
  obtain ⟨m, hm⟩ : ∃ m, m = df / 1 % 2 := ⟨_, rfl⟩
  have h2 : fl df 1 = decide (m = 1) := by rw [hm]; rfl
  rw [h2]
  clear hb h2
  have hz : m = 0 ∨ m = 1 := by omega
  go_enter Try.func39, Try.ntmps39
  go_wp2_with fail
  go_ret
  refine ⟨?_, HB.out⟩
  subst hm
  rcases hz with h | h
  · rw [h]; simp; omega
  · rw [h]; simp; omega
theorem hasf2 (da dl df dx : Nat) (hf : df ≤ 65535) (w : World) : Calls Try.prog 36 #[.agg #[.int .u64 (da : Int), .int .u32 (dl : Int), .int .u16 (df : Int), .int .u16 (dx : Int)], .int .u16 2] w fun e w' => e = .returned (.bool (fl df 2)) ∧ Below w.heap.size w w' := by
  have hb : Below w.heap.size w (w.alloc (.cells #[.int .u64 (da : Int), .int .u32 (dl : Int), .int .u16 (df : Int), .int .u16 (dx : Int)] 92)) := (Below.refl _ _).alloc (Nat.le_refl _) _
  have HB : Hid (Below w.heap.size w (w.alloc (.cells #[.int .u64 (da : Int), .int .u32 (dl : Int), .int .u16 (df : Int), .int .u16 (dx : Int)] 92))) := hb
  have h1 := fl_and df 1
  obtain ⟨m, hm⟩ : ∃ m, m = df &&& 2 := ⟨_, rfl⟩
  have e1 : bits .and .u16 (df : Int) 2 = (m : Int) := by rw [hm]; exact u16_and_nat df 2 (by omega) (by omega)
  have h2 : fl df 2 = !decide (m = 0) := by rw [hm]; simp only [Nat.reducePow] at h1; rw [h1]; simp
  rw [h2]
  have h3 : decide ((m : Int) = 0) = decide (m = 0) := by
    by_cases hh : m = 0
    · simp [hh]
    · simp [hh]
  clear hb hm h1 h2 hf
  go_enter Try.func36, Try.ntmps36
  go_wp2_with fail
  go_ret
  exact ⟨by rw [ne_cast]; rfl, HB.out⟩
theorem flag2 (da dl df dx : Nat) (hf : df ≤ 65535) (w : World) : Calls Try.prog 39 #[.agg #[.int .u64 (da : Int), .int .u32 (dl : Int), .int .u16 (df : Int), .int .u16 (dx : Int)], .int .u16 2] w fun e w' => e = .returned (.bool (fl df 2)) ∧ Below w.heap.size w w' := by
  have hb : Below w.heap.size w (w.alloc (.cells #[.int .u64 (da : Int), .int .u32 (dl : Int), .int .u16 (df : Int), .int .u16 (dx : Int)] 92)) := (Below.refl _ _).alloc (Nat.le_refl _) _
  have HB : Hid (Below w.heap.size w (w.alloc (.cells #[.int .u64 (da : Int), .int .u32 (dl : Int), .int .u16 (df : Int), .int .u16 (dx : Int)] 92))) := hb
  obtain ⟨m, hm⟩ : ∃ m, m = df / 2 % 2 := ⟨_, rfl⟩
  have h2 : fl df 2 = decide (m = 1) := by rw [hm]; rfl
  rw [h2]
  clear hb h2
  have hz : m = 0 ∨ m = 1 := by omega
  go_enter Try.func39, Try.ntmps39
  go_wp2_with fail
  go_ret
  refine ⟨?_, HB.out⟩
  subst hm
  rcases hz with h | h
  · rw [h]; simp; omega
  · rw [h]; simp; omega
theorem hasf4 (da dl df dx : Nat) (hf : df ≤ 65535) (w : World) : Calls Try.prog 36 #[.agg #[.int .u64 (da : Int), .int .u32 (dl : Int), .int .u16 (df : Int), .int .u16 (dx : Int)], .int .u16 4] w fun e w' => e = .returned (.bool (fl df 4)) ∧ Below w.heap.size w w' := by
  have hb : Below w.heap.size w (w.alloc (.cells #[.int .u64 (da : Int), .int .u32 (dl : Int), .int .u16 (df : Int), .int .u16 (dx : Int)] 92)) := (Below.refl _ _).alloc (Nat.le_refl _) _
  have HB : Hid (Below w.heap.size w (w.alloc (.cells #[.int .u64 (da : Int), .int .u32 (dl : Int), .int .u16 (df : Int), .int .u16 (dx : Int)] 92))) := hb
  have h1 := fl_and df 2
  obtain ⟨m, hm⟩ : ∃ m, m = df &&& 4 := ⟨_, rfl⟩
  have e1 : bits .and .u16 (df : Int) 4 = (m : Int) := by rw [hm]; exact u16_and_nat df 4 (by omega) (by omega)
  have h2 : fl df 4 = !decide (m = 0) := by rw [hm]; simp only [Nat.reducePow] at h1; rw [h1]; simp
  rw [h2]
  have h3 : decide ((m : Int) = 0) = decide (m = 0) := by
    by_cases hh : m = 0
    · simp [hh]
    · simp [hh]
  clear hb hm h1 h2 hf
  go_enter Try.func36, Try.ntmps36
  go_wp2_with fail
  go_ret
  exact ⟨by rw [ne_cast]; rfl, HB.out⟩
theorem flag4 (da dl df dx : Nat) (hf : df ≤ 65535) (w : World) : Calls Try.prog 39 #[.agg #[.int .u64 (da : Int), .int .u32 (dl : Int), .int .u16 (df : Int), .int .u16 (dx : Int)], .int .u16 4] w fun e w' => e = .returned (.bool (fl df 4)) ∧ Below w.heap.size w w' := by
  have hb : Below w.heap.size w (w.alloc (.cells #[.int .u64 (da : Int), .int .u32 (dl : Int), .int .u16 (df : Int), .int .u16 (dx : Int)] 92)) := (Below.refl _ _).alloc (Nat.le_refl _) _
  have HB : Hid (Below w.heap.size w (w.alloc (.cells #[.int .u64 (da : Int), .int .u32 (dl : Int), .int .u16 (df : Int), .int .u16 (dx : Int)] 92))) := hb
  obtain ⟨m, hm⟩ : ∃ m, m = df / 4 % 2 := ⟨_, rfl⟩
  have h2 : fl df 4 = decide (m = 1) := by rw [hm]; rfl
  rw [h2]
  clear hb h2
  have hz : m = 0 ∨ m = 1 := by omega
  go_enter Try.func39, Try.ntmps39
  go_wp2_with fail
  go_ret
  refine ⟨?_, HB.out⟩
  subst hm
  rcases hz with h | h
  · rw [h]; simp; omega
  · rw [h]; simp; omega
end Go.Proofs.Ytcgjfklglckjcaa
