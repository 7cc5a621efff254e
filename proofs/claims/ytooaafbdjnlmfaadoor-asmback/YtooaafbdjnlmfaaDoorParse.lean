/- The call parseDigits of layer 1 reads the number of a text's digits, or none. -/
import Derived.Test.YtooaafbdjnlmfaaDoorDigits
namespace Go.Proofs.YtooaafbdjnlmfaaDoor
open Go.RowKit
/-- byte k of a text -/
def fB (s : ByteArray) (k : Nat) : Nat := if h : k < s.size then (s[k]'h).toNat else 0
theorem fB_at (s : ByteArray) (k : Nat) (h : k < s.size) : fB s k = s[k].toNat := by simp [fB, h]
theorem fB_le (s : ByteArray) (k : Nat) : fB s k ≤ 255 := by
  unfold fB; split
  · have := (s[k]).toNat_lt; omega
  · omega
/-- the number of the first k digits, if all are digits of the base and it has at most 64 bits -/
def pdig (base : Nat) (s : ByteArray) : Nat → Option Nat
  | 0 => some 0
  | k + 1 => match pdig base s k with
    | none => none
    | some v => if dg (fB s k) < base ∧ v * base + dg (fB s k) < 18446744073709551616 then some (v * base + dg (fB s k)) else none
theorem pdig_ok {base : Nat} {s : ByteArray} {k v : Nat} (h : pdig base s k = some v) (h1 : dg (fB s k) < base) (h2 : v * base + dg (fB s k) < 18446744073709551616) : pdig base s (k + 1) = some (v * base + dg (fB s k)) := by
  rw [pdig, h]; simp only; rw [if_pos ⟨h1, h2⟩]
theorem pdig_bad {base : Nat} {s : ByteArray} {k v : Nat} (h : pdig base s k = some v) (h1 : ¬ (dg (fB s k) < base ∧ v * base + dg (fB s k) < 18446744073709551616)) : pdig base s (k + 1) = none := by
  rw [pdig, h]; simp only; rw [if_neg h1]
theorem pdig_none {base : Nat} {s : ByteArray} {k : Nat} : ∀ {n : Nat}, pdig base s k = none → k ≤ n → pdig base s n = none
  | 0, h, hk => by obtain rfl : k = 0 := by omega
                   exact h
  | n + 1, h, hk => by
    by_cases e : k = n + 1
    · subst e; exact h
    · rw [pdig, pdig_none (n := n) h (by omega)]
/-- the number of all digits; 0: none -/
def pnum (base : Nat) (s : ByteArray) : Nat := (pdig base s s.size).getD 0
/-- is the text a number? -/
def pok (base : Nat) (s : ByteArray) : Bool := (pdig base s s.size).isSome && decide (s.size ≠ 0)
theorem p_bad {base : Nat} {s : ByteArray} {k : Nat} (h : pdig base s k = none) (hk : k ≤ s.size) : pnum base s = 0 ∧ pok base s = false := by
  unfold pnum pok; rw [pdig_none h hk]; simp
theorem p_end {base : Nat} {s : ByteArray} {v : Nat} (h : pdig base s s.size = some v) : pnum base s = v ∧ pok base s = decide (s.size ≠ 0) := by
  unfold pnum pok; rw [h]; simp
theorem ne_empty (s : ByteArray) : (!s.toList.isEmpty) = decide (s.size ≠ 0) := by
  rw [ByteArray.toList_eq]
  have h : s.size = s.data.toList.length := by rw [Array.length_toList]; rfl
  rw [h]
  cases s.data.toList <;> simp
set_option maxHeartbeats 1000000 in
theorem pd_ten (s : ByteArray) (hs : s.size ≤ 9223372036854775807) (w : World) :
    Calls Tryd.prog 84 #[.string s, .int .u64 10] w fun e w' => e = .returned (.tuple #[.int .u64 (pnum 10 s : Nat), .bool (pok 10 s)]) ∧ w' = w := by
  go_enter Tryd.func84, Tryd.ntmps84
  go_wp2
  go_loop [6, 15] (fun x i => ∃ k v : Nat, k ≤ s.size ∧ v < 18446744073709551616 ∧ i = .int .i64 k ∧ x = .int .u64 v ∧ Hid (pdig 10 s k = some v)) (fun _ i => s.size - (intOf i).toNat)
  case atStart => exact ⟨0, 0, by omega, by omega, rfl, rfl, rfl⟩
  case round =>
    obtain ⟨k, v, hk, hv, rfl, rfl, HP⟩ := hrel
    by_cases hlt : k < s.size
    · have HB : Hid (fB s k = s[k].toNat) := fB_at s k hlt
      have hb255 : s[k].toNat ≤ 255 := by have := (s[k]).toNat_lt; omega
      have hdg := dg_le s[k].toNat
      have HOK : Hid (∀ d, dg s[k].toNat = d → d < 10 → v * 10 + d < 18446744073709551616 → pdig 10 s (k + 1) = some (v * 10 + d)) := by
        intro d hd h1 h2
        have e : dg (fB s k) = d := by rw [HB.out]; exact hd
        have := pdig_ok (base := 10) HP.out (by rw [e]; exact h1) (by rw [e]; exact h2)
        rw [e] at this; exact this
      have HBAD : Hid (∀ d, dg s[k].toNat = d → ¬ (d < 10 ∧ v * 10 + d < 18446744073709551616) → pnum 10 s = 0 ∧ pok 10 s = false) := by
        intro d hd h1
        have e : dg (fB s k) = d := by rw [HB.out]; exact hd
        exact p_bad (pdig_bad (base := 10) HP.out (by rw [e]; exact h1)) (by omega)
      have hcall : ∀ w, Calls Tryd.prog 91 #[.int .u8 (s[k].toNat : Int)] w fun e w' => e = .returned (.int .u64 (dg s[k].toNat : Nat)) ∧ w' = w := fun w => digit_any _ hb255 w
      generalize hD : dg s[k].toNat = d at *
      have HD : Hid (dg s[k].toNat = d) := hD
      clear hD
      have hkk : (k : Int) < s.size := by omega
      have hadd : ∀ w, (callFunc 93 #[.int .u64 ((v : Int) * 10 % 18446744073709551616), .int .u64 (d : Int), .int .u64 0]).run Tryd.prog w = .ok (.value (.tuple #[.int .u64 (((v : Int) * 10 % 18446744073709551616 + d) % 18446744073709551616), .int .u64 (((v : Int) * 10 % 18446744073709551616 + d) / 18446744073709551616)])) w := fun w => add64_run _ _ (by omega) (by omega) w
      by_cases h1 : d < 10
      · by_cases h2 : v * 10 + d < 18446744073709551616
        · have HV := HOK.out d rfl h1 h2
          have e1 : ((v : Int) * 10 % 18446744073709551616 + d) % 18446744073709551616 = (v : Int) * 10 + d := by omega
          have e2 : ((v : Int) * 10 % 18446744073709551616 + d) / 18446744073709551616 = 0 := by omega
          have e3 : (v : Int) * 10 / 18446744073709551616 = 0 := by omega
          rw [e1, e2] at hadd
          have HV2 : Hid (pdig 10 s (k + 1) = some (v * 10 + d)) := HV
          clear HV e1 e2 HOK HBAD
          go_wp2_with (first | (go_at_call 91; refine (hcall _).mono ?_; rintro e w' ⟨rfl, rfl⟩) | (go_at_call 92; refine (mul_ten v hv _).mono ?_; rintro e w' ⟨rfl, rfl⟩))
          go_round
          case rel => exact ⟨k + 1, v * 10 + d, by omega, by omega, by go_num, by go_num, HV2⟩
          case measure => simp [intOf]; omega
        · have Q : Hid (pnum 10 s = 0 ∧ pok 10 s = false) := HBAD.out d rfl (by omega)
          clear HOK HBAD
          by_cases h3 : 18446744073709551616 ≤ v * 10
          · have e3 : ((v : Int) * 10 / 18446744073709551616 != 0) = true := by simp; omega
            go_wp2_with (first | (go_at_call 91; refine (hcall _).mono ?_; rintro e w' ⟨rfl, rfl⟩) | (go_at_call 92; refine (mul_ten v hv _).mono ?_; rintro e w' ⟨rfl, rfl⟩))
            go_ret2
            exact ⟨by rw [Q.out.1, Q.out.2]; rfl, rfl⟩
          · have e3 : (v : Int) * 10 / 18446744073709551616 = 0 := by omega
            have e4 : (((v : Int) * 10 % 18446744073709551616 + d) / 18446744073709551616 != 0) = true := by simp; omega
            go_wp2_with (first | (go_at_call 91; refine (hcall _).mono ?_; rintro e w' ⟨rfl, rfl⟩) | (go_at_call 92; refine (mul_ten v hv _).mono ?_; rintro e w' ⟨rfl, rfl⟩))
            go_ret2
            exact ⟨by rw [Q.out.1, Q.out.2]; rfl, rfl⟩
      · have Q : Hid (pnum 10 s = 0 ∧ pok 10 s = false) := HBAD.out d rfl (by omega)
        clear HOK HBAD
        go_wp2_with (first | (go_at_call 91; refine (hcall _).mono ?_; rintro e w' ⟨rfl, rfl⟩) | (go_at_call 92; refine (mul_ten v hv _).mono ?_; rintro e w' ⟨rfl, rfl⟩))
        go_ret2
        exact ⟨by rw [Q.out.1, Q.out.2]; rfl, rfl⟩
    · obtain rfl : k = s.size := by omega
      have Q : Hid (_ ∧ _) := p_end HP.out
      go_wp2
      go_ret2
      refine ⟨?_, rfl⟩
      rw [Q.out.1, Q.out.2]
      refine ret_tup rfl ?_
      rw [← ne_empty]
      rfl
set_option maxHeartbeats 1000000 in
theorem pd_16 (s : ByteArray) (hs : s.size ≤ 9223372036854775807) (w : World) :
    Calls Tryd.prog 84 #[.string s, .int .u64 16] w fun e w' => e = .returned (.tuple #[.int .u64 (pnum 16 s : Nat), .bool (pok 16 s)]) ∧ w' = w := by
  go_enter Tryd.func84, Tryd.ntmps84
  go_wp2
  go_loop [6, 15] (fun x i => ∃ k v : Nat, k ≤ s.size ∧ v < 18446744073709551616 ∧ i = .int .i64 k ∧ x = .int .u64 v ∧ Hid (pdig 16 s k = some v)) (fun _ i => s.size - (intOf i).toNat)
  case atStart => exact ⟨0, 0, by omega, by omega, rfl, rfl, rfl⟩
  case round =>
    obtain ⟨k, v, hk, hv, rfl, rfl, HP⟩ := hrel
    by_cases hlt : k < s.size
    · have HB : Hid (fB s k = s[k].toNat) := fB_at s k hlt
      have hb255 : s[k].toNat ≤ 255 := by have := (s[k]).toNat_lt; omega
      have hdg := dg_le s[k].toNat
      have HOK : Hid (∀ d, dg s[k].toNat = d → d < 16 → v * 16 + d < 18446744073709551616 → pdig 16 s (k + 1) = some (v * 16 + d)) := by
        intro d hd h1 h2
        have e : dg (fB s k) = d := by rw [HB.out]; exact hd
        have := pdig_ok (base := 16) HP.out (by rw [e]; exact h1) (by rw [e]; exact h2)
        rw [e] at this; exact this
      have HBAD : Hid (∀ d, dg s[k].toNat = d → ¬ (d < 16 ∧ v * 16 + d < 18446744073709551616) → pnum 16 s = 0 ∧ pok 16 s = false) := by
        intro d hd h1
        have e : dg (fB s k) = d := by rw [HB.out]; exact hd
        exact p_bad (pdig_bad (base := 16) HP.out (by rw [e]; exact h1)) (by omega)
      have hcall : ∀ w, Calls Tryd.prog 91 #[.int .u8 (s[k].toNat : Int)] w fun e w' => e = .returned (.int .u64 (dg s[k].toNat : Nat)) ∧ w' = w := fun w => digit_any _ hb255 w
      generalize hD : dg s[k].toNat = d at *
      have HD : Hid (dg s[k].toNat = d) := hD
      clear hD
      have hkk : (k : Int) < s.size := by omega
      have hadd : ∀ w, (callFunc 93 #[.int .u64 ((v : Int) * 16 % 18446744073709551616), .int .u64 (d : Int), .int .u64 0]).run Tryd.prog w = .ok (.value (.tuple #[.int .u64 (((v : Int) * 16 % 18446744073709551616 + d) % 18446744073709551616), .int .u64 (((v : Int) * 16 % 18446744073709551616 + d) / 18446744073709551616)])) w := fun w => add64_run _ _ (by omega) (by omega) w
      by_cases h1 : d < 16
      · by_cases h2 : v * 16 + d < 18446744073709551616
        · have HV := HOK.out d rfl h1 h2
          have e1 : ((v : Int) * 16 % 18446744073709551616 + d) % 18446744073709551616 = (v : Int) * 16 + d := by omega
          have e2 : ((v : Int) * 16 % 18446744073709551616 + d) / 18446744073709551616 = 0 := by omega
          have e3 : (v : Int) * 16 / 18446744073709551616 = 0 := by omega
          rw [e1, e2] at hadd
          have HV2 : Hid (pdig 16 s (k + 1) = some (v * 16 + d)) := HV
          clear HV e1 e2 HOK HBAD
          go_wp2_with (first | (go_at_call 91; refine (hcall _).mono ?_; rintro e w' ⟨rfl, rfl⟩) | (go_at_call 92; refine (mul_16 v hv _).mono ?_; rintro e w' ⟨rfl, rfl⟩))
          go_round
          case rel => exact ⟨k + 1, v * 16 + d, by omega, by omega, by go_num, by go_num, HV2⟩
          case measure => simp [intOf]; omega
        · have Q : Hid (pnum 16 s = 0 ∧ pok 16 s = false) := HBAD.out d rfl (by omega)
          clear HOK HBAD
          by_cases h3 : 18446744073709551616 ≤ v * 16
          · have e3 : ((v : Int) * 16 / 18446744073709551616 != 0) = true := by simp; omega
            go_wp2_with (first | (go_at_call 91; refine (hcall _).mono ?_; rintro e w' ⟨rfl, rfl⟩) | (go_at_call 92; refine (mul_16 v hv _).mono ?_; rintro e w' ⟨rfl, rfl⟩))
            go_ret2
            exact ⟨by rw [Q.out.1, Q.out.2]; rfl, rfl⟩
          · exfalso; omega
      · have Q : Hid (pnum 16 s = 0 ∧ pok 16 s = false) := HBAD.out d rfl (by omega)
        clear HOK HBAD
        go_wp2_with (first | (go_at_call 91; refine (hcall _).mono ?_; rintro e w' ⟨rfl, rfl⟩) | (go_at_call 92; refine (mul_16 v hv _).mono ?_; rintro e w' ⟨rfl, rfl⟩))
        go_ret2
        exact ⟨by rw [Q.out.1, Q.out.2]; rfl, rfl⟩
    · obtain rfl : k = s.size := by omega
      have Q : Hid (_ ∧ _) := p_end HP.out
      go_wp2
      go_ret2
      refine ⟨?_, rfl⟩
      rw [Q.out.1, Q.out.2]
      refine ret_tup rfl ?_
      rw [← ne_empty]
      rfl
end Go.Proofs.YtooaafbdjnlmfaaDoor
