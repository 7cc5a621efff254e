/- Digits: what a digit is worth, products and sums of words, and the call parseDigits of layer 1. -/
import Derived.Test.YtooaafbdjnlmfaaGreatDoorQShelf
import Derived.WalkKit
import Derived.WalkSpells
import Derived.WalkLawsBesides
import Derived.OpenShut
import Derived.Outline
import Derived.Laws.MathBits
import Derived.Laws.Externs
import Derived.Deep.QuietTactic
import Derived.BigQuiet
import Derived.Lib.ItoaNum
import Derived.Deep.OwnRows
import Derived.Laws.IdiomStrings
import Derived.Laws.BitsAllLaws
import Derived.Lib.ItoaMem
import Derived.Lib.ItoaLen
namespace Go.Proofs.YtooaafbdjnlmfaaGreatDoor
open Go.RowKit
theorem ret_tup {a b c d : Value} (h : a = c) (k : b = d) : Ending.returned (.tuple #[a, b]) = .returned (.tuple #[c, d]) := by rw [h, k]
/-- what a sign is worth as a digit; 16: it is none -/
def dg (c : Nat) : Nat := if 48 ≤ c ∧ c ≤ 57 then c - 48 else if 97 ≤ c ∧ c ≤ 102 then c - 87 else 16
theorem dg_le (c : Nat) : dg c ≤ 16 := by unfold dg; split <;> (try split) <;> omega
theorem digit_any (c : Nat) (hc : c ≤ 255) (w : World) : Calls Tryz.prog 152 #[.int .u8 (c : Int)] w fun e w' => e = .returned (.int .u64 (dg c : Nat)) ∧ w' = w := by
  have HD : Hid (dg c = if 48 ≤ c ∧ c ≤ 57 then c - 48 else if 97 ≤ c ∧ c ≤ 102 then c - 87 else 16) := rfl
  generalize dg c = d at *
  go_enter Tryz.func152, Tryz.ntmps152
  go_wp2
  all_goals
    go_ret
    refine ⟨?_, rfl⟩
    have := HD.out
    split at this
    · subst this; simp; try omega
    · split at this
      · subst this; simp; try omega
      · subst this; simp; try omega
theorem mul_lo (x y : Nat) : IntKind.u64.wrap ((x : Int) * y) = ((x * y % 18446744073709551616 : Nat) : Int) := by
  rw [IntKind.wrap_u64]; simp
theorem and_ten : bits BinOp.and IntKind.u64 10 4294967295 = 10 := by rw [and_low32 _ (by omega) (by omega)]; decide
theorem and_16 : bits BinOp.and IntKind.u64 16 4294967295 = 16 := by rw [and_low32 _ (by omega) (by omega)]; decide
set_option maxHeartbeats 400000 in
theorem mul_ten (x : Nat) (hx : x < 18446744073709551616) (w : World) : Calls Tryz.prog 153 #[.int .u64 (x : Int), .int .u64 10] w fun e w' => e = .returned (.tuple #[.int .u64 ((x * 10 / 18446744073709551616 : Nat) : Int), .int .u64 ((x * 10 % 18446744073709551616 : Nat) : Int)]) ∧ w' = w := by
  have hm := and_low32 x (by omega) (by omega)
  have h10 := and_ten
  have hm2 := and_low32 ((x : Int) / 4294967296 * 10 + (x : Int) % 4294967296 * 10 / 4294967296) (by omega) (by omega)
  have H1 : Hid (((x : Int) / 4294967296 * 10 + (x : Int) % 4294967296 * 10 / 4294967296) / 4294967296 + ((x : Int) / 4294967296 * 10 + (x : Int) % 4294967296 * 10 / 4294967296) % 4294967296 / 4294967296 = ((x * 10 / 18446744073709551616 : Nat) : Int)) := by
    show _ = _
    omega
  have H2 : Hid _ := mul_lo x 10
  generalize ((x * 10 / 18446744073709551616 : Nat) : Int) = p at *
  generalize ((x * 10 % 18446744073709551616 : Nat) : Int) = q at *
  go_enter Tryz.func153, Tryz.ntmps153
  go_wp2
  go_ret2
  refine ⟨?_, rfl⟩
  rw [← H1.out, ← H2.out]
  rfl
set_option maxHeartbeats 400000 in
theorem mul_16 (x : Nat) (hx : x < 18446744073709551616) (w : World) : Calls Tryz.prog 153 #[.int .u64 (x : Int), .int .u64 16] w fun e w' => e = .returned (.tuple #[.int .u64 ((x * 16 / 18446744073709551616 : Nat) : Int), .int .u64 ((x * 16 % 18446744073709551616 : Nat) : Int)]) ∧ w' = w := by
  have hm := and_low32 x (by omega) (by omega)
  have h10 := and_16
  have hm2 := and_low32 ((x : Int) / 4294967296 * 16 + (x : Int) % 4294967296 * 16 / 4294967296) (by omega) (by omega)
  have H1 : Hid (((x : Int) / 4294967296 * 16 + (x : Int) % 4294967296 * 16 / 4294967296) / 4294967296 + ((x : Int) / 4294967296 * 16 + (x : Int) % 4294967296 * 16 / 4294967296) % 4294967296 / 4294967296 = ((x * 16 / 18446744073709551616 : Nat) : Int)) := by
    show _ = _
    omega
  have H2 : Hid _ := mul_lo x 16
  generalize ((x * 16 / 18446744073709551616 : Nat) : Int) = p at *
  generalize ((x * 16 % 18446744073709551616 : Nat) : Int) = q at *
  go_enter Tryz.func153, Tryz.ntmps153
  go_wp2
  go_ret2
  refine ⟨?_, rfl⟩
  rw [← H1.out, ← H2.out]
  rfl
theorem add64_run (x y : Int) (hx : 0 ≤ x) (hy : 0 ≤ y) (w : World) : (callFunc 154 #[.int .u64 x, .int .u64 y, .int .u64 0]).run Tryz.prog w =
      .ok (.value (.tuple #[.int .u64 ((x + y) % 18446744073709551616), .int .u64 ((x + y) / 18446744073709551616)])) w := by
  rw [run_callFunc_extern Tryz.func154 (by kernel_rfl) (by kernel_rfl) (by kernel_rfl) (e := add64Entry) (by kernel_rfl), run_add64 x y 0 hx hy (by omega) (by omega)]
  simp [Result.andThen]
end Go.Proofs.YtooaafbdjnlmfaaGreatDoor

namespace Go.Proofs.YtooaafbdjnlmfaaGreatDoor
open Go.RowKit
/-- byte k of a text -/
def fB (s : ByteArray) (k : Nat) : Nat := if h : k < s.size then (s[k]'h).toNat else 0
theorem fB_at (s : ByteArray) (k : Nat) (h : k < s.size) : fB s k = s[k].toNat := by simp [fB, h]
theorem fB_le (s : ByteArray) (k : Nat) : fB s k ≤ 255 := by
  unfold fB; split
  · have := (s[k]).toNat_lt; omega
  · omega
/-- the number of the first k digits, if all are digits of the base and it has at most 64 bits -/
def pdig (base : Nat) (s : ByteArray) : Nat → Option Nat
  | 0 => some 0
  | k + 1 => match pdig base s k with
    | none => none
    | some v => if dg (fB s k) < base ∧ v * base + dg (fB s k) < 18446744073709551616 then some (v * base + dg (fB s k)) else none
theorem pdig_ok {base : Nat} {s : ByteArray} {k v : Nat} (h : pdig base s k = some v) (h1 : dg (fB s k) < base) (h2 : v * base + dg (fB s k) < 18446744073709551616) : pdig base s (k + 1) = some (v * base + dg (fB s k)) := by
  rw [pdig, h]; simp only; rw [if_pos ⟨h1, h2⟩]
theorem pdig_bad {base : Nat} {s : ByteArray} {k v : Nat} (h : pdig base s k = some v) (h1 : ¬ (dg (fB s k) < base ∧ v * base + dg (fB s k) < 18446744073709551616)) : pdig base s (k + 1) = none := by
  rw [pdig, h]; simp only; rw [if_neg h1]
theorem pdig_none {base : Nat} {s : ByteArray} {k : Nat} : ∀ {n : Nat}, pdig base s k = none → k ≤ n → pdig base s n = none
  | 0, h, hk => by obtain rfl : k = 0 := by omega
                   exact h
  | n + 1, h, hk => by
    by_cases e : k = n + 1
    · subst e; exact h
    · rw [pdig, pdig_none (n := n) h (by omega)]
/-- the number of all digits; 0: none -/
def pnum (base : Nat) (s : ByteArray) : Nat := (pdig base s s.size).getD 0
/-- is the text a number? -/
def pok (base : Nat) (s : ByteArray) : Bool := (pdig base s s.size).isSome && decide (s.size ≠ 0)
theorem p_bad {base : Nat} {s : ByteArray} {k : Nat} (h : pdig base s k = none) (hk : k ≤ s.size) : pnum base s = 0 ∧ pok base s = false := by
  unfold pnum pok; rw [pdig_none h hk]; simp
theorem p_end {base : Nat} {s : ByteArray} {v : Nat} (h : pdig base s s.size = some v) : pnum base s = v ∧ pok base s = decide (s.size ≠ 0) := by
  unfold pnum pok; rw [h]; simp
theorem ne_empty (s : ByteArray) : (!s.toList.isEmpty) = decide (s.size ≠ 0) := by
  rw [ByteArray.toList_eq]
  have h : s.size = s.data.toList.length := by rw [Array.length_toList]; rfl
  rw [h]
  cases s.data.toList <;> simp
set_option maxHeartbeats 1000000 in
theorem pd_ten (s : ByteArray) (hs : s.size ≤ 9223372036854775807) (w : World) :
    Calls Tryz.prog 147 #[.string s, .int .u64 10] w fun e w' => e = .returned (.tuple #[.int .u64 (pnum 10 s : Nat), .bool (pok 10 s)]) ∧ w' = w := by
  go_enter Tryz.func147, Tryz.ntmps147
  go_wp2
  go_loop [6, 15] (fun x i => ∃ k v : Nat, k ≤ s.size ∧ v < 18446744073709551616 ∧ i = .int .i64 k ∧ x = .int .u64 v ∧ Hid (pdig 10 s k = some v)) (fun _ i => s.size - (intOf i).toNat)
  case atStart => exact ⟨0, 0, by omega, by omega, rfl, rfl, rfl⟩
  case round =>
    obtain ⟨k, v, hk, hv, rfl, rfl, HP⟩ := hrel
    by_cases hlt : k < s.size
    · have HB : Hid (fB s k = s[k].toNat) := fB_at s k hlt
      have hb255 : s[k].toNat ≤ 255 := by have := (s[k]).toNat_lt; omega
      have hdg := dg_le s[k].toNat
      have HOK : Hid (∀ d, dg s[k].toNat = d → d < 10 → v * 10 + d < 18446744073709551616 → pdig 10 s (k + 1) = some (v * 10 + d)) := by
        intro d hd h1 h2
        have e : dg (fB s k) = d := by rw [HB.out]; exact hd
        have := pdig_ok (base := 10) HP.out (by rw [e]; exact h1) (by rw [e]; exact h2)
        rw [e] at this; exact this
      have HBAD : Hid (∀ d, dg s[k].toNat = d → ¬ (d < 10 ∧ v * 10 + d < 18446744073709551616) → pnum 10 s = 0 ∧ pok 10 s = false) := by
        intro d hd h1
        have e : dg (fB s k) = d := by rw [HB.out]; exact hd
        exact p_bad (pdig_bad (base := 10) HP.out (by rw [e]; exact h1)) (by omega)
      have hcall : ∀ w, Calls Tryz.prog 152 #[.int .u8 (s[k].toNat : Int)] w fun e w' => e = .returned (.int .u64 (dg s[k].toNat : Nat)) ∧ w' = w := fun w => digit_any _ hb255 w
      generalize hD : dg s[k].toNat = d at *
      have HD : Hid (dg s[k].toNat = d) := hD
      clear hD
      have hkk : (k : Int) < s.size := by omega
      have hadd : ∀ w, (callFunc 154 #[.int .u64 ((v : Int) * 10 % 18446744073709551616), .int .u64 (d : Int), .int .u64 0]).run Tryz.prog w = .ok (.value (.tuple #[.int .u64 (((v : Int) * 10 % 18446744073709551616 + d) % 18446744073709551616), .int .u64 (((v : Int) * 10 % 18446744073709551616 + d) / 18446744073709551616)])) w := fun w => add64_run _ _ (by omega) (by omega) w
      by_cases h1 : d < 10
      · by_cases h2 : v * 10 + d < 18446744073709551616
        · have HV := HOK.out d rfl h1 h2
          have e1 : ((v : Int) * 10 % 18446744073709551616 + d) % 18446744073709551616 = (v : Int) * 10 + d := by omega
          have e2 : ((v : Int) * 10 % 18446744073709551616 + d) / 18446744073709551616 = 0 := by omega
          have e3 : (v : Int) * 10 / 18446744073709551616 = 0 := by omega
          rw [e1, e2] at hadd
          have HV2 : Hid (pdig 10 s (k + 1) = some (v * 10 + d)) := HV
          clear HV e1 e2 HOK HBAD
          go_wp2_with (first | (go_at_call 152; refine (hcall _).mono ?_; rintro e w' ⟨rfl, rfl⟩) | (go_at_call 153; refine (mul_ten v hv _).mono ?_; rintro e w' ⟨rfl, rfl⟩))
          go_round
          case rel => exact ⟨k + 1, v * 10 + d, by omega, by omega, by go_num, by go_num, HV2⟩
          case measure => simp [intOf]; omega
        · have Q : Hid (pnum 10 s = 0 ∧ pok 10 s = false) := HBAD.out d rfl (by omega)
          clear HOK HBAD
          by_cases h3 : 18446744073709551616 ≤ v * 10
          · have e3 : ((v : Int) * 10 / 18446744073709551616 != 0) = true := by simp; omega
            go_wp2_with (first | (go_at_call 152; refine (hcall _).mono ?_; rintro e w' ⟨rfl, rfl⟩) | (go_at_call 153; refine (mul_ten v hv _).mono ?_; rintro e w' ⟨rfl, rfl⟩))
            go_ret2
            exact ⟨by rw [Q.out.1, Q.out.2]; rfl, rfl⟩
          · have e3 : (v : Int) * 10 / 18446744073709551616 = 0 := by omega
            have e4 : (((v : Int) * 10 % 18446744073709551616 + d) / 18446744073709551616 != 0) = true := by simp; omega
            go_wp2_with (first | (go_at_call 152; refine (hcall _).mono ?_; rintro e w' ⟨rfl, rfl⟩) | (go_at_call 153; refine (mul_ten v hv _).mono ?_; rintro e w' ⟨rfl, rfl⟩))
            go_ret2
            exact ⟨by rw [Q.out.1, Q.out.2]; rfl, rfl⟩
      · have Q : Hid (pnum 10 s = 0 ∧ pok 10 s = false) := HBAD.out d rfl (by omega)
        clear HOK HBAD
        go_wp2_with (first | (go_at_call 152; refine (hcall _).mono ?_; rintro e w' ⟨rfl, rfl⟩) | (go_at_call 153; refine (mul_ten v hv _).mono ?_; rintro e w' ⟨rfl, rfl⟩))
        go_ret2
        exact ⟨by rw [Q.out.1, Q.out.2]; rfl, rfl⟩
    · obtain rfl : k = s.size := by omega
      have Q : Hid (_ ∧ _) := p_end HP.out
      go_wp2
      go_ret2
      refine ⟨?_, rfl⟩
      rw [Q.out.1, Q.out.2]
      refine ret_tup rfl ?_
      rw [← ne_empty]
      rfl
set_option maxHeartbeats 1000000 in
theorem pd_16 (s : ByteArray) (hs : s.size ≤ 9223372036854775807) (w : World) :
    Calls Tryz.prog 147 #[.string s, .int .u64 16] w fun e w' => e = .returned (.tuple #[.int .u64 (pnum 16 s : Nat), .bool (pok 16 s)]) ∧ w' = w := by
  go_enter Tryz.func147, Tryz.ntmps147
  go_wp2
  go_loop [6, 15] (fun x i => ∃ k v : Nat, k ≤ s.size ∧ v < 18446744073709551616 ∧ i = .int .i64 k ∧ x = .int .u64 v ∧ Hid (pdig 16 s k = some v)) (fun _ i => s.size - (intOf i).toNat)
  case atStart => exact ⟨0, 0, by omega, by omega, rfl, rfl, rfl⟩
  case round =>
    obtain ⟨k, v, hk, hv, rfl, rfl, HP⟩ := hrel
    by_cases hlt : k < s.size
    · have HB : Hid (fB s k = s[k].toNat) := fB_at s k hlt
      have hb255 : s[k].toNat ≤ 255 := by have := (s[k]).toNat_lt; omega
      have hdg := dg_le s[k].toNat
      have HOK : Hid (∀ d, dg s[k].toNat = d → d < 16 → v * 16 + d < 18446744073709551616 → pdig 16 s (k + 1) = some (v * 16 + d)) := by
        intro d hd h1 h2
        have e : dg (fB s k) = d := by rw [HB.out]; exact hd
        have := pdig_ok (base := 16) HP.out (by rw [e]; exact h1) (by rw [e]; exact h2)
        rw [e] at this; exact this
      have HBAD : Hid (∀ d, dg s[k].toNat = d → ¬ (d < 16 ∧ v * 16 + d < 18446744073709551616) → pnum 16 s = 0 ∧ pok 16 s = false) := by
        intro d hd h1
        have e : dg (fB s k) = d := by rw [HB.out]; exact hd
        exact p_bad (pdig_bad (base := 16) HP.out (by rw [e]; exact h1)) (by omega)
      have hcall : ∀ w, Calls Tryz.prog 152 #[.int .u8 (s[k].toNat : Int)] w fun e w' => e = .returned (.int .u64 (dg s[k].toNat : Nat)) ∧ w' = w := fun w => digit_any _ hb255 w
      generalize hD : dg s[k].toNat = d at *
      have HD : Hid (dg s[k].toNat = d) := hD
      clear hD
      have hkk : (k : Int) < s.size := by omega
      have hadd : ∀ w, (callFunc 154 #[.int .u64 ((v : Int) * 16 % 18446744073709551616), .int .u64 (d : Int), .int .u64 0]).run Tryz.prog w = .ok (.value (.tuple #[.int .u64 (((v : Int) * 16 % 18446744073709551616 + d) % 18446744073709551616), .int .u64 (((v : Int) * 16 % 18446744073709551616 + d) / 18446744073709551616)])) w := fun w => add64_run _ _ (by omega) (by omega) w
      by_cases h1 : d < 16
      · by_cases h2 : v * 16 + d < 18446744073709551616
        · have HV := HOK.out d rfl h1 h2
          have e1 : ((v : Int) * 16 % 18446744073709551616 + d) % 18446744073709551616 = (v : Int) * 16 + d := by omega
          have e2 : ((v : Int) * 16 % 18446744073709551616 + d) / 18446744073709551616 = 0 := by omega
          have e3 : (v : Int) * 16 / 18446744073709551616 = 0 := by omega
          rw [e1, e2] at hadd
          have HV2 : Hid (pdig 16 s (k + 1) = some (v * 16 + d)) := HV
          clear HV e1 e2 HOK HBAD
          go_wp2_with (first | (go_at_call 152; refine (hcall _).mono ?_; rintro e w' ⟨rfl, rfl⟩) | (go_at_call 153; refine (mul_16 v hv _).mono ?_; rintro e w' ⟨rfl, rfl⟩))
          go_round
          case rel => exact ⟨k + 1, v * 16 + d, by omega, by omega, by go_num, by go_num, HV2⟩
          case measure => simp [intOf]; omega
        · have Q : Hid (pnum 16 s = 0 ∧ pok 16 s = false) := HBAD.out d rfl (by omega)
          clear HOK HBAD
          by_cases h3 : 18446744073709551616 ≤ v * 16
          · have e3 : ((v : Int) * 16 / 18446744073709551616 != 0) = true := by simp; omega
            go_wp2_with (first | (go_at_call 152; refine (hcall _).mono ?_; rintro e w' ⟨rfl, rfl⟩) | (go_at_call 153; refine (mul_16 v hv _).mono ?_; rintro e w' ⟨rfl, rfl⟩))
            go_ret2
            exact ⟨by rw [Q.out.1, Q.out.2]; rfl, rfl⟩
          · exfalso; omega
      · have Q : Hid (pnum 16 s = 0 ∧ pok 16 s = false) := HBAD.out d rfl (by omega)
        clear HOK HBAD
        go_wp2_with (first | (go_at_call 152; refine (hcall _).mono ?_; rintro e w' ⟨rfl, rfl⟩) | (go_at_call 153; refine (mul_16 v hv _).mono ?_; rintro e w' ⟨rfl, rfl⟩))
        go_ret2
        exact ⟨by rw [Q.out.1, Q.out.2]; rfl, rfl⟩
    · obtain rfl : k = s.size := by omega
      have Q : Hid (_ ∧ _) := p_end HP.out
      go_wp2
      go_ret2
      refine ⟨?_, rfl⟩
      rw [Q.out.1, Q.out.2]
      refine ret_tup rfl ?_
      rw [← ne_empty]
      rfl
end Go.Proofs.YtooaafbdjnlmfaaGreatDoor

namespace Go.Proofs.YtooaafbdjnlmfaaGreatDoor
open Go.RowKit
theorem cut_yes (s : ByteArray) (hs : s.size ≤ 9223372036854775807) (h2 : 2 ≤ s.size) (hp : (s.extract 0 2).toList = [48, 120]) (w : World) :
    Calls Tryz.prog 134 #[.string s, .string { data := #[48, 120] }] w fun e w' => e = .returned (.tuple #[.string (s.extract 2 s.size), .bool true]) ∧ w' = w := by
  have hk : ((s.extract 0 2).toList == [48, 120]) = true := by simp [hp]
  clear hp
  go_enter Tryz.func134, Tryz.ntmps134
  go_wp2
  go_ret2
  exact ⟨rfl, rfl⟩
theorem cut_no (s : ByteArray) (hs : s.size ≤ 9223372036854775807) (hp : ¬ (2 ≤ s.size ∧ (s.extract 0 2).toList = [48, 120])) (w : World) :
    Calls Tryz.prog 134 #[.string s, .string { data := #[48, 120] }] w fun e w' => e = .returned (.tuple #[.string s, .bool false]) ∧ w' = w := by
  by_cases h2 : 2 ≤ s.size
  · have hk : ((s.extract 0 2).toList == [48, 120]) = false := by simp; exact fun e => hp ⟨h2, e⟩
    clear hp
    go_enter Tryz.func134, Tryz.ntmps134
    go_wp2
    go_ret2
    exact ⟨rfl, rfl⟩
  · clear hp
    go_enter Tryz.func134, Tryz.ntmps134
    go_wp2
    go_ret2
    exact ⟨rfl, rfl⟩
theorem cutm_yes (s : ByteArray) (hs : s.size ≤ 9223372036854775807) (h2 : 1 ≤ s.size) (hp : (s.extract 0 1).toList = [45]) (w : World) :
    Calls Tryz.prog 134 #[.string s, .string { data := #[45] }] w fun e w' => e = .returned (.tuple #[.string (s.extract 1 s.size), .bool true]) ∧ w' = w := by
  have hk : ((s.extract 0 1).toList == [45]) = true := by simp [hp]
  clear hp
  go_enter Tryz.func134, Tryz.ntmps134
  go_wp2
  go_ret2
  exact ⟨rfl, rfl⟩
theorem cutm_no (s : ByteArray) (hs : s.size ≤ 9223372036854775807) (hp : ¬ (1 ≤ s.size ∧ (s.extract 0 1).toList = [45])) (w : World) :
    Calls Tryz.prog 134 #[.string s, .string { data := #[45] }] w fun e w' => e = .returned (.tuple #[.string s, .bool false]) ∧ w' = w := by
  by_cases h2 : 1 ≤ s.size
  · have hk : ((s.extract 0 1).toList == [45]) = false := by simp; exact fun e => hp ⟨h2, e⟩
    clear hp
    go_enter Tryz.func134, Tryz.ntmps134
    go_wp2
    go_ret2
    exact ⟨rfl, rfl⟩
  · clear hp
    go_enter Tryz.func134, Tryz.ntmps134
    go_wp2
    go_ret2
    exact ⟨rfl, rfl⟩
/-- does a text begin as a number in base 16? -/
abbrev isHex (s : ByteArray) : Prop := 2 < s.size ∧ (s.extract 0 2).toList = [48, 120]
/-- the word that a text writes; 0: none -/
def parseN (s : ByteArray) : Nat := if isHex s then pnum 16 (s.extract 2 s.size) else pnum 10 s
/-- is a text a word? -/
def parseOk (s : ByteArray) : Bool := if isHex s then pok 16 (s.extract 2 s.size) else pok 10 s
theorem size_cut (s : ByteArray) (k : Nat) : (s.extract k s.size).size = s.size - k := by rw [ByteArray.size_extract]; omega
theorem bytes_pre (s : ByteArray) (h : s.size = 2) (hp : (s.extract 0 2).toList = [48, 120]) : fB s 1 = 120 := by
  have e : s.extract 0 2 = s := by rw [← h]; exact ByteArray.extract_zero_size
  rw [e, ByteArray.toList_eq] at hp
  rw [fB_at s 1 (by omega)]
  have h2 : s[1] = s.data.toList[1]'(by simp [hp]) := by
    rw [Array.getElem_toList]; rfl
  rw [h2]
  simp [hp]
theorem pre_only (s : ByteArray) (h : s.size = 2) (hp : (s.extract 0 2).toList = [48, 120]) : pnum 10 s = 0 ∧ pok 10 s = false := by
  cases h1 : pdig 10 s 1 with
  | none => exact p_bad h1 (by omega)
  | some v => exact p_bad (pdig_bad (k := 1) h1 (by rw [bytes_pre s h hp]; have : dg 120 = 16 := by decide
                                                    omega)) (by omega)
theorem none_16 (s : ByteArray) (h : s.size = 0) : pnum 16 s = 0 ∧ pok 16 s = false := by
  unfold pnum pok; rw [h]; simp [pdig]
theorem parse_any (s : ByteArray) (hs : s.size ≤ 9223372036854775807) (w : World) :
    Calls Tryz.prog 135 #[.string s] w fun e w' => e = .returned (.tuple #[.int .u64 (parseN s : Nat), .bool (parseOk s)]) ∧ w' = w := by
  by_cases hp : 2 ≤ s.size ∧ (s.extract 0 2).toList = [48, 120]
  · have e : parseN s = pnum 16 (s.extract 2 s.size) ∧ parseOk s = pok 16 (s.extract 2 s.size) := by
      unfold parseN parseOk
      by_cases h2 : 2 < s.size
      · have hx : isHex s := ⟨h2, hp.2⟩
        rw [if_pos hx, if_pos hx]; exact ⟨rfl, rfl⟩
      · have hx : ¬ isHex s := fun h => h2 h.1
        rw [if_neg hx, if_neg hx]
        have h3 := pre_only s (by omega) hp.2
        have h4 := none_16 (s.extract 2 s.size) (by rw [size_cut]; omega)
        rw [h3.1, h3.2, h4.1, h4.2]; exact ⟨rfl, rfl⟩
    rw [e.1, e.2]
    have hc : ∀ w, Calls Tryz.prog 134 #[.string s, .string { data := #[48, 120] }] w fun e w' => e = .returned (.tuple #[.string (s.extract 2 s.size), .bool true]) ∧ w' = w := fun w => cut_yes s hs hp.1 hp.2 w
    have ht : (s.extract 2 s.size).size ≤ 9223372036854775807 := by rw [size_cut]; omega
    clear e hp
    generalize s.extract 2 s.size = t at *
    go_enter Tryz.func135, Tryz.ntmps135
    go_wp2_with (first | (go_at_call 134; refine (hc _).mono ?_; rintro e w' ⟨rfl, rfl⟩) | (go_at_call 147; refine (pd_16 _ (by omega) _).mono ?_; rintro e w' ⟨rfl, rfl⟩))
    go_ret2
    exact ⟨rfl, rfl⟩
  · have e : parseN s = pnum 10 s ∧ parseOk s = pok 10 s := by
      unfold parseN parseOk
      have hx : ¬ isHex s := fun h => hp ⟨by have := h.1; omega, h.2⟩
      rw [if_neg hx, if_neg hx]; exact ⟨rfl, rfl⟩
    rw [e.1, e.2]
    have hc : ∀ w, Calls Tryz.prog 134 #[.string s, .string { data := #[48, 120] }] w fun e w' => e = .returned (.tuple #[.string s, .bool false]) ∧ w' = w := fun w => cut_no s hs hp w
    clear e hp
    go_enter Tryz.func135, Tryz.ntmps135
    go_wp2_with (first | (go_at_call 134; refine (hc _).mono ?_; rintro e w' ⟨rfl, rfl⟩) | (go_at_call 147; refine (pd_ten _ (by omega) _).mono ?_; rintro e w' ⟨rfl, rfl⟩))
    go_ret2
    exact ⟨rfl, rfl⟩
theorem pdig_lt {base : Nat} {s : ByteArray} : ∀ {k v : Nat}, pdig base s k = some v → v < 18446744073709551616
  | 0, v, h => by simp [pdig] at h; omega
  | k + 1, v, h => by
    rw [pdig] at h
    split at h
    · simp at h
    · split at h
      · simp at h; omega
      · simp at h
theorem parseN_lt (s : ByteArray) : parseN s < 18446744073709551616 := by
  have : ∀ b t, pnum b t < 18446744073709551616 := by
    intro b t
    unfold pnum
    cases h : pdig b t t.size with
    | none => simp
    | some v => simpa using pdig_lt h
  unfold parseN; split <;> exact this _ _
/-- does a text begin with a sign? -/
abbrev isNeg (s : ByteArray) : Prop := 1 ≤ s.size ∧ (s.extract 0 1).toList = [45]
/-- the text behind its sign -/
def tailS (s : ByteArray) : ByteArray := s.extract 1 s.size
/-- the number that a text writes; 0: none -/
def intN (s : ByteArray) : Int := if isNeg s then (if parseOk (tailS s) = true ∧ parseN (tailS s) ≤ 9223372036854775808 then - (parseN (tailS s) : Int) else 0) else (if parseOk s = true ∧ parseN s ≤ 9223372036854775807 then (parseN s : Int) else 0)
/-- is a text a number? -/
def intOk (s : ByteArray) : Bool := if isNeg s then decide (parseOk (tailS s) = true ∧ parseN (tailS s) ≤ 9223372036854775808) else decide (parseOk s = true ∧ parseN s ≤ 9223372036854775807)
theorem neg_num (v : Nat) (h : v ≤ 9223372036854775808) : wrap64 (IntKind.u64.wrap (-(v : Int))) = -(v : Int) := by
  rw [IntKind.wrap_u64]; unfold wrap64; omega
theorem pos_num (v : Nat) (h : v ≤ 9223372036854775807) : wrap64 (v : Int) = (v : Int) := by unfold wrap64; omega
set_option maxHeartbeats 400000 in
theorem pint_any (s : ByteArray) (hs : s.size ≤ 9223372036854775807) (w : World) :
    Calls Tryz.prog 109 #[.string s] w fun e w' => e = .returned (.tuple #[.int .i64 (intN s), .bool (intOk s)]) ∧ w' = w := by
  by_cases hn : isNeg s
  · unfold intN intOk
    rw [if_pos hn, if_pos hn]
    have hc : ∀ w, Calls Tryz.prog 134 #[.string s, .string { data := #[45] }] w fun e w' => e = .returned (.tuple #[.string (tailS s), .bool true]) ∧ w' = w := fun w => cutm_yes s hs hn.1 hn.2 w
    have ht : (tailS s).size ≤ 9223372036854775807 := by unfold tailS; rw [size_cut]; omega
    have hl := parseN_lt (tailS s)
    have hpc : ∀ w, Calls Tryz.prog 135 #[.string (tailS s)] w fun e w' => e = .returned (.tuple #[.int .u64 (parseN (tailS s) : Nat), .bool (parseOk (tailS s))]) ∧ w' = w := fun w => parse_any _ ht w
    generalize parseN (tailS s) = v at *
    generalize parseOk (tailS s) = ok at *
    generalize tailS s = t at *
    clear hn
    cases ok
    · rw [if_neg (by simp), show decide (false = true ∧ v ≤ 9223372036854775808) = false from by simp]
      go_enter Tryz.func109, Tryz.ntmps109
      go_wp2_with (first | (go_at_call 134; refine (hc _).mono ?_; rintro e w' ⟨rfl, rfl⟩) | (go_at_call 135; refine (hpc _).mono ?_; rintro e w' ⟨rfl, rfl⟩))
      go_ret2
      exact ⟨rfl, rfl⟩
    · by_cases hv : v ≤ 9223372036854775808
      · rw [if_pos ⟨rfl, hv⟩, show decide (true = true ∧ v ≤ 9223372036854775808) = true from by simp [hv]]
        have HW : Hid (Value.int .i64 (wrap64 (IntKind.u64.wrap (-(v : Int)))) = Value.int .i64 (-(v : Int))) := by show _ = _; rw [neg_num v hv]
        go_enter Tryz.func109, Tryz.ntmps109
        go_wp2_with (first | (go_at_call 134; refine (hc _).mono ?_; rintro e w' ⟨rfl, rfl⟩) | (go_at_call 135; refine (hpc _).mono ?_; rintro e w' ⟨rfl, rfl⟩))
        go_ret2
        exact ⟨ret_tup HW.out rfl, rfl⟩
      · rw [if_neg (fun h => hv h.2), show decide (true = true ∧ v ≤ 9223372036854775808) = false from by simp; omega]
        go_enter Tryz.func109, Tryz.ntmps109
        go_wp2_with (first | (go_at_call 134; refine (hc _).mono ?_; rintro e w' ⟨rfl, rfl⟩) | (go_at_call 135; refine (hpc _).mono ?_; rintro e w' ⟨rfl, rfl⟩))
        go_ret2
        exact ⟨rfl, rfl⟩
  · unfold intN intOk
    rw [if_neg hn, if_neg hn]
    have hc : ∀ w, Calls Tryz.prog 134 #[.string s, .string { data := #[45] }] w fun e w' => e = .returned (.tuple #[.string s, .bool false]) ∧ w' = w := fun w => cutm_no s hs hn w
    have hl := parseN_lt s
    have hpc : ∀ w, Calls Tryz.prog 135 #[.string s] w fun e w' => e = .returned (.tuple #[.int .u64 (parseN s : Nat), .bool (parseOk s)]) ∧ w' = w := fun w => parse_any _ hs w
    generalize parseN s = v at *
    generalize parseOk s = ok at *
    clear hn
    cases ok
    · rw [if_neg (by simp), show decide (false = true ∧ v ≤ 9223372036854775807) = false from by simp]
      go_enter Tryz.func109, Tryz.ntmps109
      go_wp2_with (first | (go_at_call 134; refine (hc _).mono ?_; rintro e w' ⟨rfl, rfl⟩) | (go_at_call 135; refine (hpc _).mono ?_; rintro e w' ⟨rfl, rfl⟩))
      go_ret2
      exact ⟨rfl, rfl⟩
    · by_cases hv : v ≤ 9223372036854775807
      · rw [if_pos ⟨rfl, hv⟩, show decide (true = true ∧ v ≤ 9223372036854775807) = true from by simp [hv]]
        go_enter Tryz.func109, Tryz.ntmps109
        go_wp2_with (first | (go_at_call 134; refine (hc _).mono ?_; rintro e w' ⟨rfl, rfl⟩) | (go_at_call 135; refine (hpc _).mono ?_; rintro e w' ⟨rfl, rfl⟩))
        go_ret2
        exact ⟨rfl, rfl⟩
      · rw [if_neg (fun h => hv h.2), show decide (true = true ∧ v ≤ 9223372036854775807) = false from by simp; omega]
        go_enter Tryz.func109, Tryz.ntmps109
        go_wp2_with (first | (go_at_call 134; refine (hc _).mono ?_; rintro e w' ⟨rfl, rfl⟩) | (go_at_call 135; refine (hpc _).mono ?_; rintro e w' ⟨rfl, rfl⟩))
        go_ret2
        exact ⟨rfl, rfl⟩
end Go.Proofs.YtooaafbdjnlmfaaGreatDoor

namespace Go.Proofs.YtooaafbdjnlmfaaGreatDoor
open Go.RowKit
/-- the sign of a digit -/
def dch (d : Nat) : UInt8 := UInt8.ofNat (if d < 10 then 48 + d else 87 + d)
/-- the digits of a number, the highest first; at most f of them -/
def dtext (b : Nat) : Nat → Nat → List UInt8
  | 0, _ => []
  | f + 1, x => if x < b then [dch x] else dtext b f (x / b) ++ [dch (x % b)]
theorem dg_dch_fin : ∀ d : Fin 16, dg (dch d.val).toNat = d.val := by decide +kernel
theorem dg_dch (d : Nat) (h : d < 16) : dg (dch d).toNat = d := dg_dch_fin ⟨d, h⟩
theorem alpha_fin : ∀ d : Fin 16, ((⟨#[48, 49, 50, 51, 52, 53, 54, 55, 56, 57, 97, 98, 99, 100, 101, 102]⟩ : ByteArray).extract d.val (d.val + 1)).data.toList = [dch d.val] := by decide +kernel
theorem alpha_at (d : Nat) (h : d < 16) : (⟨#[48, 49, 50, 51, 52, 53, 54, 55, 56, 57, 97, 98, 99, 100, 101, 102]⟩ : ByteArray).extract d (d + 1) = ⟨[dch d].toArray⟩ := by
  apply ByteArray.ext
  apply Array.toList_inj.1
  rw [alpha_fin ⟨d, h⟩]
theorem app_one (l : List UInt8) (c : UInt8) : (⟨l.toArray⟩ : ByteArray) ++ ⟨[c].toArray⟩ = ⟨(l ++ [c]).toArray⟩ := by
  apply ByteArray.ext
  rw [ByteArray.data_append]
  simp
theorem dtext_len (b : Nat) : ∀ f x, (dtext b f x).length ≤ f
  | 0, _ => by simp [dtext]
  | f + 1, x => by
    rw [dtext]
    split
    · simp
    · have := dtext_len b f (x / b)
      simp
      omega
theorem size_mk (l : List UInt8) : (⟨l.toArray⟩ : ByteArray).size = l.length := by
  show l.toArray.size = _
  simp
theorem text_step (b f x : Nat) (h : ¬ x < b) (hb : b ≤ 16) (hb2 : 2 ≤ b) : (⟨(dtext b f (x / b)).toArray⟩ : ByteArray) ++ (⟨#[48, 49, 50, 51, 52, 53, 54, 55, 56, 57, 97, 98, 99, 100, 101, 102]⟩ : ByteArray).extract (x % b) (x % b + 1) = ⟨(dtext b (f + 1) x).toArray⟩ := by
  have hm : x % b < b := Nat.mod_lt _ (by omega)
  rw [alpha_at _ (by omega), app_one, dtext, if_neg h]
theorem text_last (b f x : Nat) (h : x < b) (hb : b ≤ 16) : (⟨#[48, 49, 50, 51, 52, 53, 54, 55, 56, 57, 97, 98, 99, 100, 101, 102]⟩ : ByteArray).extract (x % b) (x % b + 1) = ⟨(dtext b (f + 1) x).toArray⟩ := by
  rw [Nat.mod_eq_of_lt h, alpha_at _ (by omega), dtext, if_pos h]
set_option maxHeartbeats 400000 in
theorem text_16 : ∀ (f x : Nat), f ≤ 64 → x < 18446744073709551616 → x < 16 ^ (f + 1) → ∀ (w : World),
    Calls Tryz.prog 52 #[.int .u64 (x : Int), .int .u64 16] w fun e w' => e = .returned (.string ⟨(dtext 16 (f + 1) x).toArray⟩) ∧ ∃ n, w' = w.drewN n := by
  intro f
  induction f with
  | zero =>
    intro x hf hx h w
    have h16 : x < 16 := by simpa using h
    have HT : Hid _ := text_last 16 0 x h16 (by omega)
    generalize (⟨(dtext 16 (0 + 1) x).toArray⟩ : ByteArray) = T at *
    clear h
    go_enter Tryz.func52, Tryz.ntmps52
    go_wp2
    go_quiet (fail)
    go_wp2_with fail
    go_ret
    exact ⟨by rw [← HT.out]; rfl, _, rfl⟩
  | succ f ih =>
    intro x hf hx h w
    by_cases h16 : x < 16
    · have HT : Hid _ := text_last 16 (f + 1) x h16 (by omega)
      generalize (⟨(dtext 16 (f + 1 + 1) x).toArray⟩ : ByteArray) = T at *
      clear h ih
      go_enter Tryz.func52, Tryz.ntmps52
      go_wp2
      go_quiet (fail)
      go_wp2_with fail
      go_ret
      exact ⟨by rw [← HT.out]; rfl, _, rfl⟩
    · have hd : x / 16 < 16 ^ (f + 1) := by rw [Nat.pow_succ] at h; omega
      have hc := ih (x / 16) (by omega) (by omega) hd
      have HT : Hid _ := text_step 16 (f + 1) x h16 (by omega) (by omega)
      have hlen := dtext_len 16 (f + 1) (x / 16)
      rw [← size_mk] at hlen
      generalize (⟨(dtext 16 (f + 1 + 1) x).toArray⟩ : ByteArray) = T at *
      generalize (⟨(dtext 16 (f + 1) (x / 16)).toArray⟩ : ByteArray) = T2 at *
      have hc2 : ∀ w, Calls Tryz.prog 52 #[.int .u64 ((x : Int) / 16), .int .u64 16] w fun e w' => e = .returned (.string T2) ∧ ∃ n, w' = w.drewN n := by
        intro w; have := hc w; simpa using this
      clear h ih hd hc
      go_enter Tryz.func52, Tryz.ntmps52
      go_wp2
      go_quiet (fail)
      go_wp2_with (go_at_call 52; refine (hc2 _).mono ?_; rintro e w' ⟨rfl, n, rfl⟩)
      go_ret
      exact ⟨by rw [← HT.out]; rfl, _, rfl⟩
set_option maxHeartbeats 400000 in
theorem text_ten : ∀ (f x : Nat), f ≤ 64 → x < 18446744073709551616 → x < 10 ^ (f + 1) → ∀ (w : World),
    Calls Tryz.prog 52 #[.int .u64 (x : Int), .int .u64 10] w fun e w' => e = .returned (.string ⟨(dtext 10 (f + 1) x).toArray⟩) ∧ ∃ n, w' = w.drewN n := by
  intro f
  induction f with
  | zero =>
    intro x hf hx h w
    have h16 : x < 10 := by simpa using h
    have HT : Hid _ := text_last 10 0 x h16 (by omega)
    generalize (⟨(dtext 10 (0 + 1) x).toArray⟩ : ByteArray) = T at *
    clear h
    go_enter Tryz.func52, Tryz.ntmps52
    go_wp2
    go_quiet (fail)
    go_wp2_with fail
    go_ret
    exact ⟨by rw [← HT.out]; rfl, _, rfl⟩
  | succ f ih =>
    intro x hf hx h w
    by_cases h16 : x < 10
    · have HT : Hid _ := text_last 10 (f + 1) x h16 (by omega)
      generalize (⟨(dtext 10 (f + 1 + 1) x).toArray⟩ : ByteArray) = T at *
      clear h ih
      go_enter Tryz.func52, Tryz.ntmps52
      go_wp2
      go_quiet (fail)
      go_wp2_with fail
      go_ret
      exact ⟨by rw [← HT.out]; rfl, _, rfl⟩
    · have hd : x / 10 < 10 ^ (f + 1) := by rw [Nat.pow_succ] at h; omega
      have hc := ih (x / 10) (by omega) (by omega) hd
      have HT : Hid _ := text_step 10 (f + 1) x h16 (by omega) (by omega)
      have hlen := dtext_len 10 (f + 1) (x / 10)
      rw [← size_mk] at hlen
      generalize (⟨(dtext 10 (f + 1 + 1) x).toArray⟩ : ByteArray) = T at *
      generalize (⟨(dtext 10 (f + 1) (x / 10)).toArray⟩ : ByteArray) = T2 at *
      have hc2 : ∀ w, Calls Tryz.prog 52 #[.int .u64 ((x : Int) / 10), .int .u64 10] w fun e w' => e = .returned (.string T2) ∧ ∃ n, w' = w.drewN n := by
        intro w; have := hc w; simpa using this
      clear h ih hd hc
      go_enter Tryz.func52, Tryz.ntmps52
      go_wp2
      go_quiet (fail)
      go_wp2_with (go_at_call 52; refine (hc2 _).mono ?_; rintro e w' ⟨rfl, n, rfl⟩)
      go_ret
      exact ⟨by rw [← HT.out]; rfl, _, rfl⟩
theorem dtext_dec : ∀ (f x : Nat), x < 10 ^ (f + 1) → dtext 10 (f + 1) x = Lib.decDigits x
  | 0, x, h => by
    have h10 : x < 10 := by simpa using h
    rw [dtext, if_pos h10, Lib.decDigits_one h10]
    unfold dch
    rw [if_pos h10]
  | f + 1, x, h => by
    by_cases h10 : x < 10
    · rw [dtext, if_pos h10, Lib.decDigits_one h10]
      unfold dch
      rw [if_pos h10]
    · rw [dtext, if_neg h10, dtext_dec f (x / 10) (by rw [Nat.pow_succ] at h; omega), Lib.decDigits.eq_def x, dif_neg h10]
      unfold dch
      rw [if_pos (by omega)]
theorem dtext_pos (b f x : Nat) : 0 < (dtext b (f + 1) x).length := by rw [dtext]; split <;> simp
/-- the digits of a number are read as that number -/
theorem pdig_dtext (b : Nat) (hb : b ≤ 16) (hb2 : 2 ≤ b) (s : ByteArray) : ∀ (f x : Nat), x < 18446744073709551616 → x < b ^ (f + 1) →
    (∀ i (h : i < (dtext b (f + 1) x).length), fB s i = ((dtext b (f + 1) x)[i]).toNat) → pdig b s (dtext b (f + 1) x).length = some x
  | 0, x, hx, h, hs => by
    have hxb : x < b := by simpa using h
    have e : dtext b (0 + 1) x = [dch x] := by rw [dtext, if_pos hxb]
    have h0 := hs 0 (by rw [e]; simp)
    simp only [e, List.getElem_cons_zero] at h0
    rw [e]
    have hd : dg (fB s 0) = x := by rw [h0]; exact dg_dch x (by omega)
    have := pdig_ok (base := b) (s := s) (k := 0) (v := 0) rfl (by rw [hd]; exact hxb) (by rw [hd]; omega)
    rw [hd] at this
    simpa using this
  | f + 1, x, hx, h, hs => by
    by_cases hxb : x < b
    · have e : dtext b (f + 1 + 1) x = [dch x] := by rw [dtext, if_pos hxb]
      have h0 := hs 0 (by rw [e]; simp)
      simp only [e, List.getElem_cons_zero] at h0
      rw [e]
      have hd : dg (fB s 0) = x := by rw [h0]; exact dg_dch x (by omega)
      have := pdig_ok (base := b) (s := s) (k := 0) (v := 0) rfl (by rw [hd]; exact hxb) (by rw [hd]; omega)
      rw [hd] at this
      simpa using this
    · have e : dtext b (f + 1 + 1) x = dtext b (f + 1) (x / b) ++ [dch (x % b)] := by rw [dtext, if_neg hxb]
      have hm : x % b < b := Nat.mod_lt _ (by omega)
      have ih := pdig_dtext b hb hb2 s f (x / b) (Nat.lt_of_le_of_lt (Nat.div_le_self _ _) hx) (by
        rw [Nat.pow_succ] at h; exact Nat.div_lt_of_lt_mul (by rw [Nat.mul_comm]; exact h)) (fun i hi => by
        have := hs i (by rw [e]; simp; omega)
        rw [this]
        simp only [e, List.getElem_append_left hi])
      have hl := hs (dtext b (f + 1) (x / b)).length (by rw [e]; simp)
      simp only [e, List.getElem_concat_length] at hl
      have hd : dg (fB s (dtext b (f + 1) (x / b)).length) = x % b := by rw [hl]; exact dg_dch _ (by omega)
      have hdm : x / b * b + x % b = x := by rw [Nat.mul_comm]; exact Nat.div_add_mod x b
      have := pdig_ok (base := b) ih (by rw [hd]; exact hm) (by rw [hd, hdm]; exact hx)
      rw [hd, hdm] at this
      rw [e]
      simpa using this
end Go.Proofs.YtooaafbdjnlmfaaGreatDoor

namespace Go.Proofs.YtooaafbdjnlmfaaGreatDoor
open Go.RowKit Go.Deep
theorem tz_16 (w : World) (hc : w.cell? ⟨10, 15, none⟩ = some (.int .u8 4)) : Calls Tryz.prog 143 #[.int .u64 16] w fun e w' => e = .returned (.int .i64 4) ∧ w' = w := by
  have k1 : IntKind.u64.wrap (-16) = 18446744073709551600 := by decide +kernel
  have k2 : bits .and .u64 16 18446744073709551600 = 16 := by decide +kernel
  go_enter Tryz.func143, Tryz.ntmps143
  go_wp2
  go_ret
  exact ⟨rfl, rfl⟩
theorem pow_16 (w : World) : Calls Tryz.prog 142 #[.int .i64 16] w fun e w' => e = .returned (.bool true) ∧ w' = w := by
  have k1 : bits .and .i64 16 15 = 0 := by decide +kernel
  go_enter Tryz.func142, Tryz.ntmps142
  go_wp2
  go_ret
  exact ⟨rfl, rfl⟩
def zeros65 : Array Value := Array.replicate 65 (.int .u8 0)
theorem zero162 (w : World) : (zeroValue 162).run Tryz.prog w = .ok (.agg zeros65) w := by kernel_rfl
theorem dtext_eq (b : Nat) (hb : 2 ≤ b) : ∀ (k f x : Nat), k < f → (∀ j, j < k → b ≤ x / b ^ j) → x / b ^ k < b → dtext b f x = (List.range (k + 1)).map fun t => dch (x / b ^ (k - t) % b)
  | 0, 0, _, h, _, _ => by omega
  | 0, f + 1, x, _, _, hl => by
    have hl2 : x < b := by simpa using hl
    rw [dtext, if_pos hl2]
    simp [Nat.mod_eq_of_lt hl2]
  | k + 1, 0, _, h, _, _ => by omega
  | k + 1, f + 1, x, h, hj, hl => by
    have h0 := hj 0 (by omega)
    simp at h0
    have hd : ∀ j, x / b / b ^ j = x / b ^ (j + 1) := fun j => by rw [Nat.div_div_eq_div_mul, Nat.pow_succ, Nat.mul_comm]
    rw [dtext, if_neg (by omega), dtext_eq b hb k f (x / b) (by omega) (fun j hjk => by rw [hd]; exact hj (j + 1) (by omega)) (by rw [hd]; exact hl), List.range_succ (n := k + 1), List.map_append]
    congr 1
    · apply List.map_congr_left
      intro t ht
      have ht2 : t < k + 1 := by simpa using ht
      rw [hd, show k - t + 1 = k + 1 - t from by omega]
    · simp
/-- the place j of the row behind k digits -/
def hexF (x k j : Nat) : Value := .int .u8 ((if 65 - k ≤ j then (dch (x / 16 ^ (64 - j) % 16)).toNat else 0 : Nat) : Int)
theorem hexF_step (x k j : Nat) (hk : k ≤ 15) (hj : j < 65) : (if j = 64 - k then Value.int .u8 ((dch (x / 16 ^ k % 16)).toNat : Int) else hexF x k j) = hexF x (k + 1) j := by
  unfold hexF
  by_cases e : j = 64 - k
  · subst e
    rw [if_pos rfl, if_pos (by omega), show 64 - (64 - k) = k from by omega]
  · rw [if_neg e]
    by_cases h : 65 - k ≤ j
    · rw [if_pos h, if_pos (by omega)]
    · rw [if_neg h, if_neg (by omega)]
theorem digs_fin : ∀ d : Fin 16, ((⟨#[48, 49, 50, 51, 52, 53, 54, 55, 56, 57, 97, 98, 99, 100, 101, 102, 103, 104, 105, 106, 107, 108, 109, 110, 111, 112, 113, 114, 115, 116, 117, 118, 119, 120, 121, 122]⟩ : ByteArray)[d.val]'(by have := d.isLt; show d.val < 36; omega)) = dch d.val := by decide +kernel
theorem digs_at (d : Nat) (h : d < (⟨#[48, 49, 50, 51, 52, 53, 54, 55, 56, 57, 97, 98, 99, 100, 101, 102, 103, 104, 105, 106, 107, 108, 109, 110, 111, 112, 113, 114, 115, 116, 117, 118, 119, 120, 121, 122]⟩ : ByteArray).size) (h16 : d < 16) :
    (⟨#[48, 49, 50, 51, 52, 53, 54, 55, 56, 57, 97, 98, 99, 100, 101, 102, 103, 104, 105, 106, 107, 108, 109, 110, 111, 112, 113, 114, 115, 116, 117, 118, 119, 120, 121, 122]⟩ : ByteArray)[d] = dch d := digs_fin ⟨d, h16⟩
theorem and_15 (y : Nat) (h : y < 18446744073709551616) : bits .and .u64 (y : Int) 15 = ((y % 16 : Nat) : Int) := by
  have := bits_and_u64_nat y 15 h (by omega)
  rw [show y &&& 15 = y % 16 from Nat.and_two_pow_sub_one_eq_mod y 4] at this
  exact this
theorem slice_hex (g k : Nat) (hk : k ≤ 15) (W : World) : (Instr.sliceAt 162 (.pointer (some ⟨g, 0, none⟩)) (some (.int .i64 ((64 - k : Nat) : Int))) none none).run Tryz.prog W = .ok (.slice (some ⟨g, 64 - k, none⟩) (k + 1) (k + 1)) W := by
  have hal : Tryz.prog.arrayLen 162 = 65 := by kernel_rfl
  rw [run_sliceAt_array_l (P := Tryz.prog) W 162 ⟨g, 0, none⟩ (by kernel_rfl) .i64 ((64 - k : Nat) : Int) (by omega) (by rw [hal]; omega), hal]
  go_simp
  omega
theorem conv_hex (x k g : Nat) (hk : k ≤ 15) (W : World) (hr : W.rowIs g 162 65 (hexF x (k + 1))) (hl : dtext 16 16 x = (List.range (k + 1)).map fun t => dch (x / 16 ^ (k - t) % 16)) :
    (convert 41 9 (.slice (some ⟨g, 64 - k, none⟩) (k + 1) (k + 1))).run Tryz.prog W = .ok (.string ⟨(dtext 16 16 x).toArray⟩) W := by
  have hlen : (dtext 16 16 x).length = k + 1 := by rw [hl]; simp
  have h := run_convert_bytes_back (P := Tryz.prog) W 41 9 5 ⟨g, 64 - k, none⟩ (k + 1) (dtext 16 16 x) Tryz.underlying41 Tryz.underlying5 Tryz.underlying9 (fun j hj => by
    rw [Go.WideShapes.add_plain, hr.cell (by omega)]
    unfold hexF
    rw [if_pos (by omega)]
    simp only [hl, List.getElem_map, List.getElem_range]
    rw [show 64 - (64 - k + j) = k - j from by omega])
  rw [hlen] at h
  exact h
set_option maxRecDepth 100000 in
set_option maxHeartbeats 1000000 in
theorem fb_16 (x : Nat) (hx : x < 18446744073709551616) (w : World) (hc : w.cell? ⟨10, 15, none⟩ = some (.int .u8 4)) :
    Calls Tryz.prog 125 #[.slice none 0 0, .int .u64 (x : Int), .int .i64 16, .bool false, .bool false] w fun e w' => e = .returned (.tuple #[.slice none 0 0, .string ⟨(dtext 16 16 x).toArray⟩]) ∧ Below w.heap.size w w' := by
  have hz := zero162
  have hn : 10 < w.heap.size := block_lt_of_cell hc
  have hc1 : (w.alloc (.cells zeros65 162)).cell? ⟨10, 15, none⟩ = some (.int .u8 4) := by rw [World.cell?_alloc_past _ _ _ hn]; exact hc
  have hrow0 : (w.alloc (.cells zeros65 162)).rowIs w.heap.size 162 65 (hexF x 0) := World.rowIs_alloc w zeros65 162 (hexF x 0) (fun i hi => by
    have hi2 : i < 65 := by simpa [zeros65] using hi
    unfold hexF zeros65
    rw [if_neg (by omega)]
    simp [hi2])
  have hb0 : Below w.heap.size w (w.alloc (.cells zeros65 162)) := (Below.refl _ _).alloc (Nat.le_refl _) _
  have X : Hid (_ ∧ _) := ⟨hrow0, hb0⟩
  clear hrow0 hb0
  go_enter Tryz.func125, Tryz.ntmps125
  go_wp2_with (first | (go_at_call 142; refine (pow_16 _).mono ?_; rintro e w' ⟨rfl, rfl⟩) | (go_at_call 143; refine (tz_16 _ hc1).mono ?_; rintro e w' ⟨rfl, hw1⟩; rw [hw1]))
  clear hc1 hc
  go_loopw [1, 13] (fun u i wr => ∃ k : Nat, k ≤ 15 ∧ u = .int .u64 ((x / 16 ^ k : Nat) : Int) ∧ i = .int .i64 ((65 - k : Nat) : Int) ∧ wr.rowIs w.heap.size 162 65 (hexF x k) ∧ Below w.heap.size w wr ∧ Hid (∀ j, j < k → 16 ≤ x / 16 ^ j))
    (fun u _ _ => (intOf u).toNat)
  case atStart => exact ⟨0, by omega, by simp, rfl, X.out.1, X.out.2, fun j hj => by omega⟩
  case round =>
    obtain ⟨k, hk, rfl, rfl, hrow, hb, HJ⟩ := hrel
    have hy : x / 16 ^ k < 18446744073709551616 := Nat.lt_of_le_of_lt (Nat.div_le_self _ _) hx
    have hand := and_15 (x / 16 ^ k) hy
    have e64 : 65 - k - 1 = 64 - k := by omega
    have hc2 := hrow.cell (i := 64 - k) (by omega)
    have hf2 := hrow.frozen (64 - k)
    have hset := (hrow.set (64 - k) (.int .u8 ((dch (x / 16 ^ k % 16)).toNat : Int))).congr (fun j hj => hexF_step x k j hk hj)
    have hbs := hb.setCell (p := ⟨w.heap.size, 64 - k, none⟩) (Nat.le_refl _) (.int .u8 ((dch (x / 16 ^ k % 16)).toNat : Int))
    have Y : Hid (_ ∧ _) := ⟨hset, hbs⟩
    have hdd : x / 16 ^ (k + 1) = x / 16 ^ k / 16 := by rw [Nat.pow_succ, Nat.div_div_eq_div_mul]
    have HD : Hid (x / 16 ^ (k + 1) = x / 16 ^ k / 16) := hdd
    have HK : Hid (16 ≤ x / 16 ^ k → k < 15) := by
      intro h
      refine Nat.lt_of_not_le fun h15 => ?_
      have hk15 : k = 15 := by omega
      subst hk15
      have : x / 16 ^ 15 < 16 := Nat.div_lt_of_lt_mul (by simpa using hx)
      omega
    have e1 : ((65 - k : Nat) : Int) - 1 = ((64 - k : Nat) : Int) := by omega
    have et : (((65 - k : Nat) : Int) - 1).toNat = 64 - k := by omega
    have HT : Hid (x / 16 ^ k < 16 → dtext 16 16 x = (List.range (k + 1)).map fun t => dch (x / 16 ^ (k - t) % 16)) := fun h => dtext_eq 16 (by omega) k 16 x (by omega) HJ.out h
    have HJ2 : Hid (16 ≤ x / 16 ^ k → ∀ j, j < k + 1 → 16 ≤ x / 16 ^ j) := fun h j hj => by
      by_cases e : j = k
      · subst e; exact h
      · exact HJ.out j (by omega)
    clear hset hbs hrow hb hdd X
    generalize hY : x / 16 ^ k = y at *
    have HY : Hid (x / 16 ^ k = y) := hY
    clear hY
    by_cases hlt : 16 ≤ y
    · have hk2 := HK.out hlt
      go_wp2
      go_roundw
      case rel =>
        refine ⟨k + 1, by omega, by rw [HD.out]; go_num, by rw [show 65 - (k + 1) = 64 - k from by omega], ?_, ?_, HJ2.out hlt⟩
        · rw [digs_at _ _ (by omega)]; exact Y.out.1
        · rw [digs_at _ _ (by omega)]; exact Y.out.2
      case measure => simp [intOf]; omega
    · have hy16 : y % 16 = y := by omega
      have hl := HT.out (by omega)
      have hdig := digs_at y (by show y < 36; omega) (by omega)
      rw [hy16] at Y
      have hsl := fun W => slice_hex w.heap.size k hk W
      have hcv := conv_hex x k w.heap.size hk _ Y.out.1 hl
      have HYb : Hid (Below w.heap.size w (wr.setCell ⟨w.heap.size, 64 - k, none⟩ (.int .u8 ((dch y).toNat : Int)))) := Y.out.2
      clear hl
      go_wp2
      go_ret2
      exact ⟨rfl, HYb.out⟩
set_option maxHeartbeats 400000 in
theorem fu_16 (x : Nat) (hx : x < 18446744073709551616) (w : World) (hc : w.cell? ⟨10, 15, none⟩ = some (.int .u8 4)) :
    Calls Tryz.prog 138 #[.int .u64 (x : Int), .int .i64 16] w fun e w' => e = .returned (.string ⟨(dtext 16 16 x).toArray⟩) ∧ Below w.heap.size w w' := by
  go_enter Tryz.func138, Tryz.ntmps138
  go_wp2_with (go_at_call 125; refine (fb_16 x hx _ hc).mono ?_; rintro e w' ⟨rfl, hb⟩)
  go_ret
  exact ⟨rfl, hb⟩
theorem sfu_16 (x : Nat) (hx : x < 18446744073709551616) (w : World) (hc : w.cell? ⟨10, 15, none⟩ = some (.int .u8 4)) :
    Calls Tryz.prog 114 #[.int .u64 (x : Int), .int .i64 16] w fun e w' => e = .returned (.string ⟨(dtext 16 16 x).toArray⟩) ∧ Below w.heap.size w w' := by
  go_enter Tryz.func114, Tryz.ntmps114
  go_wp2_with (go_at_call 138; refine (fu_16 x hx _ hc).mono ?_; rintro e w' ⟨rfl, hb⟩)
  go_ret
  exact ⟨rfl, hb⟩
/-- a word's text in base 16 -/
def hexS (x : Nat) : ByteArray := ⟨#[48, 120]⟩ ++ ⟨(dtext 16 16 x).toArray⟩
theorem hex_any (x : Nat) (hx : x < 18446744073709551616) (w : World) (hc : w.cell? ⟨10, 15, none⟩ = some (.int .u8 4)) :
    Calls Tryz.prog 89 #[.int .u64 (x : Int)] w fun e w' => e = .returned (.string (hexS x)) ∧ Below w.heap.size w w' := by
  have hlen := dtext_len 16 16 x
  rw [← size_mk] at hlen
  have HE : Hid (hexS x = ⟨#[48, 120]⟩ ++ ⟨(dtext 16 16 x).toArray⟩) := rfl
  have hcall := fun w h => sfu_16 x hx w h
  generalize hexS x = T at *
  generalize (⟨(dtext 16 16 x).toArray⟩ : ByteArray) = t at *
  go_enter Tryz.func89, Tryz.ntmps89
  go_wp2_with (go_at_call 114; refine (hcall _ hc).mono ?_; rintro e w' ⟨rfl, hb⟩)
  go_ret
  exact ⟨by rw [HE.out]; rfl, hb⟩
theorem rhex_any (x : Nat) (hx : x < 18446744073709551616) (w : World) :
    Calls Tryz.prog 22 #[.int .u64 (x : Int)] w fun e w' => e = .returned (.string (hexS x)) ∧ ∃ n, w' = w.drewN n := by
  have hlen := dtext_len 16 16 x
  rw [← size_mk] at hlen
  have HE : Hid (hexS x = ⟨#[48, 120]⟩ ++ ⟨(dtext 16 16 x).toArray⟩) := rfl
  have hc : ∀ w, Calls Tryz.prog 52 #[.int .u64 (x : Int), .int .u64 16] w fun e w' => e = .returned (.string ⟨(dtext 16 16 x).toArray⟩) ∧ ∃ n, w' = w.drewN n := text_16 15 x (by omega) hx (by omega)
  generalize hexS x = T at *
  generalize (⟨(dtext 16 16 x).toArray⟩ : ByteArray) = t at *
  go_enter Tryz.func22, Tryz.ntmps22
  go_wp2_with (go_at_call 52; refine (hc _).mono ?_; rintro e w' ⟨rfl, n, rfl⟩)
  go_ret
  exact ⟨by rw [HE.out]; rfl, _, rfl⟩
end Go.Proofs.YtooaafbdjnlmfaaGreatDoor

namespace Go.Proofs.YtooaafbdjnlmfaaGreatDoor
open Go.RowKit Go.Deep
/-- a number's decimal text -/
def decS (n : Int) : ByteArray := ⟨(Lib.itoa n).toArray⟩
theorem decS_pos (x : Nat) (hx : x < 18446744073709551616) : decS (x : Int) = ⟨(dtext 10 20 x).toArray⟩ := by
  unfold decS
  rw [Lib.itoa_nonneg, dtext_dec 19 x (by omega)]
theorem decS_neg (x : Nat) (h1 : 1 ≤ x) (hx : x < 18446744073709551616) : decS (-(x : Int)) = ⟨#[45]⟩ ++ ⟨(dtext 10 20 x).toArray⟩ := by
  unfold decS
  rw [Lib.itoa_neg x h1, dtext_dec 19 x (by omega)]
  apply ByteArray.ext
  rw [ByteArray.data_append]
  simp
theorem not_nat (v : Nat) (h : v < 18446744073709551616) : 18446744073709551615 ^^^ v = 18446744073709551615 - v := by
  apply Nat.eq_of_testBit_eq
  intro j
  have e : (18446744073709551615 : Nat) = 2 ^ 64 - 1 := by decide
  have e2 : 18446744073709551615 - v = 2 ^ 64 - (v + 1) := by omega
  rw [Nat.testBit_xor, e2, Nat.testBit_two_pow_sub_succ (by omega), e, Nat.testBit_two_pow_sub_one]
  by_cases hj : j < 64
  · simp [hj]
  · have : v.testBit j = false := by
      apply Nat.testBit_lt_two_pow
      have : 2 ^ 64 ≤ 2 ^ j := Nat.pow_le_pow_right (by omega) (by omega)
      omega
    simp [hj, this]
theorem neg_steps (m : Nat) (h : m < 9223372036854775808) : IntKind.u64.wrap (-((m : Int) + 1)) = ((18446744073709551615 - m : Nat) : Int) ∧ bits BinOp.xor IntKind.u64 IntKind.u64.max ((18446744073709551615 - m : Nat) : Int) = (m : Int) := by
  have e : IntKind.u64.max = ((18446744073709551615 : Nat) : Int) := by decide
  constructor
  · rw [IntKind.wrap_u64]; omega
  · rw [e, bits_xor_u64_nat _ _ (by omega) (by omega), not_nat _ (by omega)]; omega
set_option maxHeartbeats 400000 in
theorem rdec_any (n : Int) (h0 : -9223372036854775808 ≤ n) (h1 : n ≤ 9223372036854775807) (w : World) :
    Calls Tryz.prog 34 #[.int .i64 n] w fun e w' => e = .returned (.string (decS n)) ∧ ∃ k, w' = w.drewN k := by
  by_cases hn : n < 0
  · obtain ⟨m, rfl⟩ : ∃ m : Nat, n = -((m : Int) + 1) := ⟨n.natAbs - 1, by omega⟩
    have hc : ∀ w, Calls Tryz.prog 52 #[.int .u64 ((m : Int) + 1), .int .u64 10] w fun e w' => e = .returned (.string ⟨(dtext 10 20 (m + 1)).toArray⟩) ∧ ∃ n, w' = w.drewN n := text_ten 19 (m + 1) (by omega) (by omega) (by omega)
    have hlen := dtext_len 10 20 (m + 1)
    rw [← size_mk] at hlen
    have HE : Hid (decS (-((m : Int) + 1)) = _) := decS_neg (m + 1) (by omega) (by omega)
    obtain ⟨a1, a2⟩ := neg_steps m (by omega)
    generalize decS (-((m : Int) + 1)) = T at *
    generalize (⟨(dtext 10 20 (m + 1)).toArray⟩ : ByteArray) = t at *
    obtain ⟨q, hq⟩ : ∃ q, q = 18446744073709551615 - m := ⟨_, rfl⟩
    rw [← hq] at a1 a2
    have hqb : q < 18446744073709551616 := by omega
    have hs : ¬ IntKind.u64.signed = true := by decide
    clear hq
    go_enter Tryz.func34, Tryz.ntmps34
    go_wp2_with (go_at_call 52; refine (hc _).mono ?_; rintro e w' ⟨rfl, n, rfl⟩)
    go_ret
    exact ⟨by rw [HE.out]; rfl, _, rfl⟩
  · obtain ⟨x, rfl⟩ : ∃ x : Nat, n = (x : Int) := ⟨n.toNat, by omega⟩
    have hx : x < 18446744073709551616 := by omega
    have hc : ∀ w, Calls Tryz.prog 52 #[.int .u64 (x : Int), .int .u64 10] w fun e w' => e = .returned (.string ⟨(dtext 10 20 x).toArray⟩) ∧ ∃ n, w' = w.drewN n := text_ten 19 x (by omega) hx (by omega)
    have HE : Hid _ := decS_pos x hx
    generalize decS (x : Int) = T at *
    generalize (⟨(dtext 10 20 x).toArray⟩ : ByteArray) = t at *
    go_enter Tryz.func34, Tryz.ntmps34
    go_wp2_with (go_at_call 52; refine (hc _).mono ?_; rintro e w' ⟨rfl, n, rfl⟩)
    go_ret
    exact ⟨by rw [HE.out]; rfl, _, rfl⟩
theorem below_grow (w : World) (k : Nat) (os : Array Obj) : Below w.heap.size w (Sort.grow (w.drewN k) os) :=
  ⟨rfl, rfl, rfl, by simp [Sort.grow], fun i hi => by
    show (w.heap ++ os)[i]? = w.heap[i]?
    rw [Array.getElem?_append_left hi]⟩
theorem dec_any (n : Int) (h0 : -9223372036854775808 ≤ n) (h1 : n ≤ 9223372036854775807) (w : World) (ht : Lib.TabIs Tryz.prog w "internal/strconv.uint64pow10" .u64 Lib.pow10Tab) :
    Calls Tryz.prog 33 #[.int .i64 n] w fun e w' => e = .returned (.string (decS n)) ∧ Below w.heap.size w w' := by
  have hc : Calls Tryz.prog 72 #[.int .i64 n, .int .i64 10] w fun e w' => e = .returned (.string (decS n)) ∧ Below w.heap.size w w' :=
    (Tryz.strconv_FormatInt_10 n h0 h1 w ht).mono fun e w' ⟨he, k, os, hw⟩ => ⟨he, by rw [hw]; exact below_grow w k os⟩
  generalize decS n = T at *
  clear ht
  go_enter Tryz.func33, Tryz.ntmps33
  go_wp2_with (go_at_call 72; refine hc.mono ?_; rintro e w' ⟨rfl, hb⟩)
  go_ret
  exact ⟨rfl, hb⟩
end Go.Proofs.YtooaafbdjnlmfaaGreatDoor

namespace Go.Proofs.YtooaafbdjnlmfaaGreatDoor
open Go.RowKit Go.Deep
theorem ext_list (l : List UInt8) (i j : Nat) : (⟨l.toArray⟩ : ByteArray).extract i j = ⟨((l.take j).drop i).toArray⟩ := by
  apply ByteArray.ext
  rw [ByteArray.data_extract]
  apply Array.toList_inj.1
  simp [List.drop_take]
theorem list_mk (l : List UInt8) : (⟨l.toArray⟩ : ByteArray).toList = l := by rw [ByteArray.toList_eq]
theorem fB_mk (l : List UInt8) (i : Nat) (h : i < l.length) : fB ⟨l.toArray⟩ i = (l[i]).toNat := by
  rw [fB_at _ _ (by rw [size_mk]; exact h)]
  rfl
theorem p_dtext (b f x : Nat) (hb : b ≤ 16) (hb2 : 2 ≤ b) (hx : x < 18446744073709551616) (h : x < b ^ (f + 1)) :
    pnum b ⟨(dtext b (f + 1) x).toArray⟩ = x ∧ pok b ⟨(dtext b (f + 1) x).toArray⟩ = true := by
  have hp := pdig_dtext b hb hb2 ⟨(dtext b (f + 1) x).toArray⟩ f x hx h (fun i hi => fB_mk _ i hi)
  rw [← size_mk] at hp
  obtain ⟨h1, h2⟩ := p_end hp
  refine ⟨h1, ?_⟩
  rw [h2, size_mk]
  have := dtext_pos b f x
  simp only [ne_eq, decide_eq_true_eq]
  omega
theorem hexS_eq (x : Nat) : hexS x = ⟨(48 :: 120 :: dtext 16 16 x).toArray⟩ := by
  unfold hexS
  apply ByteArray.ext
  rw [ByteArray.data_append]
  simp
theorem hex_back (x : Nat) (hx : x < 18446744073709551616) : parseN (hexS x) = x ∧ parseOk (hexS x) = true := by
  have hl := dtext_pos 16 15 x
  have hh : isHex (hexS x) := by
    rw [hexS_eq]
    refine ⟨by rw [size_mk]; simp; omega, ?_⟩
    rw [ext_list, list_mk]
    simp
  have ht : (hexS x).extract 2 (hexS x).size = ⟨(dtext 16 (15 + 1) x).toArray⟩ := by
    rw [hexS_eq, size_mk, ext_list]
    simp
  unfold parseN parseOk
  rw [if_pos hh, if_pos hh, ht]
  exact p_dtext 16 15 x (by omega) (by omega) hx (by omega)
theorem dch_dec (d : Nat) (h : d < 10) : 48 ≤ (dch d).toNat ∧ (dch d).toNat ≤ 57 := by
  have : ∀ d : Fin 10, 48 ≤ (dch d.val).toNat ∧ (dch d.val).toNat ≤ 57 := by decide +kernel
  exact this ⟨d, h⟩
theorem dtext_dig : ∀ (f x i : Nat) (h : i < (dtext 10 f x).length), 48 ≤ ((dtext 10 f x)[i]).toNat ∧ ((dtext 10 f x)[i]).toNat ≤ 57
  | 0, x, i, h => by simp [dtext] at h
  | f + 1, x, i, h => by
    by_cases hx : x < 10
    · have e : dtext 10 (f + 1) x = [dch x] := by rw [dtext, if_pos hx]
      simp only [e] at h ⊢
      simp at h
      subst h
      exact dch_dec x hx
    · have e : dtext 10 (f + 1) x = dtext 10 f (x / 10) ++ [dch (x % 10)] := by rw [dtext, if_neg hx]
      simp only [e] at h ⊢
      by_cases hi : i < (dtext 10 f (x / 10)).length
      · rw [List.getElem_append_left hi]; exact dtext_dig f (x / 10) i hi
      · rw [List.getElem_append_right (by omega)]
        simp
        exact dch_dec _ (by omega)
theorem dec_nat (x : Nat) (hx : x < 18446744073709551616) : parseN ⟨(dtext 10 20 x).toArray⟩ = x ∧ parseOk ⟨(dtext 10 20 x).toArray⟩ = true := by
  have hh : ¬ isHex ⟨(dtext 10 20 x).toArray⟩ := by
    intro h
    have h2 : 2 < (dtext 10 20 x).length := by have := h.1; rw [size_mk] at this; exact this
    have h3 := h.2
    rw [ext_list, list_mk] at h3
    have h4 : ((dtext 10 20 x).take 2)[1]? = some 120 := by rw [List.drop_zero] at h3; rw [h3]; rfl
    rw [List.getElem?_take_of_lt (by omega), List.getElem?_eq_getElem (by omega)] at h4
    have h5 := dtext_dig 20 x 1 (by omega)
    simp only [Option.some.injEq] at h4
    rw [h4] at h5
    exact absurd h5.2 (by decide)
  unfold parseN parseOk
  rw [if_neg hh, if_neg hh]
  exact p_dtext 10 19 x (by omega) (by omega) hx (by omega)
theorem dec_back (n : Int) (h0 : -9223372036854775808 ≤ n) (h1 : n ≤ 9223372036854775807) : intN (decS n) = n ∧ intOk (decS n) = true := by
  by_cases hn : n < 0
  · obtain ⟨x, rfl⟩ : ∃ x : Nat, n = -(x : Int) := ⟨n.natAbs, by omega⟩
    have hx : x < 18446744073709551616 := by omega
    have e : decS (-(x : Int)) = ⟨(45 :: dtext 10 20 x).toArray⟩ := by
      rw [decS_neg x (by omega) hx]
      apply ByteArray.ext
      rw [ByteArray.data_append]
      simp
    rw [e]
    have hg : isNeg ⟨(45 :: dtext 10 20 x).toArray⟩ := ⟨by rw [size_mk]; simp, by rw [ext_list, list_mk]; simp⟩
    have ht : tailS ⟨(45 :: dtext 10 20 x).toArray⟩ = ⟨(dtext 10 20 x).toArray⟩ := by
      unfold tailS
      rw [size_mk, ext_list]
      simp
    obtain ⟨p1, p2⟩ := dec_nat x hx
    unfold intN intOk
    rw [if_pos hg, if_pos hg, ht, p1, p2, if_pos ⟨rfl, by omega⟩]
    exact ⟨rfl, by simp; omega⟩
  · obtain ⟨x, rfl⟩ : ∃ x : Nat, n = (x : Int) := ⟨n.toNat, by omega⟩
    have hx : x < 18446744073709551616 := by omega
    rw [decS_pos x hx]
    have hg : ¬ isNeg ⟨(dtext 10 20 x).toArray⟩ := by
      intro h
      have h2 := dtext_pos 10 19 x
      have h3 := h.2
      rw [ext_list, list_mk] at h3
      have h4 : ((dtext 10 20 x).take 1)[0]? = some 45 := by rw [List.drop_zero] at h3; rw [h3]; rfl
      rw [List.getElem?_take_of_lt (by omega), List.getElem?_eq_getElem (by omega)] at h4
      have h5 := dtext_dig 20 x 0 (by omega)
      simp only [Option.some.injEq] at h4
      rw [h4] at h5
      exact absurd h5.1 (by decide)
    obtain ⟨p1, p2⟩ := dec_nat x hx
    unfold intN intOk
    rw [if_neg hg, if_neg hg, p1, p2, if_pos ⟨rfl, by omega⟩]
    exact ⟨rfl, by simp; omega⟩
theorem hexS_size (x : Nat) : (hexS x).size ≤ 9223372036854775807 := by
  have := dtext_len 16 16 x
  rw [hexS_eq, size_mk]
  simp
  omega
theorem decS_size (n : Int) (h0 : -9223372036854775808 ≤ n) (h1 : n ≤ 9223372036854775807) : (decS n).size ≤ 9223372036854775807 := by
  have := Lib.itoa_length_le n h0 h1
  unfold decS
  rw [size_mk]
  omega
/-- the library's two tables that are read lie where their variables are -/
structure TabsLie (w : World) : Prop where
  low : w.cell? ⟨10, 15, none⟩ = some (.int .u8 4)
  pow : Lib.TabIs Tryz.prog w "internal/strconv.uint64pow10" .u64 Lib.pow10Tab
theorem gPow : Tryz.prog.globalNamed "internal/strconv.uint64pow10" = some 5 := by kernel_rfl
theorem tabs_below {w w' : World} (h : TabsLie w) (hb : Below w.heap.size w w') : TabsLie w' := by
  have hs := block_lt_of_cell h.low
  refine ⟨by rw [hb.cell (p := ⟨10, 15, none⟩) hs]; exact h.low, ?_⟩
  exact var?_below hb gPow (by have : 10 < w.heap.size := hs; omega) h.pow
end Go.Proofs.YtooaafbdjnlmfaaGreatDoor
