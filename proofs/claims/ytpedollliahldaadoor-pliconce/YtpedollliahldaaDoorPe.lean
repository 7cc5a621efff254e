/- Package plic's calls Load and Store. -/
import Derived.Test.YtpedollliahldaaDoorPd
namespace Go.Proofs.YtpedollliahldaaDoor
open Go.RowKit
set_option linter.unusedVariables false
set_option linter.unusedSimpArgs false
set_option maxRecDepth 100000
/-- may there be such an access? -/
def mayB (a : Nat) (n : Int) : Bool := decide (n = 4) && decide (a % 4 = 0) && decide (a < 4194304)
/-- which register lies at a place, and of which source or context -/
def findR (a : Nat) : Nat × Nat := if a < 128 then (1, a / 4) else if a = 4096 then (2, 0) else if a = 8192 then (3, 0) else if a = 2097152 then (4, 0) else if a = 2097156 then (5, 0) else if a = 8320 then (3, 1) else if a = 2101248 then (4, 1) else if a = 2101252 then (5, 1) else (0, 0)
def loadV (S : St) (a : Nat) : Nat := if (findR a).1 = 1 then S.prio (findR a).2 else if (findR a).1 = 2 then S.waits else if (findR a).1 = 3 then S.lets (findR a).2 else if (findR a).1 = 4 then S.least (findR a).2 else if (findR a).1 = 5 then firstN S (findR a).2 else 0
def loadS (S : St) (a : Nat) : St := if (findR a).1 = 5 then takeS S (findR a).2 else S
def storeS (S : St) (a v : Nat) : St := if (findR a).1 = 1 then (if (findR a).2 = 0 then S else { S with prio := updN S.prio (findR a).2 (v % 8) }) else if (findR a).1 = 3 then { S with lets := updN S.lets (findR a).2 (v % 4294967296 &&& 4294967294) } else if (findR a).1 = 4 then { S with least := updN S.least (findR a).2 (v % 8) } else if (findR a).1 = 5 ∧ v % 4294967296 < 32 ∧ v % 4294967296 ≠ 0 then doneS S (findR a).2 (v % 4294967296) else S
theorem findR_cases (a : Nat) : (a < 128 ∧ findR a = (1, a / 4)) ∨ (a = 4096 ∧ findR a = (2, 0)) ∨ (∃ c, c < 2 ∧ a = 8192 + 128 * c ∧ findR a = (3, c)) ∨ (∃ c, c < 2 ∧ a = 2097152 + 4096 * c ∧ findR a = (4, c)) ∨ (∃ c, c < 2 ∧ a = 2097156 + 4096 * c ∧ findR a = (5, c)) ∨ (findR a = (0, 0) ∧ 128 ≤ a ∧ a ≠ 4096 ∧ a ≠ 8192 ∧ a ≠ 8320 ∧ a ≠ 2097152 ∧ a ≠ 2101248 ∧ a ≠ 2097156 ∧ a ≠ 2101252) := by
  unfold findR
  by_cases h1 : a < 128
  · exact .inl ⟨h1, by rw [if_pos h1]⟩
  rw [if_neg h1]
  by_cases h2 : a = 4096
  · exact .inr (.inl ⟨h2, by rw [if_pos h2]⟩)
  rw [if_neg h2]
  by_cases h3 : a = 8192
  · exact .inr (.inr (.inl ⟨0, by omega, by omega, by rw [if_pos h3]⟩))
  rw [if_neg h3]
  by_cases h4 : a = 2097152
  · exact .inr (.inr (.inr (.inl ⟨0, by omega, by omega, by rw [if_pos h4]⟩)))
  rw [if_neg h4]
  by_cases h5 : a = 2097156
  · exact .inr (.inr (.inr (.inr (.inl ⟨0, by omega, by omega, by rw [if_pos h5]⟩))))
  rw [if_neg h5]
  by_cases h6 : a = 8320
  · exact .inr (.inr (.inl ⟨1, by omega, by omega, by rw [if_pos h6]⟩))
  rw [if_neg h6]
  by_cases h7 : a = 2101248
  · exact .inr (.inr (.inr (.inl ⟨1, by omega, by omega, by rw [if_pos h7]⟩)))
  rw [if_neg h7]
  by_cases h8 : a = 2101252
  · exact .inr (.inr (.inr (.inr (.inl ⟨1, by omega, by omega, by rw [if_pos h8]⟩))))
  rw [if_neg h8]
  exact .inr (.inr (.inr (.inr (.inr ⟨rfl, by omega, h2, h3, h6, h4, h7, h5, h8⟩))))
theorem loadS_ok {S : St} (h : S.Ok) (a : Nat) : (loadS S a).Ok := by
  unfold loadS
  split
  · exact takeS_ok h _
  · exact h
theorem updN_lt {f : Nat → Nat} {i x B : Nat} (h : ∀ j, f j < B) (hx : x < B) (j : Nat) : updN f i x j < B := by
  unfold updN
  split
  · exact hx
  · exact h j
theorem storeS_ok {S : St} (h : S.Ok) (a v : Nat) : (storeS S a v).Ok := by
  have h8 : v % 8 < 8 := by omega
  have h32 : v % 4294967296 &&& 4294967294 < 4294967296 := Nat.lt_of_le_of_lt Nat.and_le_right (by decide)
  unfold storeS
  split
  · split
    · exact h
    · exact ⟨fun j => updN_lt h.1 h8 j, h.2⟩
  · split
    · exact ⟨h.1, h.2.1, h.2.2.1, h.2.2.2.1, fun j => updN_lt h.2.2.2.2.1 h32 j, h.2.2.2.2.2⟩
    · split
      · exact ⟨h.1, h.2.1, h.2.2.1, h.2.2.2.1, h.2.2.2.2.1, fun j => updN_lt h.2.2.2.2.2 h8 j⟩
      · split
        · rename_i hh
          exact doneS_ok h _ _ hh.2.1
        · exact h
theorem allowed_any (a : Nat) (n : Int) (ha : a < 18446744073709551616) (w : World) : Calls Tryd.prog 21 #[.int .u64 (a : Int), .int .i64 n] w fun e w' => e = .returned (.bool (mayB a n)) ∧ w' = w := by
  have hal := aligned_pos (a : Int) 4 (by omega) (by omega)
  by_cases h : n = 4
  · subst h
    by_cases h2 : a % 4 = 0
    · have e2 : (((a : Int) % 4) == 0) = true := by simp; omega
      rw [e2] at hal
      have HR : Hid (mayB a 4 = decide ((a : Int) < 4194304)) := by
        show mayB a 4 = _
        unfold mayB
        simp [h2]
        rw [show (4194304 : Int) = ((4194304 : Nat) : Int) from rfl, Int.ofNat_lt]
      clear h2 e2 ha
      go_enter Tryd.func21, Tryd.ntmps21
      go_wp2_with (go_at_call 35; refine (hal _).mono ?_; rintro e w' ⟨rfl, rfl⟩)
      go_ret
      exact ⟨by rw [HR.out]; rfl, rfl⟩
    · have e2 : (((a : Int) % 4) == 0) = false := by simp; omega
      rw [e2] at hal
      have HR : Hid (mayB a 4 = false) := by show mayB a 4 = _; unfold mayB; simp [h2]
      clear h2 e2 ha
      go_enter Tryd.func21, Tryd.ntmps21
      go_wp2_with (go_at_call 35; refine (hal _).mono ?_; rintro e w' ⟨rfl, rfl⟩)
      go_ret
      exact ⟨by rw [HR.out]; rfl, rfl⟩
  · have e1 : (n == 4) = false := by simp; exact h
    have HR : Hid (mayB a n = false) := by show mayB a n = _; unfold mayB; simp [h]
    clear h ha hal
    go_enter Tryd.func21, Tryd.ntmps21
    go_wp2_with fail
    go_ret
    exact ⟨by rw [HR.out]; rfl, rfl⟩
theorem level_any (v : Nat) (hv : v < 18446744073709551616) (w : World) : Calls Tryd.prog 23 #[.int .u64 (v : Int)] w fun e w' => e = .returned (.int .u32 (v % 8 : Nat)) ∧ Below w.heap.size w w' := by
  have h := get_any v 0 3 3 hv (by omega) (by decide)
  rw [show v / 2 ^ 0 % 2 ^ 3 = v % 8 from by simp] at h
  have hw : IntKind.u32.wrap ((v % 8 : Nat) : Int) = ((v % 8 : Nat) : Int) := by
    have : v % 8 < 8 := by omega
    generalize v % 8 = q at *
    simp only [IntKind.wrap, IntKind.signed, IntKind.bits]
    simp
    omega
  generalize ((v % 8 : Nat) : Int) = q at *
  clear hv
  go_enter Tryd.func23, Tryd.ntmps23
  go_wp2_with fail
  refine (h _).mono ?_
  rintro e w1 ⟨rfl, k, hk⟩
  have X1 : Hid (Below w.heap.size w w1) := by rw [hk]; exact below_drewN (Below.refl _ _) k
  clear hk
  go_wp2_with fail
  go_ret
  exact ⟨rfl, X1.out⟩
theorem wrap_i64_s (n : Nat) (h : n < 9223372036854775808) : IntKind.i64.wrap (n : Int) = (n : Int) := by
  simp only [IntKind.wrap, IntKind.signed, IntKind.bits]
  simp
  omega
theorem u64_lit (x : Int) (h : 0 ≤ x) (h2 : x < 18446744073709551616) : IntKind.u64.wrap x = x := by rw [wrap_u64]; omega
set_option maxHeartbeats 2000000 in
theorem find_any (a : Nat) (ha : a < 18446744073709551616) (w : World) : Calls Tryd.prog 22 #[.int .u64 (a : Int)] w fun e w' => e = .returned (.tuple #[.int .i64 ((findR a).1 : Nat), .int .i64 ((findR a).2 : Nat)]) ∧ w' = w := by
  by_cases h1 : a < 128
  · have HR : Hid (findR a = (1, a / 4)) := by show findR a = _; simp [findR, h1]
    have hl : (a : Int) < 128 := by omega
    clear h1 ha
    go_enter Tryd.func22, Tryd.ntmps22
    go_wp2_with fail
    go_ret2
    exact ⟨by rw [HR.out]; rfl, rfl⟩
  have hl : ¬ (a : Int) < 128 := by omega
  by_cases h2 : a = 4096
  · subst h2
    go_enter Tryd.func22, Tryd.ntmps22
    go_wp2_with fail
    go_ret2
    exact ⟨by rw [show findR 4096 = (2, 0) from by decide]; rfl, rfl⟩
  have e2 : ((a : Int) == 4096) = false := by simp; omega
  have T0 : Hid (findR a = if a = 8192 then (3, 0) else if a = 2097152 then (4, 0) else if a = 2097156 then (5, 0) else if a = 8320 then (3, 1) else if a = 2101248 then (4, 1) else if a = 2101252 then (5, 1) else (0, 0)) := by show findR a = _; simp [findR, h1, h2]
  clear h1 h2 ha
  go_enter Tryd.func22, Tryd.ntmps22
  go_wp2_with fail
  go_loop [13] (fun i => (i = .int .i64 0) ∨ (i = .int .i64 1 ∧ a ≠ 8192 ∧ a ≠ 2097152 ∧ a ≠ 2097156) ∨ (i = .int .i64 2 ∧ findR a = (0, 0))) (fun i => 2 - (intOf i).toNat)
  case atStart => exact .inl rfl
  case round =>
    rcases hrel with rfl | ⟨rfl, k1, k2, k3⟩ | ⟨rfl, hr⟩
    · by_cases g1 : a = 8192
      · have HR : Hid (findR a = (3, 0)) := by rw [T0.out, if_pos g1]; rfl
        have e1 : ((a : Int) == 8192) = true := by simp; omega
        clear g1 T0
        go_wp2_with fail
        go_ret2
        exact ⟨by rw [HR.out]; rfl, rfl⟩
      have e1 : ((a : Int) == 8192) = false := by simp; omega
      by_cases g2 : a = 2097152
      · have HR : Hid (findR a = (4, 0)) := by rw [T0.out, if_neg g1, if_pos g2]; rfl
        have e3 : ((a : Int) == 2097152) = true := by simp; omega
        clear g1 g2 T0
        go_wp2_with fail
        go_ret2
        exact ⟨by rw [HR.out]; rfl, rfl⟩
      have e3 : ((a : Int) == 2097152) = false := by simp; omega
      by_cases g3 : a = 2097156
      · have HR : Hid (findR a = (5, 0)) := by rw [T0.out, if_neg g1, if_neg g2, if_pos g3]; rfl
        have e4 : ((a : Int) == 2097156) = true := by simp; omega
        clear g1 g2 g3 T0
        go_wp2_with fail
        go_ret2
        exact ⟨by rw [HR.out]; rfl, rfl⟩
      have e4 : ((a : Int) == 2097156) = false := by simp; omega
      have HG : Hid (a ≠ 8192 ∧ a ≠ 2097152 ∧ a ≠ 2097156) := ⟨g1, g2, g3⟩
      clear g1 g2 g3
      go_wp2_with fail
      go_round
      case rel => exact .inr (.inl ⟨rfl, HG.out⟩)
      case measure => simp [intOf]
    · have T1 : Hid (findR a = if a = 8320 then (3, 1) else if a = 2101248 then (4, 1) else if a = 2101252 then (5, 1) else (0, 0)) := by rw [T0.out, if_neg k1, if_neg k2, if_neg k3]; rfl
      clear k1 k2 k3 T0
      by_cases g1 : a = 8320
      · have HR : Hid (findR a = (3, 1)) := by rw [T1.out, if_pos g1]; rfl
        have e1 : ((a : Int) == 8320) = true := by simp; omega
        clear g1 T1
        go_wp2_with fail
        go_ret2
        exact ⟨by rw [HR.out]; rfl, rfl⟩
      have e1 : ((a : Int) == 8320) = false := by simp; omega
      by_cases g2 : a = 2101248
      · have HR : Hid (findR a = (4, 1)) := by rw [T1.out, if_neg g1, if_pos g2]; rfl
        have e3 : ((a : Int) == 2101248) = true := by simp; omega
        clear g1 g2 T1
        go_wp2_with fail
        go_ret2
        exact ⟨by rw [HR.out]; rfl, rfl⟩
      have e3 : ((a : Int) == 2101248) = false := by simp; omega
      by_cases g3 : a = 2101252
      · have HR : Hid (findR a = (5, 1)) := by rw [T1.out, if_neg g1, if_neg g2, if_pos g3]; rfl
        have e4 : ((a : Int) == 2101252) = true := by simp; omega
        clear g1 g2 g3 T1
        go_wp2_with fail
        go_ret2
        exact ⟨by rw [HR.out]; rfl, rfl⟩
      have e4 : ((a : Int) == 2101252) = false := by simp; omega
      have HR : Hid (findR a = (0, 0)) := by rw [T1.out, if_neg g1, if_neg g2, if_neg g3]; rfl
      clear g1 g2 g3 T1
      go_wp2_with fail
      go_round
      case rel => exact .inr (.inr ⟨rfl, HR.out⟩)
      case measure => simp [intOf]
    · have HR : Hid (findR a = (0, 0)) := hr
      clear hr
      go_wp2_with fail
      go_ret2
      exact ⟨by rw [HR.out]; rfl, rfl⟩
end Go.Proofs.YtpedollliahldaaDoor
