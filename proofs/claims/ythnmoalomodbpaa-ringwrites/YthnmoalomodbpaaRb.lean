/- The document's Passed; the statement of layer 15 on it. -/
import Derived.Test.YthnmoalomodbpaaRa
namespace Go.Proofs.Ythnmoalomodbpaa
open Go.RowKit
set_option linter.unusedVariables false
set_option linter.unusedSimpArgs false
set_option maxRecDepth 100000

theorem rpassed_any (a b c : Nat) (ha : a ≤ 65535) (hb : b ≤ 65535) (hc : c ≤ 65535) (w : World) : Calls Try.prog 42 #[.int .i64 (a : Int), .int .i64 (b : Int), .int .i64 (c : Int)] w fun e w' => e = .returned (.bool (pastB a b c)) ∧ ∃ q, w' = w.drewN q := by
  go_enter Try.func42, Try.ntmps42
  go_wp2_with fail
  go_loopw [7] (fun v wr => ∃ x k : Nat, x = (b + k) % 65536 ∧ k ≤ (c + 65536 - b) % 65536 ∧ v = .int .i64 (x : Int) ∧ (∀ j, j < k → (b + j) % 65536 ≠ a) ∧ ∃ q, wr = w.drewN q) (fun v _ => (c + 65536 - (intOf v).toNat) % 65536)
  case atStart => exact ⟨b, 0, by omega, by omega, rfl, fun j hj => by omega, 0, rfl⟩
  case round =>
    obtain ⟨x, k, hx, hk, rfl, hj, q, rfl⟩ := hrel
    have HK : Hid (x = (b + k) % 65536 ∧ k ≤ (c + 65536 - b) % 65536 ∧ ∀ j, j < k → (b + j) % 65536 ≠ a) := ⟨hx, hk, hj⟩
    have hx2 : x ≤ 65535 := by omega
    clear hx hk hj
    by_cases hxc : x = c
    · subst hxc
      go_wp2_with fail
      go_ret
      refine ⟨ret_bool ?_, _, rfl⟩
      obtain ⟨h1, h2, h3⟩ := HK.out
      symm
      rw [pastB, decide_eq_false_iff_not]
      intro hlt
      refine h3 ((a + 65536 - b) % 65536) ?_ ?_
      · omega
      · omega
    · have hne : ((x : Int) == c) = false := by rw [beq_eq_false_iff_ne]; omega
      have hne2 : (x : Int) ≠ c := by omega
      by_cases hxa : x = a
      · have hea : ((x : Int) == a) = true := by rw [beq_iff_eq]; omega
        have HA : Hid (x = a ∧ x ≠ c) := ⟨hxa, hxc⟩
        clear hxa hxc hne2
        go_wp2_with fail
        go_ret
        refine ⟨ret_bool ?_, _, rfl⟩
        obtain ⟨h1, h2, h3⟩ := HK.out
        have h4 := HA.out
        symm
        rw [pastB, decide_eq_true_iff]
        omega
      · have hea : ((x : Int) == a) = false := by rw [beq_eq_false_iff_ne]; omega
        have HA : Hid (x ≠ a ∧ x ≠ c) := ⟨hxa, hxc⟩
        obtain ⟨y, hy⟩ : ∃ y : Nat, y = (x + 1) % 65536 := ⟨_, rfl⟩
        have hyi : ((x : Int) + 1).tmod 65536 = (y : Int) := by rw [Int.tmod_eq_emod_of_nonneg (by omega)]; omega
        have hyj : ((x : Int) + 1) % 65536 = (y : Int) := by omega
        have HY : Hid (y = (x + 1) % 65536) := hy
        clear hxa hxc hne2 hy
        go_wp2_with fail
        go_roundw
        case rel =>
          obtain ⟨h1, h2, h3⟩ := HK.out
          have h4 := HA.out
          have h5 := HY.out
          refine ⟨y, k + 1, by omega, by omega, rfl, fun j hj => ?_, _, rfl⟩
          by_cases hjk : j = k
          · rw [hjk]; omega
          · exact h3 j (by omega)
        case measure =>
          have h4 := HA.out
          have h5 := HY.out
          simp [intOf]
          omega
theorem passed_core (W : World) (a b c : Nat) (ha : a ≤ 65535) (hb : b ≤ 65535) (hc : c ≤ 65535) : Calls Try.prog 8 #[.int .u16 (a : Int), .int .u16 (b : Int), .int .u16 (c : Int)] W fun e w' => e = .returned (.bool true) ∧ Below W.heap.size W w' := by
  go_enter Try.func8, Try.ntmps8
  go_wp2_with fail
  refine (awake_any _).mono ?_
  rintro e w1 ⟨rfl, hb1⟩
  have HB : Hid (Below W.heap.size W w1) := hb1
  clear hb1
  go_wp2_with fail
  refine (passed_any a b c ha hb hc _).mono ?_
  rintro e w2 ⟨rfl, hw⟩
  rw [hw]
  clear hw w2
  go_wp2_with fail
  refine (rpassed_any a b c ha hb hc _).mono ?_
  rintro e w2 ⟨rfl, q, rfl⟩
  go_wp2_with fail
  go_ret
  exact ⟨ret_bool (by simp), below_drewN HB.out q⟩
theorem nat_u16 {x : Int} (h : (Lit.int .u16 x).wf = true) : ∃ n : Nat, x = n ∧ n ≤ 65535 := by
  have h := bounds_u16 h
  exact ⟨x.toNat, by omega, by omega⟩
theorem nat_u32 {x : Int} (h : (Lit.int .u32 x).wf = true) : ∃ n : Nat, x = n ∧ n ≤ 4294967295 := by
  have h := bounds_u32 h
  exact ⟨x.toNat, by omega, by omega⟩
theorem nat_u64 {x : Int} (h : (Lit.int .u64 x).wf = true) : ∃ n : Nat, x = n ∧ n < 18446744073709551616 := by
  have h := bounds_u64 h
  exact ⟨x.toNat, by omega, by omega⟩
theorem passed_walk (W : World) (a : Int) (ha : (Lit.int .u16 a).wf = true) (b : Int) (hb : (Lit.int .u16 b).wf = true) (c : Int) (hc : (Lit.int .u16 c).wf = true) : Calls Try.prog 8 #[.int .u16 a, .int .u16 b, .int .u16 c] W fun e w' => e = .returned (.bool true) ∧ Below W.heap.size W w' := by
  obtain ⟨a, rfl, ha2⟩ := nat_u16 ha
  obtain ⟨b, rfl, hb2⟩ := nat_u16 hb
  obtain ⟨c, rfl, hc2⟩ := nat_u16 hc
  exact passed_core W a b c ha2 hb2 hc2
end Go.Proofs.Ythnmoalomodbpaa
