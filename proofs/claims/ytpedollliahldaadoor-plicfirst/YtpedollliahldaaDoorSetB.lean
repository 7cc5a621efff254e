/- The calls Bits and Any of layer 1 make the word of some bits, and tell whether one of some is true. -/
import Derived.Test.YtpedollliahldaaDoorLow
namespace Go.Proofs.YtpedollliahldaaDoor
open Go.RowKit
set_option linter.unusedVariables false
set_option maxRecDepth 100000
/-- what is known of a slice of n values that is read -/
def ReadsV (w : World) (v : Value) (n : Nat) (f : Nat → Value) : Prop :=
  (n = 0 ∧ ∃ a cap, v = .slice a 0 cap) ∨ ∃ b off cap, v = .slice (some ⟨b, off, none⟩) n cap ∧ ∀ i, i < n → w.cell? ⟨b, off + i, none⟩ = some (f i)
theorem readsV_below {w w' : World} {v : Value} {n : Nat} {f : Nat → Value} (h : ReadsV w v n f) (hb : Below w.heap.size w w') : ReadsV w' v n f := by
  rcases h with h | ⟨b, off, cap, hv, hc⟩
  · exact .inl h
  · exact .inr ⟨b, off, cap, hv, fun i hi => by rw [hb.cell (p := ⟨b, off + i, none⟩) (block_lt_of_cell (hc i hi))]; exact hc i hi⟩
/-- the marks that the first k of some numbers set -/
def setF (z : Nat → Int) : Nat → Nat → Nat
  | 0, _ => 0
  | k + 1, j => if z k = j then 1 else setF z k j
theorem setF_le (z : Nat → Int) : ∀ k j, setF z k j ≤ 1
  | 0, _ => by simp [setF]
  | k + 1, j => by rw [setF]; split; omega; exact setF_le z k j
theorem hiOf_congr (f g : Nat → Nat) : ∀ (m i : Nat), (∀ j, j < m → f (i + j) = g (i + j)) → hiOf f m i = hiOf g m i
  | 0, _, _ => rfl
  | m + 1, i, h => by
    rw [hiOf, hiOf, hiOf_congr f g m (i + 1) (fun j hj => by have := h (j + 1) (by omega); rwa [show i + 1 + j = i + (j + 1) from by omega])]
    have := h 0 (by omega)
    simp at this
    rw [this]
theorem rowOf_congr (f g : Nat → Nat) (n : Nat) (h : ∀ i, i < n → f i = g i) : rowOf f n = rowOf g n := by
  unfold rowOf
  apply List.map_congr_left
  intro i hi
  rw [h i (by simpa using hi)]
theorem bitAt_hiOf (f : Nat → Nat) (j : Nat) (hj : j < 64) (hf : ∀ j, j < 64 → f j ≤ 1) : bitAt (hiOf f 64 0) j = f j := by
  have h := hiOf_testBit f 64 0 j (fun j hj => by simpa using hf j hj)
  rw [← bitAt_one] at h
  simp only [hj, decide_true, Bool.true_and, Nat.zero_add, decide_eq_decide] at h
  have h1 := hf j hj
  have h2 := bitAt_le (hiOf f 64 0) j
  omega
theorem hiOf_small (f : Nat → Nat) (hf : ∀ j, j < 64 → f j ≤ 1) : hiOf f 64 0 < 18446744073709551616 := by
  have := hiOf_lt f 64 0 (fun j hj => by simpa using hf j hj)
  omega
theorem put_step (z : Nat → Int) (k : Nat) : putA (hiOf (setF z k) 64 0) (z k) 1 1 = hiOf (setF z (k + 1)) 64 0 := by
  by_cases h : z k < 0 ∨ 63 < z k
  · rw [putA_out _ _ _ _ h]
    apply hiOf_congr
    intro j hj
    rw [setF, if_neg (by omega)]
  · obtain ⟨a, ha, e⟩ := place_nat (z k) h
    rw [e, putA_in _ a _ _ ha, show (min (1 : Int) 64).toNat = 1 from by decide, ← put_eq _ a 1 1 1 ha (by omega)]
    apply hiOf_congr
    intro j hj
    rw [setF, e]
    unfold putF
    by_cases hj2 : 0 + j = a
    · rw [if_pos (by omega), if_pos (by omega), show 0 + j - a = 0 from by omega]; decide
    · rw [if_neg (by omega), if_neg (by omega), Nat.zero_add, bitAt_hiOf _ _ hj (fun j _ => setF_le z k j)]
set_option maxHeartbeats 400000 in
theorem wbits_any (z : Nat → Int) (n : Nat) (v : Value) (hn : n ≤ 100) (w : World) (hr : ReadsV w v n (fun i => .int .i64 (z i))) :
    Calls Tryd.prog 34 #[v] w fun e w' => e = .returned (.int .u64 (hiOf (setF z n) 64 0 : Nat)) ∧ w' = w := by
  have h00 : hiOf (setF z 0) 64 0 = 0 := by
    rw [hiOf_eq (setF z 0) 64 0 (fun _ _ => by simp [setF]) (fun j => by simp [setF])]
  rcases hr with ⟨rfl, a, cap, rfl⟩ | ⟨b, off, cap, rfl, hcell⟩
  · rw [h00]
    go_enter Tryd.func34, Tryd.ntmps34
    go_wp2
    go_loop [3, 5, 8] (fun x _ i => x = .int .u64 0 ∧ i = .int .i64 0) (fun _ _ _ => 0)
    case atStart => exact ⟨rfl, rfl⟩
    case round =>
      obtain ⟨rfl, rfl⟩ := hrel
      go_wp2
      go_ret
      exact ⟨rfl, rfl⟩
  · go_enter Tryd.func34, Tryd.ntmps34
    go_wp2
    go_loop [3, 5, 8] (fun x _ i => ∃ k : Nat, k ≤ n ∧ i = .int .i64 k ∧ x = .int .u64 (hiOf (setF z k) 64 0 : Nat)) (fun _ _ i => n - (intOf i).toNat)
    case atStart => exact ⟨0, by omega, rfl, by rw [h00]; rfl⟩
    case round =>
      obtain ⟨k, hk, rfl, rfl⟩ := hrel
      by_cases hlt : k < n
      · have hc := hcell k hlt
        have hput := fun w => put_any (hiOf (setF z k) 64 0) (z k) 1 1 (hiOf_small _ (fun j _ => setF_le z k j)) w
        rw [put_step] at hput
        have hkn : (k : Int) < n := by omega
        clear hcell h00
        generalize hiOf (setF z k) 64 0 = x at *
        have HX : Hid (((hiOf (setF z (k + 1)) 64 0 : Nat) : Int) = ((hiOf (setF z (k + 1)) 64 0 : Nat) : Int)) := rfl
        go_wp2_with (go_at_call 43; refine (hput _).mono ?_; rintro e w' ⟨rfl, rfl⟩)
        go_round
        case rel => exact ⟨k + 1, by omega, by go_num, rfl⟩
        case measure => simp [intOf]; omega
      · obtain rfl : k = n := by omega
        go_wp2
        go_ret
        exact ⟨rfl, rfl⟩
theorem get_out (x : Nat) (a n : Int) (h : a < 0 ∨ 63 < a) (w : World) :
    Calls Tryd.prog 36 #[.int .u64 (x : Int), .int .i64 a, .int .i64 n] w fun e w' => e = .returned (.int .u64 0) ∧ w' = w := by
  have hp : ∀ w, Calls Tryd.prog 44 #[.int .i64 a] w fun e w' => e = .returned (.bool false) ∧ w' = w := fun w => place_out a h w
  clear h
  go_enter Tryd.func36, Tryd.ntmps36
  go_wp2_with (go_at_call 44; refine (hp _).mono ?_; rintro e w' ⟨rfl, rfl⟩)
  go_ret
  exact ⟨rfl, rfl⟩
theorem int_shr (x a : Nat) : (x : Int) / 2 ^ a = ((x / 2 ^ a : Nat) : Int) := by simp
theorem and_mask (x a M : Nat) (hx : x < 18446744073709551616) (hM : M ≤ 64) : bits .and .u64 ((x : Int) / 2 ^ a) ((2 ^ M - 1 : Nat) : Int) = ((x / 2 ^ a % 2 ^ M : Nat) : Int) := by
  have h1 : x / 2 ^ a < 18446744073709551616 := Nat.lt_of_le_of_lt (Nat.div_le_self _ _) hx
  have h2 : 2 ^ M ≤ 2 ^ 64 := Nat.pow_le_pow_right (by omega) hM
  have h3 : 0 < 2 ^ M := Nat.two_pow_pos M
  rw [int_shr, bits_and_u64_nat _ _ h1 (by omega), Nat.and_two_pow_sub_one_eq_mod]
set_option maxHeartbeats 400000 in
theorem get_any (x a : Nat) (n : Int) (M : Nat) (hx : x < 18446744073709551616) (ha : a ≤ 63) (hM : M = (min n 64).toNat) (w : World) :
    Calls Tryd.prog 36 #[.int .u64 (x : Int), .int .i64 (a : Int), .int .i64 n] w fun e w' => e = .returned (.int .u64 ((x / 2 ^ a % 2 ^ M : Nat) : Int)) ∧ ∃ k, w' = w.drewN k := by
  have ha2 := and_mask x a M hx (by omega)
  have HM : Hid (M = (min n 64).toNat) := hM
  clear hM
  generalize hQ : ((x / 2 ^ a % 2 ^ M : Nat) : Int) = q at *
  have hmk : ∀ w, Calls Tryd.prog 45 #[.int .i64 n] w fun e w' => e = .returned (.int .u64 ((2 ^ M - 1 : Nat) : Int)) ∧ w' = w := fun w => mask_any n M HM.out w
  generalize hP : ((2 ^ M - 1 : Nat) : Int) = p at *
  clear hQ hP
  go_enter Tryd.func36, Tryd.ntmps36
  go_wp2_with (go_at_call 44; refine (place_in _ (by omega) (by omega) _).mono ?_; rintro e w' ⟨rfl, rfl⟩)
  go_quiet ((go_at_call 45; exact Calls.quiet_of_same (hmk _)))
  go_wp2
  go_ret
  exact ⟨rfl, _, rfl⟩
theorem aligned_pos (a b : Int) (ha : 0 ≤ a) (hb : 0 < b) (w : World) : Calls Tryd.prog 35 #[.int .u64 a, .int .u64 b] w fun e w' => e = .returned (.bool (a % b == 0)) ∧ w' = w := by
  have h : (b == 0) = false := by simp; omega
  go_enter Tryd.func35, Tryd.ntmps35
  go_wp2
  go_ret
  exact ⟨rfl, rfl⟩

end Go.Proofs.YtpedollliahldaaDoor
