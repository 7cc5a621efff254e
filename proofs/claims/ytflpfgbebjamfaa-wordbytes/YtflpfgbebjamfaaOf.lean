/- The calls Of of layer 1 and of the document's answer make one word of a row of bytes. -/
import Derived.Test.YtflpfgbebjamfaaByteRows
namespace Go.Proofs.Ytflpfgbebjamfaa
open Go.RowKit
/-- what is known of a slice of n numbers that is read -/
def Reads (k : IntKind) (w : World) (v : Value) (n : Nat) (f : Nat → Nat) : Prop :=
  (n = 0 ∧ ∃ a cap, v = .slice a 0 cap) ∨ ∃ b off cap, v = .slice (some ⟨b, off, none⟩) n cap ∧ ∀ i, i < n → w.cell? ⟨b, off + i, none⟩ = some (.int k (f i : Nat))
theorem reads_own {k : IntKind} {w : World} {base : Nat} {e : TypeId} {v : Value} {n : Nat} {f : Nat → Nat} (h : w.ownsRow base e 1 v n (rowK k f n)) : Reads k w v n f := by
  rcases h.2 with ⟨rfl, rfl⟩ | ⟨g, cap, cur, rfl, _⟩
  · exact .inl ⟨rfl, _, _, rfl⟩
  · exact .inr ⟨g, 0, cap, rfl, fun i hi => by rw [Nat.zero_add, h.cellAt i (by omega)]; exact rowK_get _ _ _ _ hi⟩
/-- the number whose digits in base 256 are m numbers of a function, from the one at i on -/
def h256 (f : Nat → Nat) : Nat → Nat → Nat
  | 0, _ => 0
  | m + 1, i => h256 f m (i + 1) * 256 + f i
theorem h256_lt (f : Nat → Nat) : ∀ (m i : Nat), (∀ j, j < m → f (i + j) ≤ 255) → h256 f m i < 256 ^ m
  | 0, _, _ => by simp [h256]
  | m + 1, i, h => by
    have h1 := h256_lt f m (i + 1) (fun j hj => by have := h (j + 1) (by omega); rwa [show i + 1 + j = i + (j + 1) from by omega])
    have h0 := h 0 (by omega)
    simp only [h256, Nat.pow_succ] at *
    simp at h0
    omega
theorem h256_snoc (f : Nat → Nat) : ∀ (m i : Nat), h256 f (m + 1) i = h256 f m i + f (i + m) * 256 ^ m
  | 0, i => by simp [h256]
  | m + 1, i => by
    have h1 := h256_snoc f m (i + 1)
    rw [h256, h1, h256, show i + 1 + m = i + (m + 1) from by omega, Nat.pow_succ]
    rw [Nat.add_mul, Nat.mul_assoc]
    omega
theorem h256_byteAt (x : Nat) : ∀ m, h256 (byteAt x) m 0 = x % 256 ^ m
  | 0 => by simp [h256, Nat.mod_one]
  | m + 1 => by
    rw [h256_snoc, h256_byteAt x m, Nat.zero_add, Nat.pow_succ, Nat.mod_mul]
    unfold byteAt
    rw [Nat.mul_comm (256 ^ m)]
theorem or_num (f : Nat → Nat) (k : Nat) (hk : k < 8) (hf : ∀ i, i ≤ k → f i ≤ 255) :
    bits .or .u64 (h256 f k 0 : Nat) (IntKind.u64.wrap ((f k : Int) * 2 ^ (8 * k))) = ((h256 f (k + 1) 0 : Nat) : Int) := by
  have hl := h256_lt f k 0 (fun j hj => by rw [Nat.zero_add]; exact hf j (by omega))
  have hfk := hf k (Nat.le_refl _)
  have hp : 256 ^ k ≤ 256 ^ 7 := Nat.pow_le_pow_right (by omega) (by omega)
  have hmul : f k * 2 ^ (8 * k) < 18446744073709551616 := by
    rw [← pow_256]
    calc f k * 256 ^ k ≤ 255 * 256 ^ 7 := Nat.mul_le_mul hfk hp
      _ < _ := by decide
  have e : IntKind.u64.wrap ((f k : Int) * 2 ^ (8 * k)) = ((f k * 2 ^ (8 * k) : Nat) : Int) := by
    have : (f k : Int) * 2 ^ (8 * k) = ((f k * 2 ^ (8 * k) : Nat) : Int) := by simp
    rw [wrap_u64, this]
    omega
  rw [e, bits_or_u64_nat _ _ (by omega) hmul, h256_snoc, Nat.zero_add]
  rw [pow_256] at hl ⊢
  rw [Nat.or_comm, Nat.mul_comm (f k), ← Nat.two_pow_add_eq_or_of_lt hl, Nat.add_comm]
set_option maxHeartbeats 400000 in
theorem of_any (f : Nat → Nat) (n m : Nat) (v : Value) (hn : n ≤ 4096) (hm : m = min n 8) (hf : ∀ i, i < n → f i ≤ 255) (w : World) (hr : Reads .u8 w v n f) :
    Calls Try.prog 21 #[v] w fun e w' => e = .returned (.int .u64 (h256 f m 0 : Nat)) ∧ w' = w := by
  have hm8 : (if (8 : Int) < (n : Int) then (8 : Int) else (n : Int)) = (m : Int) := by rw [hm]; split <;> omega
  have HM : Hid (m = min n 8) := hm
  clear hm
  rcases hr with ⟨rfl, a, cap, rfl⟩ | ⟨b, off, cap, rfl, hcell⟩
  · obtain rfl : m = 0 := by have := HM.out; omega
    go_enter Try.func21, Try.ntmps21
    go_wp2
    go_loop [3, 4, 8] (fun x _ i => x = .int .u64 0 ∧ i = .int .i64 0) (fun _ _ _ => 0)
    case atStart => exact ⟨rfl, rfl⟩
    case round =>
      obtain ⟨rfl, rfl⟩ := hrel
      go_wp2
      go_ret
      exact ⟨by simp [h256], rfl⟩
  · go_enter Try.func21, Try.ntmps21
    go_wp2
    go_loop [3, 4, 8] (fun x _ i => ∃ k : Nat, k ≤ m ∧ i = .int .i64 k ∧ x = .int .u64 (h256 f k 0 : Nat)) (fun _ _ i => 8 - (intOf i).toNat)
    case atStart => exact ⟨0, by omega, rfl, rfl⟩
    case round =>
      obtain ⟨k, hk, rfl, rfl⟩ := hrel
      by_cases hlt : k < m
      · have hk8 : k < 8 ∧ k < n := by have := HM.out; omega
        have hc := hcell k hk8.2
        have hor := or_num f k hk8.1 (fun i hi => hf i (by omega))
        have hfk := hf k hk8.2
        have et : (8 * (k : Int)).toNat = 8 * k := by omega
        have HS : Hid (((h256 f (k + 1) 0 : Nat) : Int) = ((h256 f (k + 1) 0 : Nat) : Int)) := rfl
        clear hcell hf
        go_wp2
        go_round
        case rel => exact ⟨k + 1, by omega, by go_num, rfl⟩
        case measure => simp [intOf]; omega
      · obtain rfl : k = m := by omega
        go_wp2
        go_ret
        exact ⟨rfl, rfl⟩
set_option maxHeartbeats 400000 in
theorem rof_any (f : Nat → Nat) (n m : Nat) (v : Value) (hn : n ≤ 4096) (hm : m = min n 8) (hf : ∀ i, i < n → f i ≤ 255) (w : World) (hr : Reads .u8 w v n f) :
    Calls Try.prog 22 #[v] w fun e w' => e = .returned (.int .u64 (h256 f m 0 : Nat)) ∧ w' = w := by
  have hm8 : (if (8 : Int) < (n : Int) then (8 : Int) else (n : Int)) = (m : Int) := by rw [hm]; split <;> omega
  have hmn : m ≤ 8 ∧ m ≤ n := by omega
  clear hm
  rcases hr with ⟨rfl, a, cap, rfl⟩ | ⟨b, off, cap, rfl, hcell⟩
  · obtain rfl : m = 0 := by omega
    go_enter Try.func22, Try.ntmps22
    go_wp2
    go_loop [3, 4] (fun x i => x = .int .u64 0 ∧ i = .int .i64 (-1)) (fun _ _ => 0)
    case atStart => exact ⟨rfl, rfl⟩
    case round =>
      obtain ⟨rfl, rfl⟩ := hrel
      go_wp2
      go_ret
      exact ⟨by simp [h256], rfl⟩
  · go_enter Try.func22, Try.ntmps22
    go_wp2
    go_loop [3, 4] (fun x i => ∃ k : Nat, k ≤ m ∧ i = .int .i64 ((k : Int) - 1) ∧ x = .int .u64 (h256 f (m - k) k : Nat)) (fun _ i => (intOf i + 1).toNat)
    case atStart => exact ⟨m, Nat.le_refl _, rfl, by simp [h256]⟩
    case round =>
      obtain ⟨k, hk, rfl, rfl⟩ := hrel
      by_cases hlt : 0 < k
      · obtain ⟨j, rfl⟩ : ∃ j, k = j + 1 := ⟨k - 1, by omega⟩
        have e : ((j + 1 : Nat) : Int) - 1 = (j : Int) := by omega
        rw [e]
        have hl := h256_lt f (m - (j + 1)) (j + 1) (fun i hi => hf _ (by omega))
        have hl2 : 256 ^ (m - (j + 1)) ≤ 256 ^ 7 := Nat.pow_le_pow_right (by omega) (by omega)
        have HE : Hid (h256 f (m - j) j = h256 f (m - (j + 1)) (j + 1) * 256 + f j) := by
          show h256 f (m - j) j = _
          rw [show m - j = m - (j + 1) + 1 from by omega]; rfl
        have hfj := hf j (by omega)
        have hc := hcell j (by omega)
        clear hcell hf e
        generalize hH : h256 f (m - (j + 1)) (j + 1) = h at *
        have hlt2 : h < 72057594037927936 := by simp at hl2; omega
        clear hl hl2 hH
        generalize hF : f j = b at *
        have HF : Hid (f j = b) := hF
        clear hF
        have hjn : (j : Int) < n := by omega
        go_wp2
        go_round
        case rel => exact ⟨j, by omega, by go_num, by rw [HE.out]; go_num⟩
        case measure => simp [intOf]
      · obtain rfl : k = 0 := by omega
        go_wp2
        go_ret
        exact ⟨rfl, rfl⟩
end Go.Proofs.Ytflpfgbebjamfaa
