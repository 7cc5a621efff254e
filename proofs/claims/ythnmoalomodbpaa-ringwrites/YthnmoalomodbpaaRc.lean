/- Check on both sides. -/
import Derived.Test.YthnmoalomodbpaaRa
import Derived.Test.YthnmoalomodbpaaMh
namespace Go.Proofs.Ythnmoalomodbpaa
open Go.RowKit
set_option linter.unusedVariables false
set_option linter.unusedSimpArgs false
set_option maxRecDepth 100000

def okB (s : Int) (D A U : Nat) : Bool := powB s && (((D : Int) % 16 == 0) && (((A : Int) % 2 == 0) && ((U : Int) % 4 == 0)))
def inA (D A U sz : Nat) (n : Nat) : Bool := inB D (16 * (n : Int)) 2147483648 sz && (inB A (6 + 2 * (n : Int)) 2147483648 sz && inB U (6 + 8 * (n : Int)) 2147483648 sz)
/-- what Check tells of a layout -/
def chkN (s : Int) (D A U sz : Nat) : Int := if okB s D A U = true then (if inA D A U sz s.toNat = true then 0 else 21) else 150
theorem chk_150 {s : Int} {D A U : Nat} (sz : Nat) (h : okB s D A U = false) : chkN s D A U sz = 150 := by rw [chkN, h]; rfl
theorem chk_21 {n : Nat} {D A U sz : Nat} (h : okB (n : Int) D A U = true) (h2 : inA D A U sz n = false) : chkN (n : Int) D A U sz = 21 := by rw [chkN, h, Int.toNat_natCast, h2]; rfl
theorem chk_0 {n : Nat} {D A U sz : Nat} (h : okB (n : Int) D A U = true) (h2 : inA D A U sz n = true) : chkN (n : Int) D A U sz = 0 := by rw [chkN, h, Int.toNat_natCast, h2]; rfl
theorem chk_zero {s : Int} {D A U sz : Nat} (h : chkN s D A U sz = 0) : ∃ n : Nat, s = n ∧ 1 ≤ n ∧ n ≤ 256 ∧ powB (n : Int) = true ∧ D % 16 = 0 ∧ A % 2 = 0 ∧ U % 4 = 0 ∧ (2147483648 ≤ D ∧ D + 16 * n ≤ 2147483648 + sz) ∧ (2147483648 ≤ A ∧ A + 6 + 2 * n ≤ 2147483648 + sz) ∧ (2147483648 ≤ U ∧ U + 6 + 8 * n ≤ 2147483648 + sz) := by
  by_cases h1 : okB s D A U = true
  · have h2 := h1
    simp only [okB, Bool.and_eq_true, beq_iff_eq] at h1
    obtain ⟨n, rfl, hn1, hn2⟩ := pow_in h1.1
    by_cases h3 : inA D A U sz n = true
    · have h4 := h3
      simp only [inA, inB, Bool.and_eq_true, decide_eq_true_iff] at h3
      exact ⟨n, rfl, hn1, hn2, h1.1, by omega, by omega, by omega, by omega, by omega, by omega⟩
    · rw [chk_21 h2 (by simpa using h3)] at h; cases h
  · rw [chk_150 sz (by simpa using h1)] at h; cases h
theorem has_yes {w : World} {F : Nat → Prop} {rb size n : Nat} {lg : Value} {M : Nat → Nat} (h : RamAt w F rb size n lg M) (hs : size ≤ 268435456) (x : Nat) (y : Int) (hx : x < 18446744073709551616) (h0 : 0 ≤ y) (h1 : y < 18446744073709551616) : Calls Try.prog 47 #[.pointer (some ⟨rb, 0, none⟩), .int .u64 (x : Int), .int .u64 y] w fun e w' => e = .returned (.bool (inB x y 2147483648 size)) ∧ w' = w := by
  obtain ⟨L, rfl⟩ : ∃ L : Nat, y = L := ⟨y.toNat, by omega⟩
  exact has_any h hs x L hx (by omega)
theorem rhas_yes (s x : Nat) (y : Int) (v : Value) (hs : s < 18446744073709551616) (hx : x < 18446744073709551616) (h0 : 0 ≤ y) (h1 : y < 18446744073709551616) (w : World) : Calls Try.prog 48 #[.agg #[.int .u64 (s : Int), v], .int .u64 (x : Int), .int .u64 y] w fun e w' => e = .returned (.bool (inB x y 2147483648 s)) ∧ Below w.heap.size w w' := by
  obtain ⟨L, rfl⟩ : ∃ L : Nat, y = L := ⟨y.toNat, by omega⟩
  exact (rhas_any s x L v hs hx (by omega) w).mono fun e w' ⟨he, hb⟩ => ⟨he, hb⟩

theorem check_bad {s : Int} {D A U : Nat} (h : okB s D A U = false) (p : Value) (w : World) :
    Calls Try.prog 11 #[p, .agg #[.int .i64 s, .int .u64 (D : Int), .int .u64 (A : Int), .int .u64 (U : Int)]] w fun e w' => e = .returned (.int .i64 150) ∧ Below w.heap.size w w' := by
  have bx : Below w.heap.size w (w.alloc (.cells #[.int .i64 s, .int .u64 (D : Int), .int .u64 (A : Int), .int .u64 (U : Int)] 24)) := (Below.refl _ _).alloc (Nat.le_refl _) _
  have HB : Hid (Below w.heap.size w (w.alloc (.cells #[.int .i64 s, .int .u64 (D : Int), .int .u64 (A : Int), .int .u64 (U : Int)] 24))) := bx
  clear bx
  unfold okB at h
  obtain ⟨b0, h0⟩ : ∃ b, powB s = b := ⟨_, rfl⟩
  obtain ⟨b1, h1⟩ : ∃ b, ((D : Int) % 16 == 0) = b := ⟨_, rfl⟩
  obtain ⟨b2, h2⟩ : ∃ b, ((A : Int) % 2 == 0) = b := ⟨_, rfl⟩
  obtain ⟨b3, h3⟩ : ∃ b, ((U : Int) % 4 == 0) = b := ⟨_, rfl⟩
  rw [h0, h1, h2, h3] at h
  have H : Hid (powB s = b0 ∧ ((D : Int) % 16 == 0) = b1 ∧ ((A : Int) % 2 == 0) = b2 ∧ ((U : Int) % 4 == 0) = b3) := ⟨h0, h1, h2, h3⟩
  clear h0 h1 h2 h3
  cases b0 with
  | false =>
    go_enter Try.func11, Try.ntmps11
    go_wp2_with (first | (go_at_call 13; refine (power_any _ _).mono ?_; rintro e w2 ⟨rfl, hw⟩; rw [hw]; clear hw w2; rw [H.out.1]) | (go_at_call 46; refine (aligned_pos _ _ (by omega) (by decide) _).mono ?_; rintro e w2 ⟨rfl, hw⟩; rw [hw]; clear hw w2; first | rw [H.out.2.1] | rw [H.out.2.2.1] | rw [H.out.2.2.2]))
    go_ret
    exact ⟨rfl, HB.out⟩
  | true =>
    cases b1 with
    | false =>
      go_enter Try.func11, Try.ntmps11
      go_wp2_with (first | (go_at_call 13; refine (power_any _ _).mono ?_; rintro e w2 ⟨rfl, hw⟩; rw [hw]; clear hw w2; rw [H.out.1]) | (go_at_call 46; refine (aligned_pos _ _ (by omega) (by decide) _).mono ?_; rintro e w2 ⟨rfl, hw⟩; rw [hw]; clear hw w2; first | rw [H.out.2.1] | rw [H.out.2.2.1] | rw [H.out.2.2.2]))
      go_ret
      exact ⟨rfl, HB.out⟩
    | true =>
      cases b2 with
      | false =>
        go_enter Try.func11, Try.ntmps11
        go_wp2_with (first | (go_at_call 13; refine (power_any _ _).mono ?_; rintro e w2 ⟨rfl, hw⟩; rw [hw]; clear hw w2; rw [H.out.1]) | (go_at_call 46; refine (aligned_pos _ _ (by omega) (by decide) _).mono ?_; rintro e w2 ⟨rfl, hw⟩; rw [hw]; clear hw w2; first | rw [H.out.2.1] | rw [H.out.2.2.1] | rw [H.out.2.2.2]))
        go_ret
        exact ⟨rfl, HB.out⟩
      | true =>
        cases b3 with
        | false =>
          go_enter Try.func11, Try.ntmps11
          go_wp2_with (first | (go_at_call 13; refine (power_any _ _).mono ?_; rintro e w2 ⟨rfl, hw⟩; rw [hw]; clear hw w2; rw [H.out.1]) | (go_at_call 46; refine (aligned_pos _ _ (by omega) (by decide) _).mono ?_; rintro e w2 ⟨rfl, hw⟩; rw [hw]; clear hw w2; first | rw [H.out.2.1] | rw [H.out.2.2.1] | rw [H.out.2.2.2]))
          go_ret
          exact ⟨rfl, HB.out⟩
        | true => cases h

theorem idx0 (a b c d x y : Value) (w : World) : (Instr.index 38 (.agg #[a, b, c, d, x, y]) (.int .i64 0)).run Try.prog w = .ok (.agg #[a, b]) w := by kernel_rfl
theorem idx1 (a b c d x y : Value) (w : World) : (Instr.index 38 (.agg #[a, b, c, d, x, y]) (.int .i64 1)).run Try.prog w = .ok (.agg #[c, d]) w := by kernel_rfl
theorem idx2 (a b c d x y : Value) (w : World) : (Instr.index 38 (.agg #[a, b, c, d, x, y]) (.int .i64 2)).run Try.prog w = .ok (.agg #[x, y]) w := by kernel_rfl

theorem check_good {n : Nat} {D A U : Nat} (hD : D < 18446744073709551616) (hA : A < 18446744073709551616) (hU : U < 18446744073709551616) (h : okB (n : Int) D A U = true) {w : World} {F : Nat → Prop} {rb size m : Nat} {lg : Value} {M : Nat → Nat} (hr : RamAt w F rb size m lg M) (hs : size ≤ 268435456) :
    Calls Try.prog 11 #[.pointer (some ⟨rb, 0, none⟩), .agg #[.int .i64 (n : Int), .int .u64 (D : Int), .int .u64 (A : Int), .int .u64 (U : Int)]] w fun e w' => e = .returned (.int .i64 (chkN (n : Int) D A U size)) ∧ Below w.heap.size w w' := by
  have bx : Below w.heap.size w (w.alloc (.cells #[.int .i64 (n : Int), .int .u64 (D : Int), .int .u64 (A : Int), .int .u64 (U : Int)] 24)) := (Below.refl _ _).alloc (Nat.le_refl _) _
  have HB : Hid (Below w.heap.size w (w.alloc (.cells #[.int .i64 (n : Int), .int .u64 (D : Int), .int .u64 (A : Int), .int .u64 (U : Int)] 24))) := bx
  clear bx
  have HOK : Hid (okB (n : Int) D A U = true) := h
  have HR : Hid (RamAt w F rb size m lg M) := hr
  simp only [okB, Bool.and_eq_true] at h
  obtain ⟨n', hn', hn1, hn2⟩ := pow_in h.1
  have hn : n ≤ 256 := by omega
  clear hn' hn1 hn2 n' hr
  have H : Hid (powB (n : Int) = true ∧ ((D : Int) % 16 == 0) = true ∧ ((A : Int) % 2 == 0) = true ∧ ((U : Int) % 4 == 0) = true) := h
  clear h
  go_enter Try.func11, Try.ntmps11
  go_wp2_with (first | (go_at_call 13; refine (power_any _ _).mono ?_; rintro e w2 ⟨rfl, hw⟩; rw [hw]; clear hw w2; rw [H.out.1]) | (go_at_call 46; refine (aligned_pos _ _ (by omega) (by decide) _).mono ?_; rintro e w2 ⟨rfl, hw⟩; rw [hw]; clear hw w2; first | rw [H.out.2.1] | rw [H.out.2.2.1] | rw [H.out.2.2.2]) | (go_at_call 15; refine (areas_any n D A U (by omega) _).mono ?_; rintro e w2 ⟨rfl, hb2⟩; have HB2 : Hid (Below w.heap.size w w2) := HB.out.trans (hb2.mono HB.out.size); clear hb2))
  clear HB
  go_loopw [31] (fun v wr => ∃ k : Nat, k ≤ 3 ∧ v = .int .i64 (k : Int) ∧ (0 < k → inB D (16 * (n : Int)) 2147483648 size = true) ∧ (1 < k → inB A (6 + 2 * (n : Int)) 2147483648 size = true) ∧ (2 < k → inB U (6 + 8 * (n : Int)) 2147483648 size = true) ∧ Below w.heap.size w wr) (fun v _ => 3 - (intOf v).toNat)
  case atStart => exact ⟨0, by omega, rfl, fun h => by omega, fun h => by omega, fun h => by omega, HB2.out⟩
  case round =>
    obtain ⟨k, hk, rfl, r0, r1, r2, hbr⟩ := hrel
    have R : Hid ((0 < k → inB D (16 * (n : Int)) 2147483648 size = true) ∧ (1 < k → inB A (6 + 2 * (n : Int)) 2147483648 size = true) ∧ (2 < k → inB U (6 + 8 * (n : Int)) 2147483648 size = true) ∧ Below w.heap.size w wr) := ⟨r0, r1, r2, hbr⟩
    clear r0 r1 r2 hbr HB2
    rcases (by omega : k = 0 ∨ k = 1 ∨ k = 2 ∨ k = 3) with hk0 | hk0 | hk0 | hk0
    · subst hk0
      have hix : ∀ V, (Instr.index 38 (.agg #[.int .u64 (D : Int), .int .u64 (16 * (n : Int)), .int .u64 (A : Int), .int .u64 (6 + 2 * (n : Int)), .int .u64 (U : Int), .int .u64 (6 + 8 * (n : Int))]) (.int .i64 0)).run Try.prog V = .ok (.agg #[.int .u64 (D : Int), .int .u64 (16 * (n : Int))]) V := fun V => idx0 _ _ _ _ _ _ V
      have HR2 : Hid (RamAt (wr.alloc (.cells #[.int .u64 (D : Int), .int .u64 (16 * (n : Int))] 37)) F rb size m lg M) := (HR.out.below R.out.2.2.2).below (Below.alloc (Below.refl _ _) (Nat.le_refl _) _)
      obtain ⟨b, hb⟩ : ∃ b, inB D (16 * (n : Int)) 2147483648 size = b := ⟨_, rfl⟩
      have HBB : Hid (inB D (16 * (n : Int)) 2147483648 size = b) := hb
      clear hb
      cases b with
      | false =>
        go_wp2_with (first | (go_at_call 47; refine (has_yes HR2.out hs D (16 * (n : Int)) (by omega) (by omega) (by omega)).mono ?_; rintro e w2 ⟨rfl, hw⟩; rw [hw]; clear hw w2; rw [HBB.out]))
        go_ret
        exact ⟨by rw [chk_21 HOK.out (by simp [inA, HBB.out])]; rfl, R.out.2.2.2.alloc R.out.2.2.2.size _⟩
      | true =>
        go_wp2_with (first | (go_at_call 47; refine (has_yes HR2.out hs D (16 * (n : Int)) (by omega) (by omega) (by omega)).mono ?_; rintro e w2 ⟨rfl, hw⟩; rw [hw]; clear hw w2; rw [HBB.out]))
        go_roundw
        case rel => exact ⟨1, by omega, rfl, fun _ => HBB.out, fun h => by omega, fun h => by omega, R.out.2.2.2.alloc R.out.2.2.2.size _⟩
        case measure => simp [intOf]
    · subst hk0
      have hix : ∀ V, (Instr.index 38 (.agg #[.int .u64 (D : Int), .int .u64 (16 * (n : Int)), .int .u64 (A : Int), .int .u64 (6 + 2 * (n : Int)), .int .u64 (U : Int), .int .u64 (6 + 8 * (n : Int))]) (.int .i64 1)).run Try.prog V = .ok (.agg #[.int .u64 (A : Int), .int .u64 (6 + 2 * (n : Int))]) V := fun V => idx1 _ _ _ _ _ _ V
      have HR2 : Hid (RamAt (wr.alloc (.cells #[.int .u64 (A : Int), .int .u64 (6 + 2 * (n : Int))] 37)) F rb size m lg M) := (HR.out.below R.out.2.2.2).below (Below.alloc (Below.refl _ _) (Nat.le_refl _) _)
      obtain ⟨b, hb⟩ : ∃ b, inB A (6 + 2 * (n : Int)) 2147483648 size = b := ⟨_, rfl⟩
      have HBB : Hid (inB A (6 + 2 * (n : Int)) 2147483648 size = b) := hb
      clear hb
      cases b with
      | false =>
        go_wp2_with (first | (go_at_call 47; refine (has_yes HR2.out hs A (6 + 2 * (n : Int)) (by omega) (by omega) (by omega)).mono ?_; rintro e w2 ⟨rfl, hw⟩; rw [hw]; clear hw w2; rw [HBB.out]))
        go_ret
        exact ⟨by rw [chk_21 HOK.out (by simp [inA, HBB.out])]; rfl, R.out.2.2.2.alloc R.out.2.2.2.size _⟩
      | true =>
        go_wp2_with (first | (go_at_call 47; refine (has_yes HR2.out hs A (6 + 2 * (n : Int)) (by omega) (by omega) (by omega)).mono ?_; rintro e w2 ⟨rfl, hw⟩; rw [hw]; clear hw w2; rw [HBB.out]))
        go_roundw
        case rel => exact ⟨2, by omega, rfl, fun _ => R.out.1 (by omega), fun _ => HBB.out, fun h => by omega, R.out.2.2.2.alloc R.out.2.2.2.size _⟩
        case measure => simp [intOf]
    · subst hk0
      have hix : ∀ V, (Instr.index 38 (.agg #[.int .u64 (D : Int), .int .u64 (16 * (n : Int)), .int .u64 (A : Int), .int .u64 (6 + 2 * (n : Int)), .int .u64 (U : Int), .int .u64 (6 + 8 * (n : Int))]) (.int .i64 2)).run Try.prog V = .ok (.agg #[.int .u64 (U : Int), .int .u64 (6 + 8 * (n : Int))]) V := fun V => idx2 _ _ _ _ _ _ V
      have HR2 : Hid (RamAt (wr.alloc (.cells #[.int .u64 (U : Int), .int .u64 (6 + 8 * (n : Int))] 37)) F rb size m lg M) := (HR.out.below R.out.2.2.2).below (Below.alloc (Below.refl _ _) (Nat.le_refl _) _)
      obtain ⟨b, hb⟩ : ∃ b, inB U (6 + 8 * (n : Int)) 2147483648 size = b := ⟨_, rfl⟩
      have HBB : Hid (inB U (6 + 8 * (n : Int)) 2147483648 size = b) := hb
      clear hb
      cases b with
      | false =>
        go_wp2_with (first | (go_at_call 47; refine (has_yes HR2.out hs U (6 + 8 * (n : Int)) (by omega) (by omega) (by omega)).mono ?_; rintro e w2 ⟨rfl, hw⟩; rw [hw]; clear hw w2; rw [HBB.out]))
        go_ret
        exact ⟨by rw [chk_21 HOK.out (by simp [inA, HBB.out])]; rfl, R.out.2.2.2.alloc R.out.2.2.2.size _⟩
      | true =>
        go_wp2_with (first | (go_at_call 47; refine (has_yes HR2.out hs U (6 + 8 * (n : Int)) (by omega) (by omega) (by omega)).mono ?_; rintro e w2 ⟨rfl, hw⟩; rw [hw]; clear hw w2; rw [HBB.out]))
        go_roundw
        case rel => exact ⟨3, by omega, rfl, fun _ => R.out.1 (by omega), fun _ => R.out.2.1 (by omega), fun _ => HBB.out, R.out.2.2.2.alloc R.out.2.2.2.size _⟩
        case measure => simp [intOf]
    · subst hk0
      go_wp2_with fail
      go_ret
      exact ⟨by rw [chk_0 HOK.out (by simp [inA, R.out.1 (by omega), R.out.2.1 (by omega), R.out.2.2.1 (by omega)])]; rfl, R.out.2.2.2⟩
theorem check_any {s : Int} {D A U : Nat} (hD : D < 18446744073709551616) (hA : A < 18446744073709551616) (hU : U < 18446744073709551616) {w : World} {F : Nat → Prop} {rb size m : Nat} {lg : Value} {M : Nat → Nat} (hr : RamAt w F rb size m lg M) (hs : size ≤ 268435456) :
    Calls Try.prog 11 #[.pointer (some ⟨rb, 0, none⟩), .agg #[.int .i64 s, .int .u64 (D : Int), .int .u64 (A : Int), .int .u64 (U : Int)]] w fun e w' => e = .returned (.int .i64 (chkN s D A U size)) ∧ Below w.heap.size w w' := by
  cases h : okB s D A U with
  | false =>
    rw [chk_150 size h]
    exact check_bad h _ w
  | true =>
    have h2 := h
    simp only [okB, Bool.and_eq_true] at h2
    obtain ⟨n, rfl, _, _⟩ := pow_in h2.1
    exact check_good hD hA hU h hr hs
end Go.Proofs.Ythnmoalomodbpaa
