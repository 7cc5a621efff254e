/- Texts put together. -/
import Derived.Test.YtmjdnocilbnoaaaZa
import Derived.Deep.RegionHeld3
import Derived.Deep.DeepCutAuto
import Derived.Laws.Tables
import Derived.Laws.StructEq
import Derived.Laws.BitsAllLaws
import Derived.Deep.AppendLies
import Derived.Deep.AppendSrc
import Derived.Maps.AppendAt
/- Check on both sides. -/
namespace Go.Proofs.Ytmjdnocilbnoaaa
open Go.RowKit
set_option linter.unusedVariables false
set_option linter.unusedSimpArgs false
set_option maxRecDepth 100000

def okB (s : Int) (D A U : Nat) : Bool := powB s && (((D : Int) % 16 == 0) && (((A : Int) % 2 == 0) && ((U : Int) % 4 == 0)))
def inA (D A U sz : Nat) (n : Nat) : Bool := inB D (16 * (n : Int)) 2147483648 sz && (inB A (6 + 2 * (n : Int)) 2147483648 sz && inB U (6 + 8 * (n : Int)) 2147483648 sz)
/-- what Check tells of a layout -/
def chkN (s : Int) (D A U sz : Nat) : Int := if okB s D A U = true then (if inA D A U sz s.toNat = true then 0 else 21) else 150
theorem chk_150 {s : Int} {D A U : Nat} (sz : Nat) (h : okB s D A U = false) : chkN s D A U sz = 150 := by rw [chkN, h]; rfl
theorem chk_21 {n : Nat} {D A U sz : Nat} (h : okB (n : Int) D A U = true) (h2 : inA D A U sz n = false) : chkN (n : Int) D A U sz = 21 := by rw [chkN, h, Int.toNat_natCast, h2]; rfl
theorem chk_0 {n : Nat} {D A U sz : Nat} (h : okB (n : Int) D A U = true) (h2 : inA D A U sz n = true) : chkN (n : Int) D A U sz = 0 := by rw [chkN, h, Int.toNat_natCast, h2]; rfl
theorem chk_zero {s : Int} {D A U sz : Nat} (h : chkN s D A U sz = 0) : ∃ n : Nat, s = n ∧ 1 ≤ n ∧ n ≤ 256 ∧ powB (n : Int) = true ∧ D % 16 = 0 ∧ A % 2 = 0 ∧ U % 4 = 0 ∧ (2147483648 ≤ D ∧ D + 16 * n ≤ 2147483648 + sz) ∧ (2147483648 ≤ A ∧ A + 6 + 2 * n ≤ 2147483648 + sz) ∧ (2147483648 ≤ U ∧ U + 6 + 8 * n ≤ 2147483648 + sz) := by
  by_cases h1 : okB s D A U = true
  · have h2 := h1
    simp only [okB, Bool.and_eq_true, beq_iff_eq] at h1
    obtain ⟨n, rfl, hn1, hn2⟩ := pow_in h1.1
    by_cases h3 : inA D A U sz n = true
    · have h4 := h3
      simp only [inA, inB, Bool.and_eq_true, decide_eq_true_iff] at h3
      exact ⟨n, rfl, hn1, hn2, h1.1, by omega, by omega, by omega, by omega, by omega, by omega⟩
    · rw [chk_21 h2 (by simpa using h3)] at h; cases h
  · rw [chk_150 sz (by simpa using h1)] at h; cases h
theorem has_yes {w : World} {F : Nat → Prop} {rb size n : Nat} {lg : Value} {M : Nat → Nat} (h : RamAt w F rb size n lg M) (hs : size ≤ 268435456) (x : Nat) (y : Int) (hx : x < 18446744073709551616) (h0 : 0 ≤ y) (h1 : y < 18446744073709551616) : Calls Try.prog 33 #[.pointer (some ⟨rb, 0, none⟩), .int .u64 (x : Int), .int .u64 y] w fun e w' => e = .returned (.bool (inB x y 2147483648 size)) ∧ w' = w := by
  obtain ⟨L, rfl⟩ : ∃ L : Nat, y = L := ⟨y.toNat, by omega⟩
  exact has_any h hs x L hx (by omega)
theorem rhas_yes (s x : Nat) (y : Int) (v : Value) (hs : s < 18446744073709551616) (hx : x < 18446744073709551616) (h0 : 0 ≤ y) (h1 : y < 18446744073709551616) (w : World) : Calls Try.prog 26 #[.agg #[.int .u64 (s : Int), v], .int .u64 (x : Int), .int .u64 y] w fun e w' => e = .returned (.bool (inB x y 2147483648 s)) ∧ Below w.heap.size w w' := by
  obtain ⟨L, rfl⟩ : ∃ L : Nat, y = L := ⟨y.toNat, by omega⟩
  exact (rhas_any s x L v hs hx (by omega) w).mono fun e w' ⟨he, hb⟩ => ⟨he, hb⟩

theorem check_bad {s : Int} {D A U : Nat} (h : okB s D A U = false) (p : Value) (w : World) :
    Calls Try.prog 66 #[p, .agg #[.int .i64 s, .int .u64 (D : Int), .int .u64 (A : Int), .int .u64 (U : Int)]] w fun e w' => e = .returned (.int .i64 150) ∧ Below w.heap.size w w' := by
  have bx : Below w.heap.size w (w.alloc (.cells #[.int .i64 s, .int .u64 (D : Int), .int .u64 (A : Int), .int .u64 (U : Int)] 25)) := (Below.refl _ _).alloc (Nat.le_refl _) _
  have HB : Hid (Below w.heap.size w (w.alloc (.cells #[.int .i64 s, .int .u64 (D : Int), .int .u64 (A : Int), .int .u64 (U : Int)] 25))) := bx
  clear bx
  unfold okB at h
  obtain ⟨b0, h0⟩ : ∃ b, powB s = b := ⟨_, rfl⟩
  obtain ⟨b1, h1⟩ : ∃ b, ((D : Int) % 16 == 0) = b := ⟨_, rfl⟩
  obtain ⟨b2, h2⟩ : ∃ b, ((A : Int) % 2 == 0) = b := ⟨_, rfl⟩
  obtain ⟨b3, h3⟩ : ∃ b, ((U : Int) % 4 == 0) = b := ⟨_, rfl⟩
  rw [h0, h1, h2, h3] at h
  have H : Hid (powB s = b0 ∧ ((D : Int) % 16 == 0) = b1 ∧ ((A : Int) % 2 == 0) = b2 ∧ ((U : Int) % 4 == 0) = b3) := ⟨h0, h1, h2, h3⟩
  clear h0 h1 h2 h3
  cases b0 with
  | false =>
    go_enter Try.func66, Try.ntmps66
    go_wp2_with (first | (go_at_call 79; refine (power_any _ _).mono ?_; rintro e w2 ⟨rfl, hw⟩; rw [hw]; clear hw w2; rw [H.out.1]) | (go_at_call 42; refine (aligned_pos _ _ (by omega) (by decide) _).mono ?_; rintro e w2 ⟨rfl, hw⟩; rw [hw]; clear hw w2; first | rw [H.out.2.1] | rw [H.out.2.2.1] | rw [H.out.2.2.2]))
    go_ret
    exact ⟨rfl, HB.out⟩
  | true =>
    cases b1 with
    | false =>
      go_enter Try.func66, Try.ntmps66
      go_wp2_with (first | (go_at_call 79; refine (power_any _ _).mono ?_; rintro e w2 ⟨rfl, hw⟩; rw [hw]; clear hw w2; rw [H.out.1]) | (go_at_call 42; refine (aligned_pos _ _ (by omega) (by decide) _).mono ?_; rintro e w2 ⟨rfl, hw⟩; rw [hw]; clear hw w2; first | rw [H.out.2.1] | rw [H.out.2.2.1] | rw [H.out.2.2.2]))
      go_ret
      exact ⟨rfl, HB.out⟩
    | true =>
      cases b2 with
      | false =>
        go_enter Try.func66, Try.ntmps66
        go_wp2_with (first | (go_at_call 79; refine (power_any _ _).mono ?_; rintro e w2 ⟨rfl, hw⟩; rw [hw]; clear hw w2; rw [H.out.1]) | (go_at_call 42; refine (aligned_pos _ _ (by omega) (by decide) _).mono ?_; rintro e w2 ⟨rfl, hw⟩; rw [hw]; clear hw w2; first | rw [H.out.2.1] | rw [H.out.2.2.1] | rw [H.out.2.2.2]))
        go_ret
        exact ⟨rfl, HB.out⟩
      | true =>
        cases b3 with
        | false =>
          go_enter Try.func66, Try.ntmps66
          go_wp2_with (first | (go_at_call 79; refine (power_any _ _).mono ?_; rintro e w2 ⟨rfl, hw⟩; rw [hw]; clear hw w2; rw [H.out.1]) | (go_at_call 42; refine (aligned_pos _ _ (by omega) (by decide) _).mono ?_; rintro e w2 ⟨rfl, hw⟩; rw [hw]; clear hw w2; first | rw [H.out.2.1] | rw [H.out.2.2.1] | rw [H.out.2.2.2]))
          go_ret
          exact ⟨rfl, HB.out⟩
        | true => cases h

theorem idx0 (a b c d x y : Value) (w : World) : (Instr.index 145 (.agg #[a, b, c, d, x, y]) (.int .i64 0)).run Try.prog w = .ok (.agg #[a, b]) w := by kernel_rfl
theorem idx1 (a b c d x y : Value) (w : World) : (Instr.index 145 (.agg #[a, b, c, d, x, y]) (.int .i64 1)).run Try.prog w = .ok (.agg #[c, d]) w := by kernel_rfl
theorem idx2 (a b c d x y : Value) (w : World) : (Instr.index 145 (.agg #[a, b, c, d, x, y]) (.int .i64 2)).run Try.prog w = .ok (.agg #[x, y]) w := by kernel_rfl

theorem check_good {n : Nat} {D A U : Nat} (hD : D < 18446744073709551616) (hA : A < 18446744073709551616) (hU : U < 18446744073709551616) (h : okB (n : Int) D A U = true) {w : World} {F : Nat → Prop} {rb size m : Nat} {lg : Value} {M : Nat → Nat} (hr : RamAt w F rb size m lg M) (hs : size ≤ 268435456) :
    Calls Try.prog 66 #[.pointer (some ⟨rb, 0, none⟩), .agg #[.int .i64 (n : Int), .int .u64 (D : Int), .int .u64 (A : Int), .int .u64 (U : Int)]] w fun e w' => e = .returned (.int .i64 (chkN (n : Int) D A U size)) ∧ Below w.heap.size w w' := by
  have bx : Below w.heap.size w (w.alloc (.cells #[.int .i64 (n : Int), .int .u64 (D : Int), .int .u64 (A : Int), .int .u64 (U : Int)] 25)) := (Below.refl _ _).alloc (Nat.le_refl _) _
  have HB : Hid (Below w.heap.size w (w.alloc (.cells #[.int .i64 (n : Int), .int .u64 (D : Int), .int .u64 (A : Int), .int .u64 (U : Int)] 25))) := bx
  clear bx
  have HOK : Hid (okB (n : Int) D A U = true) := h
  have HR : Hid (RamAt w F rb size m lg M) := hr
  simp only [okB, Bool.and_eq_true] at h
  obtain ⟨n', hn', hn1, hn2⟩ := pow_in h.1
  have hn : n ≤ 256 := by omega
  clear hn' hn1 hn2 n' hr
  have H : Hid (powB (n : Int) = true ∧ ((D : Int) % 16 == 0) = true ∧ ((A : Int) % 2 == 0) = true ∧ ((U : Int) % 4 == 0) = true) := h
  clear h
  go_enter Try.func66, Try.ntmps66
  go_wp2_with (first | (go_at_call 79; refine (power_any _ _).mono ?_; rintro e w2 ⟨rfl, hw⟩; rw [hw]; clear hw w2; rw [H.out.1]) | (go_at_call 42; refine (aligned_pos _ _ (by omega) (by decide) _).mono ?_; rintro e w2 ⟨rfl, hw⟩; rw [hw]; clear hw w2; first | rw [H.out.2.1] | rw [H.out.2.2.1] | rw [H.out.2.2.2]) | (go_at_call 80; refine (areas_any n D A U (by omega) _).mono ?_; rintro e w2 ⟨rfl, hb2⟩; have HB2 : Hid (Below w.heap.size w w2) := HB.out.trans (hb2.mono HB.out.size); clear hb2))
  clear HB
  go_loopw [31] (fun v wr => ∃ k : Nat, k ≤ 3 ∧ v = .int .i64 (k : Int) ∧ (0 < k → inB D (16 * (n : Int)) 2147483648 size = true) ∧ (1 < k → inB A (6 + 2 * (n : Int)) 2147483648 size = true) ∧ (2 < k → inB U (6 + 8 * (n : Int)) 2147483648 size = true) ∧ Below w.heap.size w wr) (fun v _ => 3 - (intOf v).toNat)
  case atStart => exact ⟨0, by omega, rfl, fun h => by omega, fun h => by omega, fun h => by omega, HB2.out⟩
  case round =>
    obtain ⟨k, hk, rfl, r0, r1, r2, hbr⟩ := hrel
    have R : Hid ((0 < k → inB D (16 * (n : Int)) 2147483648 size = true) ∧ (1 < k → inB A (6 + 2 * (n : Int)) 2147483648 size = true) ∧ (2 < k → inB U (6 + 8 * (n : Int)) 2147483648 size = true) ∧ Below w.heap.size w wr) := ⟨r0, r1, r2, hbr⟩
    clear r0 r1 r2 hbr HB2
    rcases (by omega : k = 0 ∨ k = 1 ∨ k = 2 ∨ k = 3) with hk0 | hk0 | hk0 | hk0
    · subst hk0
      have hix : ∀ V, (Instr.index 145 (.agg #[.int .u64 (D : Int), .int .u64 (16 * (n : Int)), .int .u64 (A : Int), .int .u64 (6 + 2 * (n : Int)), .int .u64 (U : Int), .int .u64 (6 + 8 * (n : Int))]) (.int .i64 0)).run Try.prog V = .ok (.agg #[.int .u64 (D : Int), .int .u64 (16 * (n : Int))]) V := fun V => idx0 _ _ _ _ _ _ V
      have HR2 : Hid (RamAt (wr.alloc (.cells #[.int .u64 (D : Int), .int .u64 (16 * (n : Int))] 48)) F rb size m lg M) := (HR.out.below R.out.2.2.2).below (Below.alloc (Below.refl _ _) (Nat.le_refl _) _)
      obtain ⟨b, hb⟩ : ∃ b, inB D (16 * (n : Int)) 2147483648 size = b := ⟨_, rfl⟩
      have HBB : Hid (inB D (16 * (n : Int)) 2147483648 size = b) := hb
      clear hb
      cases b with
      | false =>
        go_wp2_with (first | (go_at_call 33; refine (has_yes HR2.out hs D (16 * (n : Int)) (by omega) (by omega) (by omega)).mono ?_; rintro e w2 ⟨rfl, hw⟩; rw [hw]; clear hw w2; rw [HBB.out]))
        go_ret
        exact ⟨by rw [chk_21 HOK.out (by simp [inA, HBB.out])]; rfl, R.out.2.2.2.alloc R.out.2.2.2.size _⟩
      | true =>
        go_wp2_with (first | (go_at_call 33; refine (has_yes HR2.out hs D (16 * (n : Int)) (by omega) (by omega) (by omega)).mono ?_; rintro e w2 ⟨rfl, hw⟩; rw [hw]; clear hw w2; rw [HBB.out]))
        go_roundw
        case rel => exact ⟨1, by omega, rfl, fun _ => HBB.out, fun h => by omega, fun h => by omega, R.out.2.2.2.alloc R.out.2.2.2.size _⟩
        case measure => simp [intOf]
    · subst hk0
      have hix : ∀ V, (Instr.index 145 (.agg #[.int .u64 (D : Int), .int .u64 (16 * (n : Int)), .int .u64 (A : Int), .int .u64 (6 + 2 * (n : Int)), .int .u64 (U : Int), .int .u64 (6 + 8 * (n : Int))]) (.int .i64 1)).run Try.prog V = .ok (.agg #[.int .u64 (A : Int), .int .u64 (6 + 2 * (n : Int))]) V := fun V => idx1 _ _ _ _ _ _ V
      have HR2 : Hid (RamAt (wr.alloc (.cells #[.int .u64 (A : Int), .int .u64 (6 + 2 * (n : Int))] 48)) F rb size m lg M) := (HR.out.below R.out.2.2.2).below (Below.alloc (Below.refl _ _) (Nat.le_refl _) _)
      obtain ⟨b, hb⟩ : ∃ b, inB A (6 + 2 * (n : Int)) 2147483648 size = b := ⟨_, rfl⟩
      have HBB : Hid (inB A (6 + 2 * (n : Int)) 2147483648 size = b) := hb
      clear hb
      cases b with
      | false =>
        go_wp2_with (first | (go_at_call 33; refine (has_yes HR2.out hs A (6 + 2 * (n : Int)) (by omega) (by omega) (by omega)).mono ?_; rintro e w2 ⟨rfl, hw⟩; rw [hw]; clear hw w2; rw [HBB.out]))
        go_ret
        exact ⟨by rw [chk_21 HOK.out (by simp [inA, HBB.out])]; rfl, R.out.2.2.2.alloc R.out.2.2.2.size _⟩
      | true =>
        go_wp2_with (first | (go_at_call 33; refine (has_yes HR2.out hs A (6 + 2 * (n : Int)) (by omega) (by omega) (by omega)).mono ?_; rintro e w2 ⟨rfl, hw⟩; rw [hw]; clear hw w2; rw [HBB.out]))
        go_roundw
        case rel => exact ⟨2, by omega, rfl, fun _ => R.out.1 (by omega), fun _ => HBB.out, fun h => by omega, R.out.2.2.2.alloc R.out.2.2.2.size _⟩
        case measure => simp [intOf]
    · subst hk0
      have hix : ∀ V, (Instr.index 145 (.agg #[.int .u64 (D : Int), .int .u64 (16 * (n : Int)), .int .u64 (A : Int), .int .u64 (6 + 2 * (n : Int)), .int .u64 (U : Int), .int .u64 (6 + 8 * (n : Int))]) (.int .i64 2)).run Try.prog V = .ok (.agg #[.int .u64 (U : Int), .int .u64 (6 + 8 * (n : Int))]) V := fun V => idx2 _ _ _ _ _ _ V
      have HR2 : Hid (RamAt (wr.alloc (.cells #[.int .u64 (U : Int), .int .u64 (6 + 8 * (n : Int))] 48)) F rb size m lg M) := (HR.out.below R.out.2.2.2).below (Below.alloc (Below.refl _ _) (Nat.le_refl _) _)
      obtain ⟨b, hb⟩ : ∃ b, inB U (6 + 8 * (n : Int)) 2147483648 size = b := ⟨_, rfl⟩
      have HBB : Hid (inB U (6 + 8 * (n : Int)) 2147483648 size = b) := hb
      clear hb
      cases b with
      | false =>
        go_wp2_with (first | (go_at_call 33; refine (has_yes HR2.out hs U (6 + 8 * (n : Int)) (by omega) (by omega) (by omega)).mono ?_; rintro e w2 ⟨rfl, hw⟩; rw [hw]; clear hw w2; rw [HBB.out]))
        go_ret
        exact ⟨by rw [chk_21 HOK.out (by simp [inA, HBB.out])]; rfl, R.out.2.2.2.alloc R.out.2.2.2.size _⟩
      | true =>
        go_wp2_with (first | (go_at_call 33; refine (has_yes HR2.out hs U (6 + 8 * (n : Int)) (by omega) (by omega) (by omega)).mono ?_; rintro e w2 ⟨rfl, hw⟩; rw [hw]; clear hw w2; rw [HBB.out]))
        go_roundw
        case rel => exact ⟨3, by omega, rfl, fun _ => R.out.1 (by omega), fun _ => R.out.2.1 (by omega), fun _ => HBB.out, R.out.2.2.2.alloc R.out.2.2.2.size _⟩
        case measure => simp [intOf]
    · subst hk0
      go_wp2_with fail
      go_ret
      exact ⟨by rw [chk_0 HOK.out (by simp [inA, R.out.1 (by omega), R.out.2.1 (by omega), R.out.2.2.1 (by omega)])]; rfl, R.out.2.2.2⟩
theorem check_any {s : Int} {D A U : Nat} (hD : D < 18446744073709551616) (hA : A < 18446744073709551616) (hU : U < 18446744073709551616) {w : World} {F : Nat → Prop} {rb size m : Nat} {lg : Value} {M : Nat → Nat} (hr : RamAt w F rb size m lg M) (hs : size ≤ 268435456) :
    Calls Try.prog 66 #[.pointer (some ⟨rb, 0, none⟩), .agg #[.int .i64 s, .int .u64 (D : Int), .int .u64 (A : Int), .int .u64 (U : Int)]] w fun e w' => e = .returned (.int .i64 (chkN s D A U size)) ∧ Below w.heap.size w w' := by
  cases h : okB s D A U with
  | false =>
    rw [chk_150 size h]
    exact check_bad h _ w
  | true =>
    have h2 := h
    simp only [okB, Bool.and_eq_true] at h2
    obtain ⟨n, rfl, _, _⟩ := pow_in h2.1
    exact check_good hD hA hU h hr hs
end Go.Proofs.Ytmjdnocilbnoaaa

/- The document's Check. -/
namespace Go.Proofs.Ytmjdnocilbnoaaa
open Go.RowKit
set_option linter.unusedVariables false
set_option linter.unusedSimpArgs false
set_option maxRecDepth 100000

theorem two_in (w : World) (o1 o2 : Obj) : ((w.alloc o1).alloc o2).heap[w.heap.size]? = some o1 ∧ ((w.alloc o1).alloc o2).heap[w.heap.size + 1]? = some o2 := ⟨(boxes (Below.refl _ _)).1, (boxes (Below.refl _ _)).2.1⟩
theorem box4_facts {w : World} {b : Nat} {x0 x1 x2 x3 : Value} {t : TypeId} (h : w.heap[b]? = some (.cells #[x0, x1, x2, x3] t (0, 0))) : w.cell? ⟨b, 0, none⟩ = some x0 ∧ w.cell? ⟨b, 1, none⟩ = some x1 ∧ w.cell? ⟨b, 2, none⟩ = some x2 ∧ w.cell? ⟨b, 3, none⟩ = some x3 := by
  simp [World.cell?, h]
theorem box6_facts {w : World} {b : Nat} {x0 x1 x2 x3 x4 x5 : Value} {t : TypeId} (h : w.heap[b]? = some (.cells #[x0, x1, x2, x3, x4, x5] t (0, 0))) : w.cell? ⟨b, 0, none⟩ = some x0 ∧ w.cell? ⟨b, 1, none⟩ = some x1 ∧ w.cell? ⟨b, 2, none⟩ = some x2 ∧ w.cell? ⟨b, 3, none⟩ = some x3 ∧ w.cell? ⟨b, 4, none⟩ = some x4 ∧ w.cell? ⟨b, 5, none⟩ = some x5 := by
  simp [World.cell?, h]
theorem below_drewB {w w' : World} (h : Below w.drew.heap.size w.drew w') : Below w.heap.size w w' := (Below.drew (Below.refl _ _)).trans h
theorem rcheck_bad {s : Int} {D A U : Nat} (h : okB s D A U = false) (size : Nat) (v : Value) (w : World) :
    Calls Try.prog 8 #[.agg #[.int .u64 (size : Int), v], .agg #[.int .i64 s, .int .u64 (D : Int), .int .u64 (A : Int), .int .u64 (U : Int)]] w fun e w' => e = .returned (.int .i64 150) ∧ Below w.heap.size w w' := by
  have HB : Hid (Below w.heap.size w ((w.alloc (.cells #[.int .u64 (size : Int), v] 32)).alloc (.cells #[.int .i64 s, .int .u64 (D : Int), .int .u64 (A : Int), .int .u64 (U : Int)] 25))) := two_boxes w _ _
  obtain ⟨b0, h0⟩ : ∃ b, powB s = b := ⟨_, rfl⟩
  have H : Hid (powB s = b0) := h0
  simp only [okB, h0] at h
  clear h0
  cases b0 with
  | false =>
    clear h
    go_enter Try.func8, Try.ntmps8
    go_wp2_with (first | (go_at_call 25; refine (rpower_any _ _).mono ?_; rintro e w2 ⟨rfl, q, hw⟩; rw [hw]; clear hw w2; rw [H.out]))
    go_ret
    exact ⟨rfl, below_drewN HB.out q⟩
  | true =>
    by_cases h1 : (D : Int) % 16 = 0
    · by_cases h2 : (A : Int) % 2 = 0
      · have h3 : ¬ (U : Int) % 4 = 0 := fun h3 => by simp [h1, h2, h3] at h
        clear h
        go_enter Try.func8, Try.ntmps8
        go_wp2_with (first | (go_at_call 25; refine (rpower_any _ _).mono ?_; rintro e w2 ⟨rfl, q, hw⟩; rw [hw]; clear hw w2; rw [H.out]))
        go_ret
        exact ⟨rfl, below_drewN HB.out q⟩
      · clear h
        go_enter Try.func8, Try.ntmps8
        go_wp2_with (first | (go_at_call 25; refine (rpower_any _ _).mono ?_; rintro e w2 ⟨rfl, q, hw⟩; rw [hw]; clear hw w2; rw [H.out]))
        go_ret
        exact ⟨rfl, below_drewN HB.out q⟩
    · clear h
      go_enter Try.func8, Try.ntmps8
      go_wp2_with (first | (go_at_call 25; refine (rpower_any _ _).mono ?_; rintro e w2 ⟨rfl, q, hw⟩; rw [hw]; clear hw w2; rw [H.out]))
      go_ret
      exact ⟨rfl, below_drewN HB.out q⟩

set_option maxHeartbeats 8000000 in
theorem rcheck_good {n : Nat} {D A U : Nat} (hD : D < 18446744073709551616) (hA : A < 18446744073709551616) (hU : U < 18446744073709551616) (h : okB (n : Int) D A U = true) (size : Nat) (hs : size ≤ 268435456) (va : Option Addr) (vn vc : Nat) (w : World) :
    Calls Try.prog 8 #[.agg #[.int .u64 (size : Int), .slice va vn vc], .agg #[.int .i64 (n : Int), .int .u64 (D : Int), .int .u64 (A : Int), .int .u64 (U : Int)]] w fun e w' => e = .returned (.int .i64 (chkN (n : Int) D A U size)) ∧ Below w.heap.size w w' := by
  have HB : Hid (Below w.heap.size w ((w.alloc (.cells #[.int .u64 (size : Int), .slice va vn vc] 32)).alloc (.cells #[.int .i64 (n : Int), .int .u64 (D : Int), .int .u64 (A : Int), .int .u64 (U : Int)] 25))) := two_boxes w _ _
  have HOK : Hid (okB (n : Int) D A U = true) := h
  simp only [okB, Bool.and_eq_true] at h
  obtain ⟨n', hn', hn1, hn2⟩ := pow_in h.1
  have hn : n ≤ 256 := by omega
  clear hn' hn1 hn2 n'
  have H : Hid (powB (n : Int) = true) := h.1
  have h1 : (D : Int) % 16 = 0 := beq_iff_eq.1 h.2.1
  have h2 : (A : Int) % 2 = 0 := beq_iff_eq.1 h.2.2.1
  have h3 : (U : Int) % 4 = 0 := beq_iff_eq.1 h.2.2.2
  clear h
  go_enter Try.func8, Try.ntmps8
  go_upto_region 3 with (first | (go_at_call 25; refine (rpower_any _ _).mono ?_; rintro e w2 ⟨rfl, q, hw⟩; rw [hw]; clear hw w2; rw [H.out]))
  have XA := two_in w (.cells #[.int .u64 (size : Int), .slice va vn vc] 32) (.cells #[.int .i64 (n : Int), .int .u64 (D : Int), .int .u64 (A : Int), .int .u64 (U : Int)] 25)
  have X0 : Hid (Below w.heap.size w (((w.alloc (.cells #[.int .u64 (size : Int), .slice va vn vc] 32)).alloc (.cells #[.int .i64 (n : Int), .int .u64 (D : Int), .int .u64 (A : Int), .int .u64 (U : Int)] 25)).drewN q)) := below_drewN HB.out q
  have X1 : (((w.alloc (.cells #[.int .u64 (size : Int), .slice va vn vc] 32)).alloc (.cells #[.int .i64 (n : Int), .int .u64 (D : Int), .int .u64 (A : Int), .int .u64 (U : Int)] 25)).drewN q).heap[w.heap.size]? = some (.cells #[.int .u64 (size : Int), .slice va vn vc] 32 (0, 0)) := XA.1
  have X2 : (((w.alloc (.cells #[.int .u64 (size : Int), .slice va vn vc] 32)).alloc (.cells #[.int .i64 (n : Int), .int .u64 (D : Int), .int .u64 (A : Int), .int .u64 (U : Int)] 25)).drewN q).heap[w.heap.size + 1]? = some (.cells #[.int .i64 (n : Int), .int .u64 (D : Int), .int .u64 (A : Int), .int .u64 (U : Int)] 25 (0, 0)) := XA.2
  clear XA HB
  generalize ((w.alloc (.cells #[.int .u64 (size : Int), .slice va vn vc] 32)).alloc (.cells #[.int .i64 (n : Int), .int .u64 (D : Int), .int .u64 (A : Int), .int .u64 (U : Int)] 25)).drewN q = w1 at *
  have X : Hid (Below w.heap.size w w1 ∧ w1.heap[w.heap.size]? = some (.cells #[.int .u64 (size : Int), .slice va vn vc] 32 (0, 0))) := ⟨X0.out, X1⟩
  obtain ⟨c0, c1, c2, c3⟩ := box4_facts X2
  clear X0 X1 X2
  go_wp2_with fail
  refine (rareas_any n D A U (by omega) _).mono ?_
  rintro e w2 ⟨g, rfl, hg, hcell, hb2⟩
  have Y : Hid (Below w.heap.size w w2 ∧ w2.heap[w.heap.size]? = some (.cells #[.int .u64 (size : Int), .slice va vn vc] 32 (0, 0)) ∧ w2.heap[g]? = some (.cells #[.int .u64 (D : Int), .int .u64 (16 * (n : Int)), .int .u64 (A : Int), .int .u64 (6 + 2 * (n : Int)), .int .u64 (U : Int), .int .u64 (6 + 8 * (n : Int))] 48 (0, 0))) := ⟨X.out.1.trans (hb2.mono X.out.1.size), below_box X.out.2 hb2, hcell⟩
  clear X hg hcell hb2 c0 c1 c2 c3
  go_wp2_with fail
  go_loopw [6] (fun v wr => ∃ k : Nat, k ≤ 3 ∧ v = .int .i64 (k : Int) ∧ (0 < k → inB D (16 * (n : Int)) 2147483648 size = true) ∧ (1 < k → inB A (6 + 2 * (n : Int)) 2147483648 size = true) ∧ (2 < k → inB U (6 + 8 * (n : Int)) 2147483648 size = true) ∧ Below w2.heap.size w2 wr) (fun v _ => 3 - (intOf v).toNat)
  case atStart => exact ⟨0, by omega, rfl, fun h => by omega, fun h => by omega, fun h => by omega, Below.refl _ _⟩
  case round =>
    obtain ⟨k, hk, rfl, r0, r1, r2, hbr⟩ := hrel
    have R : Hid ((0 < k → inB D (16 * (n : Int)) 2147483648 size = true) ∧ (1 < k → inB A (6 + 2 * (n : Int)) 2147483648 size = true) ∧ (2 < k → inB U (6 + 8 * (n : Int)) 2147483648 size = true) ∧ Below w2.heap.size w2 wr) := ⟨r0, r1, r2, hbr⟩
    have y1 := below_box Y.out.2.1 hbr
    have y2 := below_box Y.out.2.2 hbr
    obtain ⟨c0, c1, _, _⟩ := box_facts y1
    obtain ⟨d0, d1, d2, d3, d4, d5⟩ := box6_facts y2
    clear r0 r1 r2 hbr y1 y2
    rcases (by omega : k = 0 ∨ k = 1 ∨ k = 2 ∨ k = 3) with hk0 | hk0 | hk0 | hk0
    · subst hk0
      obtain ⟨b, hb⟩ : ∃ b, inB D (16 * (n : Int)) 2147483648 size = b := ⟨_, rfl⟩
      have HBB : Hid (inB D (16 * (n : Int)) 2147483648 size = b) := hb
      clear hb
      cases b with
      | false =>
        go_upto_region 7 with fail
        go_region_held3 (fun Z => Z.cell? ⟨w.heap.size, 0, none⟩ = some (.int .u64 (size : Int)) ∧ Z.cell? ⟨w.heap.size, 1, none⟩ = some (.slice va vn vc) ∧ Z.cell? ⟨g, 0, none⟩ = some (.int .u64 (D : Int)) ∧ Z.cell? ⟨g, 1, none⟩ = some (.int .u64 (16 * (n : Int)))) (go_keep) (first | (go_at_call 26; refine (rhas_yes size D (16 * (n : Int)) _ (by omega) (by omega) (by omega) (by omega) _).mono ?_; rintro e w3 ⟨rfl, hb3⟩; have HB3 : Hid (Below w2.heap.size w2 w3) := R.out.2.2.2.trans ((below_drewB hb3).mono R.out.2.2.2.size); clear hb3; rw [HBB.out]; obtain ⟨f0, f1, _, _⟩ := box_facts (below_box Y.out.2.1 HB3.out); obtain ⟨g0, g1, g2, g3, g4, g5⟩ := box6_facts (below_box Y.out.2.2 HB3.out)))
        all_goals go_wp2_with fail
        all_goals go_ret
        all_goals exact ⟨by rw [chk_21 HOK.out (by simp [inA, HBB.out])]; rfl, Y.out.1.trans (HB3.out.mono Y.out.1.size)⟩
      | true =>
        go_upto_region 7 with fail
        go_region_held3 (fun Z => Z.cell? ⟨w.heap.size, 0, none⟩ = some (.int .u64 (size : Int)) ∧ Z.cell? ⟨w.heap.size, 1, none⟩ = some (.slice va vn vc) ∧ Z.cell? ⟨g, 0, none⟩ = some (.int .u64 (D : Int)) ∧ Z.cell? ⟨g, 1, none⟩ = some (.int .u64 (16 * (n : Int)))) (go_keep) (first | (go_at_call 26; refine (rhas_yes size D (16 * (n : Int)) _ (by omega) (by omega) (by omega) (by omega) _).mono ?_; rintro e w3 ⟨rfl, hb3⟩; have HB3 : Hid (Below w2.heap.size w2 w3) := R.out.2.2.2.trans ((below_drewB hb3).mono R.out.2.2.2.size); clear hb3; rw [HBB.out]; obtain ⟨f0, f1, _, _⟩ := box_facts (below_box Y.out.2.1 HB3.out); obtain ⟨g0, g1, g2, g3, g4, g5⟩ := box6_facts (below_box Y.out.2.2 HB3.out)))
        go_wp2_with fail
        go_roundw
        case rel => exact ⟨1, by omega, rfl, fun _ => HBB.out, fun h => by omega, fun h => by omega, HB3.out⟩
        case measure => simp [intOf]
    · subst hk0
      obtain ⟨b, hb⟩ : ∃ b, inB A (6 + 2 * (n : Int)) 2147483648 size = b := ⟨_, rfl⟩
      have HBB : Hid (inB A (6 + 2 * (n : Int)) 2147483648 size = b) := hb
      clear hb
      cases b with
      | false =>
        go_upto_region 7 with fail
        go_region_held3 (fun Z => Z.cell? ⟨w.heap.size, 0, none⟩ = some (.int .u64 (size : Int)) ∧ Z.cell? ⟨w.heap.size, 1, none⟩ = some (.slice va vn vc) ∧ Z.cell? ⟨g, 2, none⟩ = some (.int .u64 (A : Int)) ∧ Z.cell? ⟨g, 3, none⟩ = some (.int .u64 (6 + 2 * (n : Int)))) (go_keep) (first | (go_at_call 26; refine (rhas_yes size A (6 + 2 * (n : Int)) _ (by omega) (by omega) (by omega) (by omega) _).mono ?_; rintro e w3 ⟨rfl, hb3⟩; have HB3 : Hid (Below w2.heap.size w2 w3) := R.out.2.2.2.trans ((below_drewB hb3).mono R.out.2.2.2.size); clear hb3; rw [HBB.out]; obtain ⟨f0, f1, _, _⟩ := box_facts (below_box Y.out.2.1 HB3.out); obtain ⟨g0, g1, g2, g3, g4, g5⟩ := box6_facts (below_box Y.out.2.2 HB3.out)))
        all_goals go_wp2_with fail
        all_goals go_ret
        all_goals exact ⟨by rw [chk_21 HOK.out (by simp [inA, HBB.out])]; rfl, Y.out.1.trans (HB3.out.mono Y.out.1.size)⟩
      | true =>
        go_upto_region 7 with fail
        go_region_held3 (fun Z => Z.cell? ⟨w.heap.size, 0, none⟩ = some (.int .u64 (size : Int)) ∧ Z.cell? ⟨w.heap.size, 1, none⟩ = some (.slice va vn vc) ∧ Z.cell? ⟨g, 2, none⟩ = some (.int .u64 (A : Int)) ∧ Z.cell? ⟨g, 3, none⟩ = some (.int .u64 (6 + 2 * (n : Int)))) (go_keep) (first | (go_at_call 26; refine (rhas_yes size A (6 + 2 * (n : Int)) _ (by omega) (by omega) (by omega) (by omega) _).mono ?_; rintro e w3 ⟨rfl, hb3⟩; have HB3 : Hid (Below w2.heap.size w2 w3) := R.out.2.2.2.trans ((below_drewB hb3).mono R.out.2.2.2.size); clear hb3; rw [HBB.out]; obtain ⟨f0, f1, _, _⟩ := box_facts (below_box Y.out.2.1 HB3.out); obtain ⟨g0, g1, g2, g3, g4, g5⟩ := box6_facts (below_box Y.out.2.2 HB3.out)))
        go_wp2_with fail
        go_roundw
        case rel => exact ⟨2, by omega, rfl, fun _ => R.out.1 (by omega), fun _ => HBB.out, fun h => by omega, HB3.out⟩
        case measure => simp [intOf]
    · subst hk0
      obtain ⟨b, hb⟩ : ∃ b, inB U (6 + 8 * (n : Int)) 2147483648 size = b := ⟨_, rfl⟩
      have HBB : Hid (inB U (6 + 8 * (n : Int)) 2147483648 size = b) := hb
      clear hb
      cases b with
      | false =>
        go_upto_region 7 with fail
        go_region_held3 (fun Z => Z.cell? ⟨w.heap.size, 0, none⟩ = some (.int .u64 (size : Int)) ∧ Z.cell? ⟨w.heap.size, 1, none⟩ = some (.slice va vn vc) ∧ Z.cell? ⟨g, 4, none⟩ = some (.int .u64 (U : Int)) ∧ Z.cell? ⟨g, 5, none⟩ = some (.int .u64 (6 + 8 * (n : Int)))) (go_keep) (first | (go_at_call 26; refine (rhas_yes size U (6 + 8 * (n : Int)) _ (by omega) (by omega) (by omega) (by omega) _).mono ?_; rintro e w3 ⟨rfl, hb3⟩; have HB3 : Hid (Below w2.heap.size w2 w3) := R.out.2.2.2.trans ((below_drewB hb3).mono R.out.2.2.2.size); clear hb3; rw [HBB.out]; obtain ⟨f0, f1, _, _⟩ := box_facts (below_box Y.out.2.1 HB3.out); obtain ⟨g0, g1, g2, g3, g4, g5⟩ := box6_facts (below_box Y.out.2.2 HB3.out)))
        all_goals go_wp2_with fail
        all_goals go_ret
        all_goals exact ⟨by rw [chk_21 HOK.out (by simp [inA, HBB.out])]; rfl, Y.out.1.trans (HB3.out.mono Y.out.1.size)⟩
      | true =>
        go_upto_region 7 with fail
        go_region_held3 (fun Z => Z.cell? ⟨w.heap.size, 0, none⟩ = some (.int .u64 (size : Int)) ∧ Z.cell? ⟨w.heap.size, 1, none⟩ = some (.slice va vn vc) ∧ Z.cell? ⟨g, 4, none⟩ = some (.int .u64 (U : Int)) ∧ Z.cell? ⟨g, 5, none⟩ = some (.int .u64 (6 + 8 * (n : Int)))) (go_keep) (first | (go_at_call 26; refine (rhas_yes size U (6 + 8 * (n : Int)) _ (by omega) (by omega) (by omega) (by omega) _).mono ?_; rintro e w3 ⟨rfl, hb3⟩; have HB3 : Hid (Below w2.heap.size w2 w3) := R.out.2.2.2.trans ((below_drewB hb3).mono R.out.2.2.2.size); clear hb3; rw [HBB.out]; obtain ⟨f0, f1, _, _⟩ := box_facts (below_box Y.out.2.1 HB3.out); obtain ⟨g0, g1, g2, g3, g4, g5⟩ := box6_facts (below_box Y.out.2.2 HB3.out)))
        go_wp2_with fail
        go_roundw
        case rel => exact ⟨3, by omega, rfl, fun _ => R.out.1 (by omega), fun _ => R.out.2.1 (by omega), fun _ => HBB.out, HB3.out⟩
        case measure => simp [intOf]
    · subst hk0
      go_wp2_with fail
      go_ret
      exact ⟨by rw [chk_0 HOK.out (by simp [inA, R.out.1 (by omega), R.out.2.1 (by omega), R.out.2.2.1 (by omega)])]; rfl, Y.out.1.trans (R.out.2.2.2.mono Y.out.1.size)⟩
theorem rcheck_any {s : Int} {D A U : Nat} (hD : D < 18446744073709551616) (hA : A < 18446744073709551616) (hU : U < 18446744073709551616) (size : Nat) (hs : size ≤ 268435456) (va : Option Addr) (vn vc : Nat) (w : World) :
    Calls Try.prog 8 #[.agg #[.int .u64 (size : Int), .slice va vn vc], .agg #[.int .i64 s, .int .u64 (D : Int), .int .u64 (A : Int), .int .u64 (U : Int)]] w fun e w' => e = .returned (.int .i64 (chkN s D A U size)) ∧ Below w.heap.size w w' := by
  cases h : okB s D A U with
  | false =>
    rw [chk_150 size h]
    exact rcheck_bad h size _ w
  | true =>
    have h2 := h
    simp only [okB, Bool.and_eq_true] at h2
    obtain ⟨n, rfl, _, _⟩ := pow_in h2.1
    exact rcheck_good hD hA hU h size hs va vn vc w
end Go.Proofs.Ytmjdnocilbnoaaa

/- The statements' memory: bytes are put into a memory and into the document's. -/
namespace Go.Proofs.Ytmjdnocilbnoaaa
open Go.RowKit Go.Maps
set_option linter.unusedVariables false
set_option linter.unusedSimpArgs false
set_option maxRecDepth 100000
def Mem (W wr : World) (rb : Nat) (a : Option Addr) (n c : Nat) (F : Nat → Prop) (M : Nat → Nat) (j : Nat) : Prop :=
  wr.heap[W.heap.size]? = some (.cells #[.int .u64 0, .slice none 0 0] 32 (0, 0)) ∧ wr.heap[W.heap.size + 1]? = some (.cells #[.int .u64 8192, .slice a n c] 32 (0, 0)) ∧ Both F wr rb 8192 (.slice a n c) (200 * j) M ∧ (∀ k, F k → W.heap.size + 2 ≤ k) ∧ Below W.heap.size W wr
theorem Mem.step {W wr wr' : World} {rb : Nat} {a : Option Addr} {n c : Nat} {F : Nat → Prop} {M : Nat → Nat} {j : Nat} (h : Mem W wr rb a n c F M j) (hb : Below wr.heap.size wr wr') : Mem W wr' rb a n c F M j :=
  ⟨below_box h.1 hb, below_box h.2.1 hb, h.2.2.1.below hb, h.2.2.2.1, h.2.2.2.2.trans (hb.mono h.2.2.2.2.size)⟩
theorem new_8192 (w : World) : Calls Try.prog 20 #[.int .u64 8192] w fun e w' => ∃ rb F, e = .returned (.tuple #[.pointer (some ⟨rb, 0, none⟩), .int .i64 0]) ∧ RamAt w' F rb 8192 0 (.pointer none) (fun _ => 0) ∧ (∀ k, F k → w.heap.size ≤ k) ∧ Below w.heap.size w w' := new_yes 8192 (by decide) w
theorem two_cells (t s : TypeId) (w : World) (c d : Array Value) : ((w.alloc (.cells c t)).alloc (.cells d s)).heap.size = w.heap.size + 2 := by simp
theorem begun_mem (W w1 : World) (rb : Nat) (F : Nat → Prop) (h : RamAt w1 F rb 8192 0 (.pointer none) (fun _ => 0)) (hF : ∀ k, F k → ((W.alloc (.cells #[.int .u64 0, .slice none 0 0] 32)).alloc (.cells #[.int .u64 8192, .slice none 0 0] 32)).heap.size ≤ k) (hb : Below ((W.alloc (.cells #[.int .u64 0, .slice none 0 0] 32)).alloc (.cells #[.int .u64 8192, .slice none 0 0] 32)).heap.size ((W.alloc (.cells #[.int .u64 0, .slice none 0 0] 32)).alloc (.cells #[.int .u64 8192, .slice none 0 0] 32)) w1) :
    Mem W w1 rb none 0 0 F (fun _ => 0) 0 := by
  have T := boxes hb
  rw [two_cells] at hF
  exact ⟨T.1, T.2.1, ⟨h, 0, fun _ => (0, 0), by omega, ⟨none, 0, rfl⟩, .inl ⟨rfl, _, _, rfl⟩, fun a => rfl, fun i hi => absurd hi (by omega)⟩, hF, T.2.2.1⟩
theorem mem_both {W wr w5 : World} {rb : Nat} {a : Option Addr} {n c : Nat} {F F5 : Nat → Prop} {M : Nat → Nat} {j : Nat} (h : Mem W wr rb a n c F M j) (hs : Step F wr F5 w5) : w5.heap[W.heap.size]? = some (.cells #[.int .u64 0, .slice none 0 0] 32 (0, 0)) ∧ w5.heap[W.heap.size + 1]? = some (.cells #[.int .u64 8192, .slice a n c] 32 (0, 0)) ∧ (∀ k, F5 k → W.heap.size + 2 ≤ k) ∧ Below W.heap.size W w5 := by
  obtain ⟨h1, h2, h3, h4, hb⟩ := h
  have hsz : W.heap.size + 2 ≤ wr.heap.size := by have := (Array.getElem?_eq_some_iff.1 h2).1; omega
  exact ⟨step_box hs h1 (fun hf => by have := h4 _ hf; omega), step_box hs h2 (fun hf => by have := h4 _ hf; omega), hs.base hsz h4, hb.trans (hs.below hb.size (fun k hk => by have := h4 k hk; omega))⟩
theorem wr_any {w : World} {F : Nat → Prop} {rb n : Nat} {M : Nat → Nat} (h : RamAt w F rb 8192 n (.pointer none) M) (x L : Nat) (f : Nat → Nat) (v : Value) (B : Bool) (hB : inB x L 2147483648 8192 = B) (hx : x < 18446744073709551616) (hr : ReadsF F w v L f) (hf : ∀ i, i < L → f i ≤ 255) (hn : n + L ≤ 1000000) :
    Calls Try.prog 23 #[.pointer (some ⟨rb, 0, none⟩), .int .u64 (x : Nat), v] w fun e w' => e = .returned (.bool B) ∧ ∃ F', RamAt w' F' rb 8192 (n + L) (.pointer none) (if B = true then over M x L f else M) ∧ Step F w F' w' := by
  subst hB
  exact write_any h (by omega) x L f v hx hr hf hn
theorem rwr_any (F : Nat → Prop) (w : World) (x L : Nat) (v d : Value) (n : Nat) (bs : Nat → Nat × Nat) (f : Nat → Nat) (B : Bool) (hB : inB x L 2147483648 8192 = B) (h : RefIn F w v n bs) (hd : Reads .u8 w d L f) (hF : ∀ k, F k → k < w.heap.size) (hn : n ≤ 1000000) (hx : x < 18446744073709551616) (hL : L ≤ 1000) :
    Calls Try.prog 24 #[.agg #[.int .u64 8192, v], .int .u64 (x : Nat), d] w fun e w' => ∃ a' n' c' bs', e = .returned (.tuple #[.agg #[.int .u64 8192, .slice a' n' c'], .bool B]) ∧ n' ≤ n + L ∧ RefIn F w' (.slice a' n' c') n' bs' ∧ ((∀ a, rget bs' n' a = (if B = true then over (rget bs n) x L f else rget bs n) a) ∧ (Rng bs n 8192 → Rng bs' n' 8192)) ∧ Below w.heap.size w w' := by
  subst hB
  exact rwrite_any F w 8192 x L v d n bs f h hd hF hn (by omega) hx hL
set_option maxHeartbeats 1000000 in
theorem memory_long (av : Option Addr) (len cap : Nat) (hlen : 60 < len) (W : World) : Calls Try.prog 6 #[.slice av len cap] W fun e w' => ∃ pv a n c, e = .returned (.tuple #[pv, .agg #[.int .u64 8192, .slice a n c]]) ∧ Below W.heap.size W w' ∧ ((pv = .pointer none ∧ 0 < len) ∨ ∃ rb F M, pv = .pointer (some ⟨rb, 0, none⟩) ∧ Both F w' rb 8192 (.slice a n c) 12000 M ∧ (∀ k, F k → W.heap.size ≤ k)) := by
  have hl : (60 : Int) < (len : Int) := by omega
  go_enter Try.func6, Try.ntmps6
  go_upto_region 2 with fail
  have HB : Hid (∀ w1 rb F, RamAt w1 F rb 8192 0 (.pointer none) (fun _ => 0) → (∀ k, F k → ((W.alloc (.cells #[.int .u64 0, .slice none 0 0] 32)).alloc (.cells #[.int .u64 8192, .slice none 0 0] 32)).heap.size ≤ k) → Below ((W.alloc (.cells #[.int .u64 0, .slice none 0 0] 32)).alloc (.cells #[.int .u64 8192, .slice none 0 0] 32)).heap.size ((W.alloc (.cells #[.int .u64 0, .slice none 0 0] 32)).alloc (.cells #[.int .u64 8192, .slice none 0 0] 32)) w1 → Mem W w1 rb none 0 0 F (fun _ => 0) 0) := fun w1 rb F h1 h2 h3 => begun_mem W w1 rb F h1 h2 h3
  generalize ((W.alloc (.cells #[.int .u64 0, .slice none 0 0] 32)).alloc (.cells #[.int .u64 8192, .slice none 0 0] 32)) = V2 at *
  go_wp2_with fail
  refine (new_8192 _).mono ?_
  rintro e w1 ⟨rb, F, rfl, h1, hF, hb1⟩
  have X1 : Hid (Mem W w1 rb none 0 0 F (fun _ => 0) 0) := HB.out _ _ _ h1 hF hb1
  clear h1 hF hb1 HB
  have q0 := cellOf X1.out.2.1 0 _ rfl
  have q1 := cellOf X1.out.2.1 1 _ rfl
  have p0 := cellOf X1.out.1 0 _ rfl
  have p1 := cellOf X1.out.1 1 _ rfl
  have z0 := frozenOf X1.out.1 0
  have z1 := frozenOf X1.out.1 1
  go_wp2_with fail
  go_region
  go_wp2_with fail
  refine bodyPost_ret (v := .tuple #[.pointer none, .agg #[.int .u64 8192, .slice none 0 0]]) (by simp [results, Try.results6, go_sem, p0, p1]) rfl ⟨_, _, _, _, rfl, ?_, .inl ⟨rfl, by omega⟩⟩
  exact ((X1.out.2.2.2.2.setCell (p := ⟨W.heap.size, 0, none⟩) (Nat.le_refl _) _).setCell (p := ⟨W.heap.size, 1, none⟩) (Nat.le_refl _) _).drew
set_option maxHeartbeats 4000000 in
theorem memory_short (av : Option Addr) (len cap : Nat) (ps : Nat → PutD) (hlen : len ≤ 60) (W : World) (hws : PutsIn W (.slice av len cap) len ps) : Calls Try.prog 6 #[.slice av len cap] W fun e w' => ∃ pv a n c, e = .returned (.tuple #[pv, .agg #[.int .u64 8192, .slice a n c]]) ∧ Below W.heap.size W w' ∧ ((pv = .pointer none ∧ 0 < len) ∨ ∃ rb F M, pv = .pointer (some ⟨rb, 0, none⟩) ∧ Both F w' rb 8192 (.slice a n c) 12000 M ∧ (∀ k, F k → W.heap.size ≤ k)) := by
  have hl : ¬ (60 : Int) < (len : Int) := by omega
  have HW : Hid (PutsIn W (.slice av len cap) len ps) := hws
  have HL : Hid (len ≤ 60) := hlen
  clear hws hlen
  go_enter Try.func6, Try.ntmps6
  go_upto_region 2 with fail
  have HB : Hid (∀ w1 rb F, RamAt w1 F rb 8192 0 (.pointer none) (fun _ => 0) → (∀ k, F k → ((W.alloc (.cells #[.int .u64 0, .slice none 0 0] 32)).alloc (.cells #[.int .u64 8192, .slice none 0 0] 32)).heap.size ≤ k) → Below ((W.alloc (.cells #[.int .u64 0, .slice none 0 0] 32)).alloc (.cells #[.int .u64 8192, .slice none 0 0] 32)).heap.size ((W.alloc (.cells #[.int .u64 0, .slice none 0 0] 32)).alloc (.cells #[.int .u64 8192, .slice none 0 0] 32)) w1 → Mem W w1 rb none 0 0 F (fun _ => 0) 0) := fun w1 rb F h1 h2 h3 => begun_mem W w1 rb F h1 h2 h3
  generalize ((W.alloc (.cells #[.int .u64 0, .slice none 0 0] 32)).alloc (.cells #[.int .u64 8192, .slice none 0 0] 32)) = V2 at *
  go_wp2_with fail
  refine (new_8192 _).mono ?_
  rintro e w1 ⟨rb, F0, rfl, h1, hF, hb1⟩
  have X1 : Hid (Mem W w1 rb none 0 0 F0 (fun _ => 0) 0) := HB.out _ _ _ h1 hF hb1
  clear h1 hF hb1 HB
  go_wp2_with fail
  go_loopw [7] (fun i wr => ∃ (j : Nat) (a : Option Addr) (n c : Nat) (F : Nat → Prop) (M : Nat → Nat), j ≤ len ∧ i = .int .i64 j ∧ Mem W wr rb a n c F M j) (fun i _ => len - (intOf i).toNat)
  case atStart => exact ⟨0, none, 0, 0, F0, fun _ => 0, by omega, rfl, X1.out⟩
  case round =>
    obtain ⟨j, a, n, c, F, M, hj, rfl, hX⟩ := hrel
    have Xr : Hid (Mem W wr rb a n c F M j) := hX
    clear hX X1
    by_cases hlt : j < len
    case neg =>
      obtain rfl : j = len := by omega
      have q0 := cellOf Xr.out.2.1 0 _ rfl
      have q1 := cellOf Xr.out.2.1 1 _ rfl
      have p0 := cellOf Xr.out.1 0 _ rfl
      have p1 := cellOf Xr.out.1 1 _ rfl
      have z0 := frozenOf Xr.out.1 0
      have z1 := frozenOf Xr.out.1 1
      have P1 : Hid _ := p1
      go_wp2_with fail
      go_region
      go_wp2_with fail
      refine bodyPost_ret (v := .tuple #[.pointer (some ⟨rb, 0, none⟩), .agg #[.int .u64 8192, .slice a n c]]) (by simp [results, Try.results6, go_sem, p0, p1]) rfl ⟨_, a, n, c, rfl, ?_, .inr ⟨rb, F, M, rfl, ?_, fun k hk => by have := Xr.out.2.2.2.1 k hk; omega⟩⟩
      · exact ((Xr.out.2.2.2.2.setCell (p := ⟨W.heap.size, 0, none⟩) (Nat.le_refl _) _).setCell (p := ⟨W.heap.size, 1, none⟩) (Nat.le_refl _) _).drew
      · have hB := Xr.out.2.2.1.setBox (b := W.heap.size) (u0 := .int .u64 8192) (u1 := .slice a n c) (fun hf => by have := Xr.out.2.2.2.1 _ hf; omega) P1.out
        have hB2 := hB.below (Below.drew (Below.refl _ _))
        obtain ⟨g1, nb, bs, g2, g3⟩ := hB2
        have := HL.out
        exact ⟨g1.mono (by omega), nb, bs, by omega, g3⟩
    case pos =>
      have hji : (j : Int) < (len : Int) := by omega
      rcases HW.out with ⟨h0, _⟩ | ⟨b, off, cp, hv, hbW, hl9, hc⟩
      · omega
      simp only [Value.slice.injEq] at hv
      obtain ⟨rfl, -, rfl⟩ := hv
      obtain ⟨c1, c2, hin⟩ := hc j hlt
      have HI : Hid (PutD.In (ps j) (fun q => W.heap.size ≤ q) W) := hin
      clear hc hin hl9
      obtain ⟨⟨x, da, dl, dc, f⟩, hps⟩ : ∃ o, ps j = o := ⟨_, rfl⟩
      rw [hps] at HI c1 c2
      simp only at c1 c2
      clear hps
      have HP : Hid (∀ V, Below W.heap.size W V → V.cell? ⟨b, off + j * 2, none⟩ = some (.int .u64 (x : Int)) ∧ V.cell? ⟨b, off + j * 2 + 1, none⟩ = some (.slice da dl dc)) := fun V hV => ⟨(hV.cell (p := ⟨b, off + j * 2, none⟩) hbW).trans c1, (hV.cell (p := ⟨b, off + j * 2 + 1, none⟩) hbW).trans c2⟩
      clear c1 c2
      have e1 := (HP.out wr Xr.out.2.2.2.2).1
      have e2 := (HP.out wr Xr.out.2.2.2.2).2
      by_cases hbig : 200 < dl
      · have hbi : (200 : Int) < (dl : Int) := by omega
        have q0 := cellOf Xr.out.2.1 0 _ rfl
        have q1 := cellOf Xr.out.2.1 1 _ rfl
        have p0 := cellOf Xr.out.1 0 _ rfl
        have p1 := cellOf Xr.out.1 1 _ rfl
        have z0 := frozenOf Xr.out.1 0
        have z1 := frozenOf Xr.out.1 1
        go_wp2_with fail
        go_region
        go_wp2_with fail
        refine bodyPost_ret (v := .tuple #[.pointer none, .agg #[.int .u64 8192, .slice a n c]]) (by simp [results, Try.results6, go_sem, p0, p1]) rfl ⟨_, _, _, _, rfl, ?_, .inl ⟨rfl, by omega⟩⟩
        exact ((Xr.out.2.2.2.2.setCell (p := ⟨W.heap.size, 0, none⟩) (Nat.le_refl _) _).setCell (p := ⟨W.heap.size, 1, none⟩) (Nat.le_refl _) _).drew
      have hbi : ¬ (200 : Int) < (dl : Int) := by omega
      obtain ⟨B, hB⟩ : ∃ B, inB x dl 2147483648 8192 = B := ⟨_, rfl⟩
      have HV : Hid (inB x dl 2147483648 8192 = B) := hB
      clear hB
      go_upto_region 10 with fail
      have Xd : Hid (Mem W wr.drew rb a n c F M j) := Xr.out.step (Below.drew (Below.refl _ _))
      refine wp_region_held_drew (S := fun V => V.cell? ⟨b, off + j * 2, none⟩ = some (.int .u64 (x : Int)) ∧ V.cell? ⟨b, off + j * 2 + 1, none⟩ = some (.slice da dl dc)) (by kernel_rfl) (HP.out _ Xd.out.2.2.2.2) ?_
      intro hS
      refine wpAnyH_take (i := 0) (v := ?_) rfl (by kernel_rfl) (by kernel_rfl) (by kernel_rfl) (fun _ _ _ h => h) (Or.inl ⟨by kernel_rfl, ?_⟩) hS ?_
      rotate_left
      · intro w hSw; (try dsimp only at hSw); go_simp; try (with_reducible rfl)
      (try simp only [Act.put, List.getElem_toArray, List.getElem_cons_succ, List.getElem_cons_zero, List.setIfInBounds_toArray, List.set_cons_zero, List.set_cons_succ])
      refine wpAnyH_take (i := 1) (v := ?_) rfl (by kernel_rfl) (by kernel_rfl) (by kernel_rfl) (fun _ _ _ h => h) (Or.inl ⟨by kernel_rfl, ?_⟩) hS ?_
      rotate_left
      · intro w hSw; (try dsimp only at hSw); go_simp; try (with_reducible rfl)
      (try simp only [Act.put, List.getElem_toArray, List.getElem_cons_succ, List.getElem_cons_zero, List.setIfInBounds_toArray, List.set_cons_zero, List.set_cons_succ])
      refine wpAnyH_take (i := 2) (v := ?_) rfl (by kernel_rfl) (by kernel_rfl) (by kernel_rfl) (fun _ _ _ h => h) (Or.inl ⟨by kernel_rfl, ?_⟩) hS ?_
      rotate_left
      · intro w hSw; (try dsimp only at hSw); go_simp; try (with_reducible rfl)
      (try simp only [Act.put, List.getElem_toArray, List.getElem_cons_succ, List.getElem_cons_zero, List.setIfInBounds_toArray, List.set_cons_zero, List.set_cons_succ])
      refine wpAnyH_take (i := 3) (v := ?_) rfl (by kernel_rfl) (by kernel_rfl) (by kernel_rfl) (fun _ _ _ h => h) (Or.inl ⟨by kernel_rfl, ?_⟩) hS ?_
      rotate_left
      · intro w hSw; (try dsimp only at hSw); go_simp; try (with_reducible rfl)
      (try simp only [Act.put, List.getElem_toArray, List.getElem_cons_succ, List.getElem_cons_zero, List.setIfInBounds_toArray, List.set_cons_zero, List.set_cons_succ])
      refine wpAnyH_take (i := 4) (v := ?_) rfl (by kernel_rfl) (by kernel_rfl) (by kernel_rfl) (fun _ _ _ h => h) (Or.inl ⟨by kernel_rfl, ?_⟩) hS ?_
      rotate_left
      · intro w hSw; (try dsimp only at hSw); go_simp; try (with_reducible rfl)
      (try simp only [Act.put, List.getElem_toArray, List.getElem_cons_succ, List.getElem_cons_zero, List.setIfInBounds_toArray, List.set_cons_zero, List.set_cons_succ])
      refine wpAnyH_take (i := 5) (v := ?_) rfl (by kernel_rfl) (by kernel_rfl) (by kernel_rfl) (fun _ _ _ h => h) (Or.inl ⟨by kernel_rfl, ?_⟩) hS ?_
      rotate_left
      · intro w hSw; (try dsimp only at hSw); go_simp; try (with_reducible rfl)
      (try simp only [Act.put, List.getElem_toArray, List.getElem_cons_succ, List.getElem_cons_zero, List.setIfInBounds_toArray, List.set_cons_zero, List.set_cons_succ])
      refine wpAnyH_take (i := 6) (v := ?_) rfl (by kernel_rfl) (by kernel_rfl) (by kernel_rfl) (fun _ _ _ h => h) (Or.inl ⟨by kernel_rfl, ?_⟩) hS ?_
      rotate_left
      · intro w hSw; (try dsimp only at hSw); go_simp; try (with_reducible rfl)
      (try simp only [Act.put, List.getElem_toArray, List.getElem_cons_succ, List.getElem_cons_zero, List.setIfInBounds_toArray, List.set_cons_zero, List.set_cons_succ])
      refine wpAnyH_take (i := 7) (v := ?_) rfl (by kernel_rfl) (by kernel_rfl) (by kernel_rfl) (fun _ _ _ h => h) (Or.inl ⟨by kernel_rfl, ?_⟩) hS ?_
      rotate_left
      · intro w hSw; (try dsimp only at hSw); go_simp; try (with_reducible rfl)
      (try simp only [Act.put, List.getElem_toArray, List.getElem_cons_succ, List.getElem_cons_zero, List.setIfInBounds_toArray, List.set_cons_zero, List.set_cons_succ])
      refine wpAnyH_take (i := 8) (v := ?_) rfl (by kernel_rfl) (by kernel_rfl) (by kernel_rfl) (fun _ _ _ h => h) (Or.inl ⟨by kernel_rfl, ?_⟩) hS ?_
      rotate_left
      · intro w hSw; (try dsimp only at hSw); go_simp; try (with_reducible rfl)
      (try simp only [Act.put, List.getElem_toArray, List.getElem_cons_succ, List.getElem_cons_zero, List.setIfInBounds_toArray, List.set_cons_zero, List.set_cons_succ])
      refine wpAnyH_take (i := 9) (v := ?_) rfl (by kernel_rfl) (by kernel_rfl) (by kernel_rfl) (fun _ _ _ h => h) (Or.inl ⟨by kernel_rfl, ?_⟩) hS ?_
      rotate_left
      · intro w hSw; (try dsimp only at hSw); go_simp; try (with_reducible rfl)
      (try simp only [Act.put, List.getElem_toArray, List.getElem_cons_succ, List.getElem_cons_zero, List.setIfInBounds_toArray, List.set_cons_zero, List.set_cons_succ])
      refine wpAnyH_take (i := 10) (v := ?_) rfl (by kernel_rfl) (by kernel_rfl) (by kernel_rfl) (fun _ _ _ h => h) (Or.inl ⟨by kernel_rfl, ?_⟩) hS ?_
      rotate_left
      · intro w hSw; (try dsimp only at hSw); go_simp; try (with_reducible rfl)
      (try simp only [Act.put, List.getElem_toArray, List.getElem_cons_succ, List.getElem_cons_zero, List.setIfInBounds_toArray, List.set_cons_zero, List.set_cons_succ])
      refine wpAnyH_ready (rs := [11]) (by kernel_rfl) (by simp) ?_
      refine AllReadyH.cons rfl (fun K1 hK1 => ?_) AllReadyH.nil
      go_simp
      have hin := PutD.In.later (F := F) HI.out Xd.out.2.2.2.2 (fun q hq => by have := Xd.out.2.2.2.1 q hq; omega)
      refine (wr_any Xd.out.2.2.1.1 x dl f (.slice da dl dc) B HV.out hin.1 hin.2.2 (fun i _ => hin.2.1 i) (by have := HL.out; omega)).mono ?_
      clear hin
      rintro e w5 ⟨rfl, F5, h5, hs5⟩
      have X5 : Hid ((w5.heap[W.heap.size]? = some (.cells #[.int .u64 0, .slice none 0 0] 32 (0, 0)) ∧ w5.heap[W.heap.size + 1]? = some (.cells #[.int .u64 8192, .slice a n c] 32 (0, 0)) ∧ (∀ k, F5 k → W.heap.size + 2 ≤ k) ∧ Below W.heap.size W w5) ∧ RamAt w5 F5 rb 8192 (200 * j + dl) (.pointer none) (if B = true then over M x dl f else M) ∧ ∃ nb bs, nb ≤ 200 * j ∧ (∃ a' c', Value.slice a n c = .slice a' nb c') ∧ RefIn F5 w5 (.slice a n c) nb bs ∧ (∀ q, rget bs nb q = M q) ∧ Rng bs nb 8192) := by
        refine ⟨mem_both Xd.out hs5, h5, ?_⟩
        obtain ⟨-, nb, bs, g2, g3, g4, g5⟩ := Xd.out.2.2.1
        exact ⟨nb, bs, g2, g3, g4.step hs5, g5⟩
      clear h5 hs5
      refine hK1.out _ _ (HP.out _ X5.out.1.2.2.2) (fun hS5 => ?_)
      clear hK1 K1 hS
      (try simp only [Act.put, List.getElem_toArray, List.getElem_cons_succ, List.getElem_cons_zero, List.setIfInBounds_toArray, List.set_cons_zero, List.set_cons_succ])
      refine wpAnyH_done (by kernel_rfl) ?_ _
      clear hS5 e1 e2
      go_upto_region 11 with fail
      have e1 := (HP.out w5 X5.out.1.2.2.2).1
      have e2 := (HP.out w5 X5.out.1.2.2.2).2
      obtain ⟨nb, bs, g2, g3, g4, g5⟩ := X5.out.2.2
      have G : Hid (nb ≤ 200 * j ∧ (∃ a' c', Value.slice a n c = .slice a' nb c') ∧ RefIn F5 w5 (.slice a n c) nb bs ∧ (∀ q, rget bs nb q = M q) ∧ Rng bs nb 8192) := ⟨g2, g3, g4, g5⟩
      clear g2 g3 g4 g5
      have hd5 : Below w5.heap.size w5 w5.drew := Below.drew (Below.refl _ _)
      have D5 : Hid ((w5.drew.cell? ⟨b, off + j * 2, none⟩ = some (.int .u64 (x : Int)) ∧ w5.drew.cell? ⟨b, off + j * 2 + 1, none⟩ = some (.slice da dl dc)) ∧ w5.drew.cell? ⟨W.heap.size + 1, 0, none⟩ = some (.int .u64 8192) ∧ w5.drew.cell? ⟨W.heap.size + 1, 1, none⟩ = some (.slice a n c)) := ⟨HP.out _ (X5.out.1.2.2.2.trans (hd5.mono X5.out.1.2.2.2.size)), cellOf (below_box X5.out.1.2.1 hd5) 0 _ rfl, cellOf (below_box X5.out.1.2.1 hd5) 1 _ rfl⟩
      have hin5 := PutD.In.later (F := F5) HI.out (X5.out.1.2.2.2.trans (hd5.mono X5.out.1.2.2.2.size)) (fun q hq => by have := X5.out.1.2.2.1 q hq; omega)
      have HI5 : Hid (x < 18446744073709551616 ∧ Reads .u8 w5.drew (.slice da dl dc) dl f) := ⟨hin5.1, hin5.2.2.reads⟩
      clear hd5 hin5
      have f0 := D5.out.2.1
      have f1 := D5.out.2.2
      refine wp_region_held_drew (S := fun V => V.cell? ⟨b, off + j * 2, none⟩ = some (.int .u64 (x : Int)) ∧ V.cell? ⟨b, off + j * 2 + 1, none⟩ = some (.slice da dl dc)) (by kernel_rfl) D5.out.1 ?_
      intro hS
      refine wpAnyH_take (i := 1) (v := ?_) rfl (by kernel_rfl) (by kernel_rfl) (by kernel_rfl) (fun _ _ _ h => h) (Or.inl ⟨by kernel_rfl, ?_⟩) hS ?_
      rotate_left
      · intro w hSw; (try dsimp only at hSw); go_simp; try (with_reducible rfl)
      (try simp only [Act.put, List.getElem_toArray, List.getElem_cons_succ, List.getElem_cons_zero, List.setIfInBounds_toArray, List.set_cons_zero, List.set_cons_succ])
      refine wpAnyH_take (i := 2) (v := ?_) rfl (by kernel_rfl) (by kernel_rfl) (by kernel_rfl) (fun _ _ _ h => h) (Or.inl ⟨by kernel_rfl, ?_⟩) hS ?_
      rotate_left
      · intro w hSw; (try dsimp only at hSw); go_simp; try (with_reducible rfl)
      (try simp only [Act.put, List.getElem_toArray, List.getElem_cons_succ, List.getElem_cons_zero, List.setIfInBounds_toArray, List.set_cons_zero, List.set_cons_succ])
      refine wpAnyH_take (i := 3) (v := ?_) rfl (by kernel_rfl) (by kernel_rfl) (by kernel_rfl) (fun _ _ _ h => h) (Or.inl ⟨by kernel_rfl, ?_⟩) hS ?_
      rotate_left
      · intro w hSw; (try dsimp only at hSw); go_simp; try (with_reducible rfl)
      (try simp only [Act.put, List.getElem_toArray, List.getElem_cons_succ, List.getElem_cons_zero, List.setIfInBounds_toArray, List.set_cons_zero, List.set_cons_succ])
      refine wpAnyH_take (i := 4) (v := ?_) rfl (by kernel_rfl) (by kernel_rfl) (by kernel_rfl) (fun _ _ _ h => h) (Or.inl ⟨by kernel_rfl, ?_⟩) hS ?_
      rotate_left
      · intro w hSw; (try dsimp only at hSw); go_simp; try (with_reducible rfl)
      (try simp only [Act.put, List.getElem_toArray, List.getElem_cons_succ, List.getElem_cons_zero, List.setIfInBounds_toArray, List.set_cons_zero, List.set_cons_succ])
      refine wpAnyH_take (i := 5) (v := ?_) rfl (by kernel_rfl) (by kernel_rfl) (by kernel_rfl) (fun _ _ _ h => h) (Or.inl ⟨by kernel_rfl, ?_⟩) hS ?_
      rotate_left
      · intro w hSw; (try dsimp only at hSw); go_simp; try (with_reducible rfl)
      (try simp only [Act.put, List.getElem_toArray, List.getElem_cons_succ, List.getElem_cons_zero, List.setIfInBounds_toArray, List.set_cons_zero, List.set_cons_succ])
      refine wpAnyH_take (i := 6) (v := ?_) rfl (by kernel_rfl) (by kernel_rfl) (by kernel_rfl) (fun _ _ _ h => h) (Or.inl ⟨by kernel_rfl, ?_⟩) hS ?_
      rotate_left
      · intro w hSw; (try dsimp only at hSw); go_simp; try (with_reducible rfl)
      (try simp only [Act.put, List.getElem_toArray, List.getElem_cons_succ, List.getElem_cons_zero, List.setIfInBounds_toArray, List.set_cons_zero, List.set_cons_succ])
      refine wpAnyH_take (i := 7) (v := ?_) rfl (by kernel_rfl) (by kernel_rfl) (by kernel_rfl) (fun _ _ _ h => h) (Or.inl ⟨by kernel_rfl, ?_⟩) hS ?_
      rotate_left
      · intro w hSw; (try dsimp only at hSw); go_simp; try (with_reducible rfl)
      (try simp only [Act.put, List.getElem_toArray, List.getElem_cons_succ, List.getElem_cons_zero, List.setIfInBounds_toArray, List.set_cons_zero, List.set_cons_succ])
      refine wpAnyH_take (i := 8) (v := ?_) rfl (by kernel_rfl) (by kernel_rfl) (by kernel_rfl) (fun _ _ _ h => h) (Or.inl ⟨by kernel_rfl, ?_⟩) hS ?_
      rotate_left
      · intro w hSw; (try dsimp only at hSw); go_simp; try (with_reducible rfl)
      (try simp only [Act.put, List.getElem_toArray, List.getElem_cons_succ, List.getElem_cons_zero, List.setIfInBounds_toArray, List.set_cons_zero, List.set_cons_succ])
      refine wpAnyH_take (i := 9) (v := ?_) rfl (by kernel_rfl) (by kernel_rfl) (by kernel_rfl) (fun _ _ _ h => h) (Or.inl ⟨by kernel_rfl, ?_⟩) hS ?_
      rotate_left
      · intro w hSw; (try dsimp only at hSw); go_simp; try (with_reducible rfl)
      (try simp only [Act.put, List.getElem_toArray, List.getElem_cons_succ, List.getElem_cons_zero, List.setIfInBounds_toArray, List.set_cons_zero, List.set_cons_succ])
      refine wpAnyH_take (i := 10) (v := ?_) rfl (by kernel_rfl) (by kernel_rfl) (by kernel_rfl) (fun _ _ _ h => h) (Or.inl ⟨by kernel_rfl, ?_⟩) hS ?_
      rotate_left
      · intro w hSw; (try dsimp only at hSw); go_simp; try (with_reducible rfl)
      (try simp only [Act.put, List.getElem_toArray, List.getElem_cons_succ, List.getElem_cons_zero, List.setIfInBounds_toArray, List.set_cons_zero, List.set_cons_succ])
      refine wpAnyH_ready (rs := [0]) (by kernel_rfl) (by simp) ?_
      refine AllReadyH.cons rfl (fun K1 hK1 => ?_) AllReadyH.nil
      go_simp
      refine hK1.out _ _ D5.out.1 (fun hS0 => ?_)
      clear hK1 K1 hS f0 f1
      (try simp only [Act.put, List.getElem_toArray, List.getElem_cons_succ, List.getElem_cons_zero, List.setIfInBounds_toArray, List.set_cons_zero, List.set_cons_succ])
      refine wpAnyH_ready (rs := [11]) (by kernel_rfl) (by simp) ?_
      refine AllReadyH.cons rfl (fun K1 hK1 => ?_) AllReadyH.nil
      go_simp
      refine (rwr_any F5 _ x dl (.slice a n c) (.slice da dl dc) nb bs f B HV.out (G.out.2.2.1.below (Below.drew (Below.refl _ _))) HI5.out.2 (fun k hk => X5.out.2.1.lt k hk) (by have := HL.out; have := G.out.1; omega) HI5.out.1 (by omega)).mono ?_
      rintro e w6 ⟨a6, n6, c6, bs6, rfl, hn6, hr6, he6, hb6⟩
      have hb6' : Below w5.heap.size w5 w6 := (Below.drew (Below.refl _ _)).trans hb6
      have X6 : Hid ((w6.heap[W.heap.size]? = some (.cells #[.int .u64 0, .slice none 0 0] 32 (0, 0)) ∧ w6.heap[W.heap.size + 1]? = some (.cells #[.int .u64 8192, .slice a n c] 32 (0, 0)) ∧ (∀ k, F5 k → W.heap.size + 2 ≤ k) ∧ Below W.heap.size W w6) ∧ Both F5 w6 rb 8192 (.slice a6 n6 c6) (200 * (j + 1)) (if B = true then over M x dl f else M)) := by
        refine ⟨⟨below_box X5.out.1.1 hb6', below_box X5.out.1.2.1 hb6', X5.out.1.2.2.1, X5.out.1.2.2.2.trans (hb6'.mono X5.out.1.2.2.2.size)⟩, (X5.out.2.1.below hb6').mono (by omega), n6, bs6, by have := G.out.1; omega, ⟨a6, c6, rfl⟩, hr6, fun q => ?_, he6.2 G.out.2.2.2.2⟩
        rw [he6.1 q]
        split
        · exact over_congr _ _ _ G.out.2.2.2.1 q
        · exact G.out.2.2.2.1 q
      clear hb6 hb6' he6 hr6
      refine hK1.out _ _ (HP.out _ X6.out.1.2.2.2) (fun hS6 => ?_)
      clear hK1 K1 hS0
      (try simp only [Act.put, List.getElem_toArray, List.getElem_cons_succ, List.getElem_cons_zero, List.setIfInBounds_toArray, List.set_cons_zero, List.set_cons_succ])
      refine wpAnyH_take (i := 12) (v := ?_) rfl (by kernel_rfl) (by kernel_rfl) (by kernel_rfl) (fun _ _ _ h => h) (Or.inl ⟨by kernel_rfl, ?_⟩) hS6 ?_
      rotate_left
      · intro w hSw; (try dsimp only at hSw); go_simp; try (with_reducible rfl)
      (try simp only [Act.put, List.getElem_toArray, List.getElem_cons_succ, List.getElem_cons_zero, List.setIfInBounds_toArray, List.set_cons_zero, List.set_cons_succ])
      refine wpAnyH_take (i := 13) (v := ?_) rfl (by kernel_rfl) (by kernel_rfl) (by kernel_rfl) (fun _ _ _ h => h) (Or.inl ⟨by kernel_rfl, ?_⟩) hS6 ?_
      rotate_left
      · intro w hSw; (try dsimp only at hSw); go_simp; try (with_reducible rfl)
      (try simp only [Act.put, List.getElem_toArray, List.getElem_cons_succ, List.getElem_cons_zero, List.setIfInBounds_toArray, List.set_cons_zero, List.set_cons_succ])
      refine wpAnyH_take (i := 14) (v := ?_) rfl (by kernel_rfl) (by kernel_rfl) (by kernel_rfl) (fun _ _ _ h => h) (Or.inl ⟨by kernel_rfl, ?_⟩) hS6 ?_
      rotate_left
      · intro w hSw; (try dsimp only at hSw); go_simp; try (with_reducible rfl)
      (try simp only [Act.put, List.getElem_toArray, List.getElem_cons_succ, List.getElem_cons_zero, List.setIfInBounds_toArray, List.set_cons_zero, List.set_cons_succ])
      have a0 := cellOf X6.out.1.2.1 0 _ rfl
      have a1 := cellOf X6.out.1.2.1 1 _ rfl
      have z0 := frozenOf X6.out.1.2.1 0
      have z1 := frozenOf X6.out.1.2.1 1
      refine wpAnyH_ready (rs := [15]) (by kernel_rfl) (by simp) ?_
      refine AllReadyH.cons rfl (fun K1 hK1 => ?_) AllReadyH.nil
      go_simp
      have X7 : Hid (Mem W ((w6.setCell ⟨W.heap.size + 1, 0, none⟩ (.int .u64 8192)).setCell ⟨W.heap.size + 1, 1, none⟩ (.slice a6 n6 c6)) rb a6 n6 c6 F5 (if B = true then over M x dl f else M) (j + 1)) :=
        ⟨box_other X6.out.1.1 (by omega), box_set X6.out.1.2.1, X6.out.2.setBox (fun hf => by have := X6.out.1.2.2.1 _ hf; omega) (cellOf X6.out.1.2.1 1 _ rfl), X6.out.1.2.2.1, (X6.out.1.2.2.2.setCell (p := ⟨W.heap.size + 1, 0, none⟩) (by show W.heap.size ≤ W.heap.size + 1; omega) _).setCell (p := ⟨W.heap.size + 1, 1, none⟩) (by show W.heap.size ≤ W.heap.size + 1; omega) _⟩
      refine hK1.out _ ((w6.setCell ⟨W.heap.size + 1, 0, none⟩ (.int .u64 8192)).setCell ⟨W.heap.size + 1, 1, none⟩ (.slice a6 n6 c6)) (HP.out _ X7.out.2.2.2.2) (fun hS7 => ?_)
      clear hK1 K1 hS6 a0 a1 z0 z1 e1 e2
      (try simp only [Act.put, List.getElem_toArray, List.getElem_cons_succ, List.getElem_cons_zero, List.setIfInBounds_toArray, List.set_cons_zero, List.set_cons_succ])
      refine wpAnyH_done (by kernel_rfl) ?_ _
      clear hS7
      go_wp2_with fail
      go_roundw
      case rel => exact ⟨j + 1, a6, n6, c6, F5, _, by omega, by go_num, X7.out⟩
      case measure => simp [intOf]; omega
theorem memory_any (v : Value) (len : Nat) (ps : Nat → PutD) (W : World) (hws : PutsIn W v len ps) : Calls Try.prog 6 #[v] W fun e w' => ∃ pv a n c, e = .returned (.tuple #[pv, .agg #[.int .u64 8192, .slice a n c]]) ∧ Below W.heap.size W w' ∧ ((pv = .pointer none ∧ 0 < len) ∨ ∃ rb F M, pv = .pointer (some ⟨rb, 0, none⟩) ∧ Both F w' rb 8192 (.slice a n c) 12000 M ∧ (∀ k, F k → W.heap.size ≤ k)) := by
  obtain ⟨a, c, rfl⟩ : ∃ a c, v = .slice a len c := by
    rcases hws with ⟨rfl, a, c, rfl⟩ | ⟨b, off, cap, rfl, _⟩
    · exact ⟨_, _, rfl⟩
    · exact ⟨_, _, rfl⟩
  by_cases h : len ≤ 60
  · exact memory_short a len c ps h W hws
  · exact memory_long a len c (by omega) W
end Go.Proofs.Ytmjdnocilbnoaaa

/- The bytes of a descriptor on both sides; RingBytes. -/
namespace Go.Proofs.Ytmjdnocilbnoaaa
open Go.RowKit Go.Maps
set_option linter.unusedVariables false
set_option linter.unusedSimpArgs false
set_option maxRecDepth 100000
theorem below_to {w w1 w2 : World} (h1 : Below w.heap.size w w1) (h2 : Below w1.heap.size w1 w2) : Below w.heap.size w w2 := h1.trans (h2.mono h1.size)
/-- one row behind another -/
def catF (f : Nat → Nat) (n : Nat) (g : Nat → Nat) (i : Nat) : Nat := if i < n then f i else g (i - n)
/-- the bytes of a descriptor -/
def dB (ad ln fl nx : Nat) : Nat → Nat := catF (catF (catF (byteAt ad) 8 (byteAt ln)) 12 (byteAt fl)) 14 (byteAt nx)
theorem own_form {B n : Nat} {v : Value} {w : World} {xs : List Value} (h : w.ownsRow B 5 1 v n xs) : ∃ a c, v = .slice a n c := by
  rcases h.2 with ⟨rfl, rfl, _⟩ | ⟨g, cap, cur, rfl, _⟩
  · exact ⟨_, _, rfl⟩
  · exact ⟨_, _, rfl⟩
end Go.Proofs.Ytmjdnocilbnoaaa

/- The document's Word; Desc on both sides. -/
namespace Go.Proofs.Ytmjdnocilbnoaaa
open Go.RowKit Go.Maps
set_option linter.unusedVariables false
set_option linter.unusedSimpArgs false
set_option maxRecDepth 100000
/-- the word of L bytes at a place, 0 of none -/
def wordN (M : Nat → Nat) (x L s : Nat) : Nat := if inB x L 2147483648 s = true then h256 (fun i => M (x + i)) L 0 else 0
theorem wordN_lt {M : Nat → Nat} (hM : ∀ a, M a ≤ 255) (x L s : Nat) : wordN M x L s < 256 ^ L := by
  unfold wordN
  split
  · exact h256_lt _ L 0 (fun j _ => hM _)
  · exact Nat.pow_pos (by decide)
theorem reads_cut {w : World} {g n N c : Nat} {f : Nat → Nat} (h : Reads .u8 w (.slice (some ⟨g, 0, none⟩) N c) N f) (o cc : Nat) (ho : o + n ≤ N) : Reads .u8 w (.slice (some ⟨g, o, none⟩) n cc) n (fun i => f (o + i)) := by
  by_cases hn : n = 0
  · subst hn; exact .inl ⟨rfl, _, _, rfl⟩
  · obtain ⟨b, off, cap, hv, hc⟩ := reads_some h (by omega)
    simp only [Value.slice.injEq, Option.some.injEq, Addr.mk.injEq, and_true, true_and] at hv
    obtain ⟨⟨rfl, rfl⟩, rfl⟩ := hv
    refine .inr ⟨g, o, cc, rfl, fun i hi => ?_⟩
    have := hc (o + i) (by omega)
    rwa [Nat.zero_add] at this
theorem byteAt_h256 (f : Nat → Nat) (hf : ∀ j, f j ≤ 255) : ∀ (m k i : Nat), i < m → byteAt (h256 f m k) i = f (k + i)
  | 0, k, i, h => by omega
  | m + 1, k, 0, _ => by
    have := hf k
    simp only [byteAt, h256, Nat.pow_zero, Nat.div_one, Nat.add_zero]
    omega
  | m + 1, k, i + 1, h => by
    have h1 := byteAt_h256 f hf m (k + 1) i (by omega)
    have := hf k
    rw [show k + (i + 1) = k + 1 + i from by omega, ← h1]
    simp only [byteAt, h256]
    rw [Nat.pow_succ, Nat.mul_comm (256 ^ i) 256, ← Nat.div_div_eq_div_mul]
    rw [show (h256 f m (k + 1) * 256 + f k) / 256 = h256 f m (k + 1) from by omega]
/-- a descriptor that lies at a place -/
structure DescAt (M : Nat → Nat) (x v0 v1 v2 v3 : Nat) : Prop where
  e0 : h256 (fun i => M (x + i)) 8 0 = v0
  e1 : h256 (fun i => M (x + (8 + i))) 4 0 = v1
  e2 : h256 (fun i => M (x + (12 + i))) 2 0 = v2
  e3 : h256 (fun i => M (x + (14 + i))) 2 0 = v3
theorem DescAt.lt {M : Nat → Nat} {x v0 v1 v2 v3 : Nat} (h : DescAt M x v0 v1 v2 v3) (hM : ∀ a, M a ≤ 255) : v0 < 18446744073709551616 ∧ v1 ≤ 4294967295 ∧ v2 ≤ 65535 ∧ v3 ≤ 65535 := by
  have h0 := h256_lt (fun i => M (x + i)) 8 0 (fun j _ => hM _)
  have h1 := h256_lt (fun i => M (x + (8 + i))) 4 0 (fun j _ => hM _)
  have h2 := h256_lt (fun i => M (x + (12 + i))) 2 0 (fun j _ => hM _)
  have h3 := h256_lt (fun i => M (x + (14 + i))) 2 0 (fun j _ => hM _)
  rw [h.e0] at h0
  rw [h.e1] at h1
  rw [h.e2] at h2
  rw [h.e3] at h3
  exact ⟨by omega, by omega, by omega, by omega⟩
theorem DescAt.bytes {M : Nat → Nat} {x v0 v1 v2 v3 : Nat} (h : DescAt M x v0 v1 v2 v3) (hM : ∀ a, M a ≤ 255) : ∀ i, i < 16 → dB v0 v1 v2 v3 i = M (x + i) := by
  intro i hi
  unfold dB catF
  split
  · split
    · split
      · rw [← h.e0, byteAt_h256 _ (fun _ => hM _) 8 0 i (by omega)]; simp
      · rw [← h.e1, byteAt_h256 _ (fun _ => hM _) 4 0 _ (by omega)]; congr 1; omega
    · rw [← h.e2, byteAt_h256 _ (fun _ => hM _) 2 0 _ (by omega)]; congr 1; omega
  · rw [← h.e3, byteAt_h256 _ (fun _ => hM _) 2 0 _ (by omega)]; congr 1; omega
theorem info47 : (Try.prog.info? 151).map (·.size) = some 4 := by kernel_rfl
theorem desc_no (p : Value) (t : Nat) (i : Int) (hi : i < 0 ∨ 255 < i) (w : World) : Calls Try.prog 98 #[p, .int .u64 (t : Nat), .int .i64 i] w fun e w' => e = .returned (.tuple #[.agg #[.int .u64 0, .int .u32 0, .int .u16 0, .int .u16 0], .bool false]) ∧ Below w.heap.size w w' := by
  rcases hi with hi | hi
  · go_enter Try.func98, Try.ntmps98
    go_wp2_with fail
    refine bodyPost_ret (v := .tuple #[.agg #[.int .u64 0, .int .u32 0, .int .u16 0, .int .u16 0], .bool false]) (by simp [results, Try.results98, go_sem]) rfl ⟨rfl, ?_⟩
    exact (Below.refl _ _).alloc (Nat.le_refl _) _
  · have h0 : ¬ i < 0 := by omega
    have h1 : (256 : Int) ≤ i := by omega
    go_enter Try.func98, Try.ntmps98
    go_wp2_with fail
    refine bodyPost_ret (v := .tuple #[.agg #[.int .u64 0, .int .u32 0, .int .u16 0, .int .u16 0], .bool false]) (by simp [results, Try.results98, go_sem]) rfl ⟨rfl, ?_⟩
    exact (Below.refl _ _).alloc (Nat.le_refl _) _
theorem desc_out {w : World} {F : Nat → Prop} {rb n : Nat} {M : Nat → Nat} (h : RamAt w F rb 8192 n (.pointer none) M) (t x k : Nat) (hk : k ≤ 255) (hx : x = (t + 16 * k) % 18446744073709551616) (hin : inB x 16 2147483648 8192 = false) : Calls Try.prog 98 #[.pointer (some ⟨rb, 0, none⟩), .int .u64 (t : Nat), .int .i64 (k : Int)] w fun e w' => e = .returned (.tuple #[.agg #[.int .u64 0, .int .u32 0, .int .u16 0, .int .u16 0], .bool false]) ∧ Below w.heap.size w w' := by
  have h1 : ¬ (256 : Int) ≤ (k : Int) := by omega
  have h2 : ¬ (k : Int) < 0 := by omega
  have h3 : IntKind.u64.wrap (k : Int) = (k : Int) := by rw [wrap_u64]; omega
  have h4 : IntKind.u64.wrap (16 * (k : Int)) = 16 * (k : Int) := by rw [wrap_u64]; omega
  have h5 : IntKind.u64.wrap ((t : Int) + 16 * (k : Int)) = (x : Int) := by rw [wrap_u64]; omega
  have HX : Hid (x < 18446744073709551616 ∧ inB x 16 2147483648 8192 = false) := ⟨by omega, hin⟩
  have HR : Hid (RamAt (w.alloc (.cells #[.int .u64 0, .int .u32 0, .int .u16 0, .int .u16 0] 151)) F rb 8192 n (.pointer none) M) := h.below ((Below.refl _ _).alloc (Nat.le_refl _) _)
  clear hx hin
  go_enter Try.func98, Try.ntmps98
  go_wp2_with fail
  refine (read_out HR.out (by omega) x 16 HX.out.1 (by omega) HX.out.2).mono ?_
  rintro e w1 ⟨rfl, hw⟩
  rw [hw]
  clear hw w1
  go_wp2_with fail
  refine bodyPost_ret (v := .tuple #[.agg #[.int .u64 0, .int .u32 0, .int .u16 0, .int .u16 0], .bool false]) (by simp [results, Try.results98, go_sem]) rfl ⟨rfl, ?_⟩
  exact (Below.refl _ _).alloc (Nat.le_refl _) _
theorem reads_head {w : World} {g N c : Nat} {f : Nat → Nat} (h : Reads .u8 w (.slice (some ⟨g, 0, none⟩) N c) N f) (n cc : Nat) (ho : n ≤ N) : Reads .u8 w (.slice (some ⟨g, 0, none⟩) n cc) n f := by
  have := reads_cut (n := n) h 0 cc (by omega)
  have e : (fun i => f (0 + i)) = f := funext fun i => by rw [Nat.zero_add]
  rwa [e] at this
set_option maxHeartbeats 1000000 in
theorem desc_in {w : World} {F : Nat → Prop} {rb n : Nat} {M : Nat → Nat} (h : RamAt w F rb 8192 n (.pointer none) M) (t x k : Nat) (hk : k ≤ 255) (hx : x = (t + 16 * k) % 18446744073709551616) (hin : inB x 16 2147483648 8192 = true) (v0 v1 v2 v3 : Nat) (hd : DescAt M x v0 v1 v2 v3) : Calls Try.prog 98 #[.pointer (some ⟨rb, 0, none⟩), .int .u64 (t : Nat), .int .i64 (k : Int)] w fun e w' => e = .returned (.tuple #[.agg #[.int .u64 (v0 : Int), .int .u32 (v1 : Int), .int .u16 (v2 : Int), .int .u16 (v3 : Int)], .bool true]) ∧ Below w.heap.size w w' := by
  have h1 : ¬ (256 : Int) ≤ (k : Int) := by omega
  have h2 : ¬ (k : Int) < 0 := by omega
  have h3 : IntKind.u64.wrap (k : Int) = (k : Int) := by rw [wrap_u64]; omega
  have h4 : IntKind.u64.wrap (16 * (k : Int)) = 16 * (k : Int) := by rw [wrap_u64]; omega
  have h5 : IntKind.u64.wrap ((t : Int) + 16 * (k : Int)) = (x : Int) := by rw [wrap_u64]; omega
  have HX : Hid (x < 18446744073709551616 ∧ inB x 16 2147483648 8192 = true) := ⟨by omega, hin⟩
  have HR : Hid (RamAt (w.alloc (.cells #[.int .u64 0, .int .u32 0, .int .u16 0, .int .u16 0] 151)) F rb 8192 n (.pointer none) M ∧ (w.alloc (.cells #[.int .u64 0, .int .u32 0, .int .u16 0, .int .u16 0] 151)).heap[w.heap.size]? = some (.cells #[.int .u64 0, .int .u32 0, .int .u16 0, .int .u16 0] 151 (0, 0)) ∧ Below w.heap.size w (w.alloc (.cells #[.int .u64 0, .int .u32 0, .int .u16 0, .int .u16 0] 151))) := ⟨h.below ((Below.refl _ _).alloc (Nat.le_refl _) _), heap_alloc_new _ _, (Below.refl _ _).alloc (Nat.le_refl _) _⟩
  have HM : Hid (∀ a, M a ≤ 255) := h.le
  have HD : Hid (DescAt M x v0 v1 v2 v3) := hd
  have hlt := hd.lt h.le
  have u1 : IntKind.u32.wrap (v1 : Int) = (v1 : Int) := by simp [IntKind.wrap, IntKind.signed, IntKind.bits]; omega
  have u2 : IntKind.u16.wrap (v2 : Int) = (v2 : Int) := by rw [wrap16]; omega
  have u3 : IntKind.u16.wrap (v3 : Int) = (v3 : Int) := by rw [wrap16]; omega
  clear hx hin hlt hd h
  go_enter Try.func98, Try.ntmps98
  go_upto_region 3 with fail
  generalize (w.alloc (.cells #[.int .u64 0, .int .u32 0, .int .u16 0, .int .u16 0] 151)) = w0 at *
  go_wp2_with fail
  refine (read_in HR.out.1 (by omega) x 16 HX.out.1 (by omega) HX.out.2).mono ?_
  rintro e w1 ⟨rfl, ho, hb1⟩
  have X1 : Hid (w1.heap[w.heap.size]? = some (.cells #[.int .u64 0, .int .u32 0, .int .u16 0, .int .u16 0] 151 (0, 0)) ∧ Below w.heap.size w w1 ∧ Reads .u8 w1 (.slice (some ⟨w0.heap.size, 0, none⟩) 16 16) 16 (fun i => M (x + i))) := ⟨below_box HR.out.2.1 hb1, below_to HR.out.2.2 hb1, reads_own ho⟩
  clear ho hb1 HR
  generalize w0.heap.size = g at *
  go_upto_region 6 with fail
  have X2 : Hid (w1.drew.heap[w.heap.size]? = some (.cells #[.int .u64 0, .int .u32 0, .int .u16 0, .int .u16 0] 151 (0, 0)) ∧ Below w.heap.size w w1.drew ∧ Reads .u8 w1.drew (.slice (some ⟨g, 0, none⟩) 16 16) 16 (fun i => M (x + i))) := ⟨X1.out.1, X1.out.2.1.drew, reads_below X1.out.2.2 (Below.drew (Below.refl _ _))⟩
  clear X1
  refine wp_region_held_drew (S := fun _ => True) (by kernel_rfl) trivial ?_
  intro hS
  generalize w1.drew = w2 at *
  have X1 := X2
  clear X2
  refine wpAnyH_take (i := 0) (v := ?_) rfl (by kernel_rfl) (by kernel_rfl) (by kernel_rfl) (fun _ _ _ h => h) (Or.inl ⟨by kernel_rfl, ?_⟩) hS ?_
  rotate_left
  · intro w hSw; (try dsimp only at hSw); go_simp; try (with_reducible rfl)
  (try simp only [Act.put, List.getElem_toArray, List.getElem_cons_succ, List.getElem_cons_zero, List.setIfInBounds_toArray, List.set_cons_zero, List.set_cons_succ])
  refine wpAnyH_take (i := 1) (v := ?_) rfl (by kernel_rfl) (by kernel_rfl) (by kernel_rfl) (fun _ _ _ h => h) (Or.inl ⟨by kernel_rfl, ?_⟩) hS ?_
  rotate_left
  · intro w hSw; (try dsimp only at hSw); go_simp; try (with_reducible rfl)
  (try simp only [Act.put, List.getElem_toArray, List.getElem_cons_succ, List.getElem_cons_zero, List.setIfInBounds_toArray, List.set_cons_zero, List.set_cons_succ])
  refine wpAnyH_take (i := 3) (v := ?_) rfl (by kernel_rfl) (by kernel_rfl) (by kernel_rfl) (fun _ _ _ h => h) (Or.inl ⟨by kernel_rfl, ?_⟩) hS ?_
  rotate_left
  · intro w hSw; (try dsimp only at hSw); go_simp; try (with_reducible rfl)
  (try simp only [Act.put, List.getElem_toArray, List.getElem_cons_succ, List.getElem_cons_zero, List.setIfInBounds_toArray, List.set_cons_zero, List.set_cons_succ])
  refine wpAnyH_take (i := 4) (v := ?_) rfl (by kernel_rfl) (by kernel_rfl) (by kernel_rfl) (fun _ _ _ h => h) (Or.inl ⟨by kernel_rfl, ?_⟩) hS ?_
  rotate_left
  · intro w hSw; (try dsimp only at hSw); go_simp; try (with_reducible rfl)
  (try simp only [Act.put, List.getElem_toArray, List.getElem_cons_succ, List.getElem_cons_zero, List.setIfInBounds_toArray, List.set_cons_zero, List.set_cons_succ])
  refine wpAnyH_take (i := 7) (v := ?_) rfl (by kernel_rfl) (by kernel_rfl) (by kernel_rfl) (fun _ _ _ h => h) (Or.inl ⟨by kernel_rfl, ?_⟩) hS ?_
  rotate_left
  · intro w hSw; (try dsimp only at hSw); go_simp; try (with_reducible rfl)
  (try simp only [Act.put, List.getElem_toArray, List.getElem_cons_succ, List.getElem_cons_zero, List.setIfInBounds_toArray, List.set_cons_zero, List.set_cons_succ])
  refine wpAnyH_take (i := 8) (v := ?_) rfl (by kernel_rfl) (by kernel_rfl) (by kernel_rfl) (fun _ _ _ h => h) (Or.inl ⟨by kernel_rfl, ?_⟩) hS ?_
  rotate_left
  · intro w hSw; (try dsimp only at hSw); go_simp; try (with_reducible rfl)
  (try simp only [Act.put, List.getElem_toArray, List.getElem_cons_succ, List.getElem_cons_zero, List.setIfInBounds_toArray, List.set_cons_zero, List.set_cons_succ])
  refine wpAnyH_take (i := 11) (v := ?_) rfl (by kernel_rfl) (by kernel_rfl) (by kernel_rfl) (fun _ _ _ h => h) (Or.inl ⟨by kernel_rfl, ?_⟩) hS ?_
  rotate_left
  · intro w hSw; (try dsimp only at hSw); go_simp; try (with_reducible rfl)
  (try simp only [Act.put, List.getElem_toArray, List.getElem_cons_succ, List.getElem_cons_zero, List.setIfInBounds_toArray, List.set_cons_zero, List.set_cons_succ])
  refine wpAnyH_take (i := 12) (v := ?_) rfl (by kernel_rfl) (by kernel_rfl) (by kernel_rfl) (fun _ _ _ h => h) (Or.inl ⟨by kernel_rfl, ?_⟩) hS ?_
  rotate_left
  · intro w hSw; (try dsimp only at hSw); go_simp; try (with_reducible rfl)
  (try simp only [Act.put, List.getElem_toArray, List.getElem_cons_succ, List.getElem_cons_zero, List.setIfInBounds_toArray, List.set_cons_zero, List.set_cons_succ])
  refine wpAnyH_ready (rs := [2]) (by kernel_rfl) (by simp) ?_
  refine AllReadyH.cons rfl (fun K1 hK1 => ?_) AllReadyH.nil
  go_simp
  refine (of_any (fun i => M (x + i)) 8 8 _ (by decide) (by decide) (fun i _ => HM.out _) _ (reads_head X1.out.2.2 8 _ (by decide))).mono ?_
  rintro e w10 ⟨rfl, hw⟩
  rw [hw, HD.out.e0]
  clear hw w10
  refine hK1.out _ _ trivial (fun hS10 => ?_)
  clear hK1 K1 hS
  (try simp only [Act.put, List.getElem_toArray, List.getElem_cons_succ, List.getElem_cons_zero, List.setIfInBounds_toArray, List.set_cons_zero, List.set_cons_succ])
  refine wpAnyH_ready (rs := [5]) (by kernel_rfl) (by simp) ?_
  refine AllReadyH.cons rfl (fun K1 hK1 => ?_) AllReadyH.nil
  go_simp
  refine (of_any (fun i => M (x + (8 + i))) 4 4 _ (by decide) (by decide) (fun i _ => HM.out _) _ (reads_cut (n := 4) X1.out.2.2 8 _ (by decide))).mono ?_
  rintro e w11 ⟨rfl, hw⟩
  rw [hw, HD.out.e1]
  clear hw w11
  refine hK1.out _ _ trivial (fun hS11 => ?_)
  clear hK1 K1 hS10
  (try simp only [Act.put, List.getElem_toArray, List.getElem_cons_succ, List.getElem_cons_zero, List.setIfInBounds_toArray, List.set_cons_zero, List.set_cons_succ])
  refine wpAnyH_take (i := 6) (v := ?_) rfl (by kernel_rfl) (by kernel_rfl) (by kernel_rfl) (fun _ _ _ h => h) (Or.inl ⟨by kernel_rfl, ?_⟩) hS11 ?_
  rotate_left
  · intro w hSw; (try dsimp only at hSw); go_simp; try (with_reducible rfl)
  (try simp only [Act.put, List.getElem_toArray, List.getElem_cons_succ, List.getElem_cons_zero, List.setIfInBounds_toArray, List.set_cons_zero, List.set_cons_succ])
  refine wpAnyH_ready (rs := [9]) (by kernel_rfl) (by simp) ?_
  refine AllReadyH.cons rfl (fun K1 hK1 => ?_) AllReadyH.nil
  go_simp
  refine (of_any (fun i => M (x + (12 + i))) 2 2 _ (by decide) (by decide) (fun i _ => HM.out _) _ (reads_cut (n := 2) X1.out.2.2 12 _ (by decide))).mono ?_
  rintro e w12 ⟨rfl, hw⟩
  rw [hw, HD.out.e2]
  clear hw w12
  refine hK1.out _ _ trivial (fun hS12 => ?_)
  clear hK1 K1 hS11
  (try simp only [Act.put, List.getElem_toArray, List.getElem_cons_succ, List.getElem_cons_zero, List.setIfInBounds_toArray, List.set_cons_zero, List.set_cons_succ])
  refine wpAnyH_take (i := 10) (v := ?_) rfl (by kernel_rfl) (by kernel_rfl) (by kernel_rfl) (fun _ _ _ h => h) (Or.inl ⟨by kernel_rfl, ?_⟩) hS12 ?_
  rotate_left
  · intro w hSw; (try dsimp only at hSw); go_simp; try (with_reducible rfl)
  (try simp only [Act.put, List.getElem_toArray, List.getElem_cons_succ, List.getElem_cons_zero, List.setIfInBounds_toArray, List.set_cons_zero, List.set_cons_succ])
  refine wpAnyH_ready (rs := [13]) (by kernel_rfl) (by simp) ?_
  refine AllReadyH.cons rfl (fun K1 hK1 => ?_) AllReadyH.nil
  go_simp
  refine (of_any (fun i => M (x + (14 + i))) 2 2 _ (by decide) (by decide) (fun i _ => HM.out _) _ (reads_cut (n := 2) X1.out.2.2 14 _ (by decide))).mono ?_
  rintro e w13 ⟨rfl, hw⟩
  rw [hw, HD.out.e3]
  clear hw w13
  refine hK1.out _ _ trivial (fun hS13 => ?_)
  clear hK1 K1 hS12
  (try simp only [Act.put, List.getElem_toArray, List.getElem_cons_succ, List.getElem_cons_zero, List.setIfInBounds_toArray, List.set_cons_zero, List.set_cons_succ])
  refine wpAnyH_take (i := 14) (v := ?_) rfl (by kernel_rfl) (by kernel_rfl) (by kernel_rfl) (fun _ _ _ h => h) (Or.inl ⟨by kernel_rfl, ?_⟩) hS13 ?_
  rotate_left
  · intro w hSw; (try dsimp only at hSw); go_simp; try (with_reducible rfl)
  (try simp only [Act.put, List.getElem_toArray, List.getElem_cons_succ, List.getElem_cons_zero, List.setIfInBounds_toArray, List.set_cons_zero, List.set_cons_succ])
  refine wpAnyH_take (i := 15) (v := ?_) rfl (by kernel_rfl) (by kernel_rfl) (by kernel_rfl) (fun _ _ _ h => h) (Or.inl ⟨by kernel_rfl, ?_⟩) hS13 ?_
  rotate_left
  · intro w hSw; (try dsimp only at hSw); go_simp; try (with_reducible rfl)
  (try simp only [Act.put, List.getElem_toArray, List.getElem_cons_succ, List.getElem_cons_zero, List.setIfInBounds_toArray, List.set_cons_zero, List.set_cons_succ])
  refine wpAnyH_ready (rs := [16]) (by kernel_rfl) (by simp) ?_
  refine AllReadyH.cons rfl (fun K1 hK1 => ?_) AllReadyH.nil
  rw [if_pos (by kernel_rfl)]
  refine wp_store_row 151 _ _ rfl w.heap.size #[.int .u64 (v0 : Int), .int .u32 (v1 : Int), .int .u16 (v2 : Int), .int .u16 (v3 : Int)] rfl rfl 151 #[.int .u64 0, .int .u32 0, .int .u16 0, .int .u16 0] X1.out.1 info47 rfl (by simp [Value.oneCell']) ?_
  have Y : Hid ((w2.setRow w.heap.size #[.int .u64 (v0 : Int), .int .u32 (v1 : Int), .int .u16 (v2 : Int), .int .u16 (v3 : Int)]).heap[w.heap.size]? = some (.cells #[.int .u64 (v0 : Int), .int .u32 (v1 : Int), .int .u16 (v2 : Int), .int .u16 (v3 : Int)] 151 (0, 0)) ∧ Below w.heap.size w (w2.setRow w.heap.size #[.int .u64 (v0 : Int), .int .u32 (v1 : Int), .int .u16 (v2 : Int), .int .u16 (v3 : Int)])) := ⟨setRow_heap _ _ _ _ _ _ X1.out.1, below_setRow X1.out.2.1 (Nat.le_refl _) _⟩
  generalize w2.setRow w.heap.size #[.int .u64 (v0 : Int), .int .u32 (v1 : Int), .int .u16 (v2 : Int), .int .u16 (v3 : Int)] = w9 at *
  refine hK1.out _ _ trivial (fun hS20 => ?_)
  clear hK1 K1 hS13
  (try simp only [Act.put, List.getElem_toArray, List.getElem_cons_succ, List.getElem_cons_zero, List.setIfInBounds_toArray, List.set_cons_zero, List.set_cons_succ])
  refine wpAnyH_take (i := 17) (v := ?_) rfl (by kernel_rfl) (by kernel_rfl) (by kernel_rfl) (fun _ _ _ h => h) (Or.inl ⟨by kernel_rfl, ?_⟩) hS20 ?_
  rotate_left
  · intro w hSw; (try dsimp only at hSw); go_simp; try (with_reducible rfl)
  (try simp only [Act.put, List.getElem_toArray, List.getElem_cons_succ, List.getElem_cons_zero, List.setIfInBounds_toArray, List.set_cons_zero, List.set_cons_succ])
  refine wpAnyH_done (by kernel_rfl) ?_ _
  clear hS20
  obtain ⟨c0, c1, c2, c3⟩ := box4_facts Y.out.1
  go_wp2_with fail
  refine bodyPost_ret (v := .tuple #[.agg #[.int .u64 (v0 : Int), .int .u32 (v1 : Int), .int .u16 (v2 : Int), .int .u16 (v3 : Int)], .bool true]) (by simp [results, Try.results98, go_sem, c0, c1, c2, c3]) rfl ⟨rfl, Y.out.2⟩
end Go.Proofs.Ytmjdnocilbnoaaa

/- RingChecks. -/
namespace Go.Proofs.Ytmjdnocilbnoaaa
open Go.RowKit Go.Maps
set_option linter.unusedVariables false
set_option linter.unusedSimpArgs false
set_option maxRecDepth 100000
theorem below_call {w w1 w2 : World} (h1 : Below w.heap.size w w1) (h2 : Below w1.heap.size w1 w2) : Below w.heap.size w w2 := h1.trans (h2.mono h1.size)
theorem cells_alloc {w : World} {b : Nat} {o o2 : Obj} (h : w.heap[b]? = some o) : (w.alloc o2).heap[b]? = some o := below_box h ((Below.refl _ _).alloc (Nat.le_refl _) _)
/-- the state behind the memory is made: the layout's box, the document's memory's box -/
def St (W V : World) (s : Int) (D A U : Nat) (p : Value) (b : Nat) (rb : Nat) (a : Option Addr) (nn c : Nat) (F : Nat → Prop) (M : Nat → Nat) : Prop :=
  V.heap[W.heap.size]? = some (.cells #[.int .i64 s, .int .u64 (D : Int), .int .u64 (A : Int), .int .u64 (U : Int)] 25 (0, 0)) ∧ V.heap[b]? = some (.cells #[.int .u64 8192, .slice a nn c] 32 (0, 0)) ∧ Both F V rb 8192 (.slice a nn c) 12000 M ∧ (∀ k, F k → W.heap.size < k) ∧ ¬ F b ∧ W.heap.size < b ∧ Below W.heap.size W V
theorem St.step {W V V' : World} {s : Int} {D A U : Nat} {p : Value} {b rb : Nat} {a : Option Addr} {nn c : Nat} {F : Nat → Prop} {M : Nat → Nat} (h : St W V s D A U p b rb a nn c F M) (hb : Below V.heap.size V V') : St W V' s D A U p b rb a nn c F M :=
  ⟨below_box h.1 hb, below_box h.2.1 hb, h.2.2.1.below hb, h.2.2.2.1, h.2.2.2.2.1, h.2.2.2.2.2.1, below_call h.2.2.2.2.2.2 hb⟩
theorem St.made {W w1 w2 : World} {s : Int} {D A U : Nat} {p : Value} {rb : Nat} {a : Option Addr} {nn c : Nat} {F : Nat → Prop} {M : Nat → Nat} (h1 : Below (W.alloc (.cells #[.int .i64 s, .int .u64 (D : Int), .int .u64 (A : Int), .int .u64 (U : Int)] 25)).heap.size (W.alloc (.cells #[.int .i64 s, .int .u64 (D : Int), .int .u64 (A : Int), .int .u64 (U : Int)] 25)) w1) (h2 : Below w1.heap.size w1 w2) (hb : Both F w2 rb 8192 (.slice a nn c) 12000 M) (hF : ∀ k, F k → w1.heap.size ≤ k) : St W (w2.alloc (.cells #[.int .u64 8192, .slice a nn c] 32)) s D A U p w2.heap.size rb a nn c F M := by
  have e1 := heap_alloc_new W (.cells #[.int .i64 s, .int .u64 (D : Int), .int .u64 (A : Int), .int .u64 (U : Int)] 25)
  have hsz : (W.alloc (.cells #[.int .i64 s, .int .u64 (D : Int), .int .u64 (A : Int), .int .u64 (U : Int)] 25)).heap.size = W.heap.size + 1 := by simp
  have h12 := below_call h1 h2
  have hs1 := h1.size
  have hs2 := h2.size
  have hlt := hb.1.lt
  exact ⟨cells_alloc (below_box e1 h12), heap_alloc_new _ _, hb.below ((Below.refl _ _).alloc (Nat.le_refl _) _), fun k hk => by have := hF k hk; omega, fun hf => by have := hlt _ hf; omega, by omega, below_call (below_call ((Below.refl _ _).alloc (Nat.le_refl _) _) h12) ((Below.refl _ _).alloc (Nat.le_refl _) _)⟩
end Go.Proofs.Ytmjdnocilbnoaaa

/- What a walk along descriptors is, in plain numbers. -/
namespace Go.Proofs.Ytmjdnocilbnoaaa
open Go.RowKit Go.Maps
set_option linter.unusedVariables false
set_option linter.unusedSimpArgs false
set_option maxRecDepth 100000
/-- a descriptor -/
structure De where
  a : Nat
  l : Nat
  f : Nat
  x : Nat
def De.zero : De := ⟨0, 0, 0, 0⟩
def De.v (d : De) : Value := .agg #[.int .u64 (d.a : Int), .int .u32 (d.l : Int), .int .u16 (d.f : Int), .int .u16 (d.x : Int)]
def De.c (d : De) : Array Value := #[.int .u64 (d.a : Int), .int .u32 (d.l : Int), .int .u16 (d.f : Int), .int .u16 (d.x : Int)]
structure De.Ok (d : De) : Prop where
  a : d.a < 18446744073709551616
  l : d.l ≤ 4294967295
  f : d.f ≤ 65535
  x : d.x ≤ 65535
theorem De.zero_ok : De.zero.Ok := ⟨by decide, by decide, by decide, by decide⟩
/-- where a descriptor lies -/
def deX (t i : Nat) : Nat := (t + 16 * i) % 18446744073709551616
def deB (t i : Nat) : Bool := decide (i ≤ 255) && inB (deX t i) 16 2147483648 8192
def deN (M : Nat → Nat) (t i : Nat) : De := if deB t i = true then ⟨h256 (fun j => M (deX t i + j)) 8 0, h256 (fun j => M (deX t i + (8 + j))) 4 0, h256 (fun j => M (deX t i + (12 + j))) 2 0, h256 (fun j => M (deX t i + (14 + j))) 2 0⟩ else De.zero
/-- a segment -/
structure Seg where
  a : Nat
  l : Nat
  wr : Bool
/-- has a descriptor a flag (1, 2 or 4)? -/
def fl (f n : Nat) : Bool := decide (f / n % 2 = 1)
def De.seg (d : De) : Seg := ⟨d.a, d.l, fl d.f 2⟩
def lastW (l : List Seg) : Bool := match l.getLast? with | some s => s.wr | none => false
/-- a segment more: its error -/
def addE (l : List Seg) (d : De) : Nat := if inB d.a d.l 2147483648 8192 = true then (if (lastW l && !fl d.f 2) = true then 155 else 0) else 21
/-- how a walk along one table ends: its error, its last descriptor, the segments -/
structure Res where
  e : Nat
  d : De
  l : List Seg
def alongR (M : Nat → Nat) (t n : Nat) : Nat → Int → List Seg → Res
  | 0, i, l => if 0 ≤ i ∧ i < n then ⟨152, De.zero, l⟩ else ⟨151, De.zero, l⟩
  | k + 1, i, l => if 0 ≤ i ∧ i < n then (if deB t i.toNat = true then (if fl (deN M t i.toNat).f 4 = true then ⟨0, deN M t i.toNat, l⟩ else (if addE l (deN M t i.toNat) = 0 then (if fl (deN M t i.toNat).f 1 = true then alongR M t n k ((deN M t i.toNat).x : Int) (l ++ [(deN M t i.toNat).seg]) else ⟨0, deN M t i.toNat, l ++ [(deN M t i.toNat).seg]⟩) else ⟨addE l (deN M t i.toNat), De.zero, l⟩)) else ⟨21, De.zero, l⟩) else ⟨151, De.zero, l⟩
section
variable {M : Nat → Nat} {t n k : Nat} {i : Int} {l : List Seg}
theorem along_out (h : ¬ (0 ≤ i ∧ i < n)) : alongR M t n k i l = ⟨151, De.zero, l⟩ := by cases k <;> simp [alongR, h]
theorem along_loop (h : 0 ≤ i ∧ i < n) : alongR M t n 0 i l = ⟨152, De.zero, l⟩ := by simp [alongR, h]
theorem along_not {j : Nat} (h : j < n) (h1 : deB t j = false) : alongR M t n (k + 1) (j : Int) l = ⟨21, De.zero, l⟩ := by
  have : (0 : Int) ≤ j ∧ (j : Int) < n := by omega
  simp [alongR, this, h1, h]
theorem along_ind {j : Nat} {d : De} (h : j < n) (h1 : deB t j = true) (hd : deN M t j = d) (h2 : fl d.f 4 = true) : alongR M t n (k + 1) (j : Int) l = ⟨0, d, l⟩ := by
  subst hd
  simp [alongR, h1, h2, h]
theorem along_err {j : Nat} {d : De} (h : j < n) (h1 : deB t j = true) (hd : deN M t j = d) (h2 : fl d.f 4 = false) {e : Nat} (h3 : addE l d = e) (h4 : e ≠ 0) : alongR M t n (k + 1) (j : Int) l = ⟨e, De.zero, l⟩ := by
  subst hd h3
  simp [alongR, h1, h2, h, h4]
theorem along_end {j : Nat} {d : De} (h : j < n) (h1 : deB t j = true) (hd : deN M t j = d) (h2 : fl d.f 4 = false) (h3 : addE l d = 0) (h4 : fl d.f 1 = false) : alongR M t n (k + 1) (j : Int) l = ⟨0, d, l ++ [d.seg]⟩ := by
  subst hd
  simp [alongR, h1, h2, h, h3, h4]
theorem along_next {j : Nat} {d : De} (h : j < n) (h1 : deB t j = true) (hd : deN M t j = d) (h2 : fl d.f 4 = false) (h3 : addE l d = 0) (h4 : fl d.f 1 = true) : alongR M t n (k + 1) (j : Int) l = alongR M t n k (d.x : Int) (l ++ [d.seg]) := by
  subst hd
  simp [alongR, h1, h2, h, h3, h4]
end
theorem deN_ok {M : Nat → Nat} (hM : ∀ a, M a ≤ 255) (t i : Nat) : (deN M t i).Ok := by
  unfold deN
  split
  · have := DescAt.lt (M := M) (x := deX t i) ⟨rfl, rfl, rfl, rfl⟩ hM
    exact ⟨this.1, this.2.1, this.2.2.1, this.2.2.2⟩
  · exact De.zero_ok
theorem deN_at {M : Nat → Nat} {t i : Nat} (h : deB t i = true) : DescAt M (deX t i) (deN M t i).a (deN M t i).l (deN M t i).f (deN M t i).x := by
  simp only [deN, h, if_true]
  exact ⟨rfl, rfl, rfl, rfl⟩
theorem deN_no {M : Nat → Nat} {t i : Nat} (h : deB t i = false) : deN M t i = De.zero := by simp [deN, h]
theorem fl_and (f k : Nat) : decide (f &&& 2 ^ k = 0) = !fl f (2 ^ k) := by
  have h2 : f.testBit k = decide (f / 2 ^ k % 2 = 1) := by rw [Nat.testBit_eq_decide_div_mod_eq]
  unfold fl
  rw [← h2]
  cases hb : f.testBit k with
  | true =>
    have : ¬ (f &&& 2 ^ k = 0) := fun h => by
      have h3 := congrArg (fun x => Nat.testBit x k) h
      simp [Nat.testBit_and, hb] at h3
    simp [this]
  | false =>
    have : f &&& 2 ^ k = 0 := by
      apply Nat.eq_of_testBit_eq
      intro i
      rw [Nat.testBit_and, Nat.testBit_two_pow, Nat.zero_testBit]
      by_cases hi : k = i
      · subst hi; simp [hb]
      · simp [hi]
    simp [this]
/-- the table that a descriptor names: its error -/
def tabE (d : De) (al : Bool) : Nat := if (!al || fl d.f 1) = true then 153 else (if (decide (d.l = 0) || decide (4096 < d.l) || decide (¬ d.l % 16 = 0)) = true then 154 else (if inB d.a d.l 2147483648 8192 = true then 0 else 21))
/-- a chain: its error, its segments, its table -/
structure Cn where
  e : Nat
  l : List Seg
  ta : Nat
  tl : Nat
def walkR (M : Nat → Nat) (D n : Nat) (h : Int) (al : Bool) : Cn :=
  if (alongR M D n n h []).e ≠ 0 then ⟨(alongR M D n n h []).e, [], 0, 0⟩
  else if fl (alongR M D n n h []).d.f 4 = false then ⟨0, (alongR M D n n h []).l, 0, 0⟩
  else if tabE (alongR M D n n h []).d al ≠ 0 then ⟨tabE (alongR M D n n h []).d al, [], 0, 0⟩
  else if (alongR M (alongR M D n n h []).d.a ((alongR M D n n h []).d.l / 16) ((alongR M D n n h []).d.l / 16) 0 (alongR M D n n h []).l).e ≠ 0 then ⟨(alongR M (alongR M D n n h []).d.a ((alongR M D n n h []).d.l / 16) ((alongR M D n n h []).d.l / 16) 0 (alongR M D n n h []).l).e, [], 0, 0⟩
  else if fl (alongR M (alongR M D n n h []).d.a ((alongR M D n n h []).d.l / 16) ((alongR M D n n h []).d.l / 16) 0 (alongR M D n n h []).l).d.f 4 = true then ⟨153, [], 0, 0⟩
  else ⟨0, (alongR M (alongR M D n n h []).d.a ((alongR M D n n h []).d.l / 16) ((alongR M D n n h []).d.l / 16) 0 (alongR M D n n h []).l).l, (alongR M D n n h []).d.a, (alongR M D n n h []).d.l⟩
section
variable {M : Nat → Nat} {D n : Nat} {h : Int} {al : Bool} {r s : Res}
theorem walk_err (hr : alongR M D n n h [] = r) (he : r.e ≠ 0) : walkR M D n h al = ⟨r.e, [], 0, 0⟩ := by subst hr; simp [walkR, he]
theorem walk_plain (hr : alongR M D n n h [] = r) (he : r.e = 0) (hf : fl r.d.f 4 = false) : walkR M D n h al = ⟨0, r.l, 0, 0⟩ := by subst hr; simp [walkR, he, hf]
theorem walk_tab (hr : alongR M D n n h [] = r) (he : r.e = 0) (hf : fl r.d.f 4 = true) {e : Nat} (ht : tabE r.d al = e) (h0 : e ≠ 0) : walkR M D n h al = ⟨e, [], 0, 0⟩ := by subst hr ht; simp [walkR, he, hf, h0]
theorem walk_err2 (hr : alongR M D n n h [] = r) (he : r.e = 0) (hf : fl r.d.f 4 = true) (ht : tabE r.d al = 0) (hs : alongR M r.d.a (r.d.l / 16) (r.d.l / 16) 0 r.l = s) (h2 : s.e ≠ 0) : walkR M D n h al = ⟨s.e, [], 0, 0⟩ := by subst hr hs; simp [walkR, he, hf, ht, h2]
theorem walk_nest (hr : alongR M D n n h [] = r) (he : r.e = 0) (hf : fl r.d.f 4 = true) (ht : tabE r.d al = 0) (hs : alongR M r.d.a (r.d.l / 16) (r.d.l / 16) 0 r.l = s) (h2 : s.e = 0) (h3 : fl s.d.f 4 = true) : walkR M D n h al = ⟨153, [], 0, 0⟩ := by subst hr hs; simp [walkR, he, hf, ht, h2, h3]
theorem walk_two (hr : alongR M D n n h [] = r) (he : r.e = 0) (hf : fl r.d.f 4 = true) (ht : tabE r.d al = 0) (hs : alongR M r.d.a (r.d.l / 16) (r.d.l / 16) 0 r.l = s) (h2 : s.e = 0) (h3 : fl s.d.f 4 = false) : walkR M D n h al = ⟨0, s.l, r.d.a, r.d.l⟩ := by subst hr hs; simp [walkR, he, hf, ht, h2, h3]
end
/-- what holds of a walk's segments -/
structure SegOk (s : Seg) : Prop where
  a : s.a < 18446744073709551616
  l : s.l ≤ 8192
  i : inB s.a s.l 2147483648 8192 = true
theorem addE_in {l : List Seg} {d : De} (h : addE l d = 0) : inB d.a d.l 2147483648 8192 = true ∧ (lastW l && !fl d.f 2) = false := by
  unfold addE at h
  split at h
  · rename_i h1
    split at h
    · cases h
    · rename_i h2; exact ⟨h1, by simpa using h2⟩
  · cases h
theorem in_len {a l : Nat} (h : inB a l 2147483648 8192 = true) : l ≤ 8192 ∧ 2147483648 ≤ a ∧ a + l ≤ 2147491840 := by
  have : (2147483648 : Int) ≤ a ∧ (a : Int) + l ≤ 2147483648 + 8192 := by simpa [inB] using h
  omega
theorem along_all {M : Nat → Nat} (hM : ∀ a, M a ≤ 255) (t n : Nat) : ∀ (k : Nat) (i : Int) (l : List Seg), (∀ s ∈ l, SegOk s) → (∀ s ∈ (alongR M t n k i l).l, SegOk s) ∧ (alongR M t n k i l).d.Ok ∧ (alongR M t n k i l).l.length ≤ l.length + k := by
  intro k
  induction k with
  | zero =>
    intro i l hl
    unfold alongR
    split <;> exact ⟨hl, De.zero_ok, by simp⟩
  | succ k ih =>
    intro i l hl
    by_cases hi : 0 ≤ i ∧ i < n
    · obtain ⟨j, rfl⟩ : ∃ j : Nat, i = j := ⟨i.toNat, by omega⟩
      cases h1 : deB t j with
      | false => rw [along_not (by omega) h1]; exact ⟨hl, De.zero_ok, by simp⟩
      | true =>
        obtain ⟨d, hd⟩ : ∃ d, deN M t j = d := ⟨_, rfl⟩
        have hdo : d.Ok := hd ▸ deN_ok hM t j
        cases h2 : fl d.f 4 with
        | true => rw [along_ind (by omega) h1 hd h2]; exact ⟨hl, hdo, by simp⟩
        | false =>
          by_cases h3 : addE l d = 0
          · have hl2 : ∀ s ∈ l ++ [d.seg], SegOk s := by
              intro s hs
              rcases List.mem_append.1 hs with hs | hs
              · exact hl s hs
              · have : s = d.seg := by simpa using hs
                subst this
                exact ⟨hdo.a, (in_len (addE_in h3).1).1, (addE_in h3).1⟩
            cases h4 : fl d.f 1 with
            | false => rw [along_end (by omega) h1 hd h2 h3 h4]; exact ⟨hl2, hdo, by simp⟩
            | true =>
              rw [along_next (by omega) h1 hd h2 h3 h4]
              have := ih (d.x : Int) (l ++ [d.seg]) hl2
              refine ⟨this.1, this.2.1, ?_⟩
              have h5 := this.2.2
              simp at h5
              omega
          · rw [along_err (by omega) h1 hd h2 rfl h3]; exact ⟨hl, De.zero_ok, by simp⟩
    · rw [along_out hi]; exact ⟨hl, De.zero_ok, by simp⟩
theorem tab_in {d : De} {al : Bool} (h : tabE d al = 0) : al = true ∧ fl d.f 1 = false ∧ d.l % 16 = 0 ∧ 16 ≤ d.l ∧ d.l ≤ 4096 ∧ inB d.a d.l 2147483648 8192 = true := by
  unfold tabE at h
  split at h
  · cases h
  · rename_i h1
    split at h
    · cases h
    · rename_i h2
      split at h
      · rename_i h3
        simp only [Bool.or_eq_true, decide_eq_true_iff, not_or, Bool.not_eq_true, Bool.not_eq_false'] at h1 h2
        refine ⟨by simpa using h1.1, by simpa using h1.2, by omega, by omega, by omega, h3⟩
      · cases h
/-- what holds of a chain -/
theorem walk_all {M : Nat → Nat} (hM : ∀ a, M a ≤ 255) (D n : Nat) (hn : n ≤ 256) (h : Int) (al : Bool) : (∀ s ∈ (walkR M D n h al).l, SegOk s) ∧ (walkR M D n h al).l.length ≤ 512 ∧ ((walkR M D n h al).e ≠ 0 → (walkR M D n h al).l = [] ∧ (walkR M D n h al).ta = 0 ∧ (walkR M D n h al).tl = 0) ∧ ((walkR M D n h al).tl = 0 ∨ al = true ∧ inB (walkR M D n h al).ta (walkR M D n h al).tl 2147483648 8192 = true) ∧ (walkR M D n h al).ta < 18446744073709551616 ∧ (walkR M D n h al).tl ≤ 4096 ∧ ((walkR M D n h al).tl = 0 → (walkR M D n h al).ta = 0) := by
  obtain ⟨r, hr⟩ : ∃ r, alongR M D n n h [] = r := ⟨_, rfl⟩
  have h1 := along_all hM D n n h [] (by simp)
  rw [hr] at h1
  simp only [List.length_nil, Nat.zero_add] at h1
  by_cases he : r.e = 0
  · cases hf : fl r.d.f 4 with
    | false => rw [walk_plain hr he hf]; exact ⟨h1.1, by show r.l.length ≤ 512; omega, fun hh => absurd rfl hh, .inl rfl, Nat.succ_pos _, Nat.zero_le _, fun _ => rfl⟩
    | true =>
      by_cases ht : tabE r.d al = 0
      · obtain ⟨s, hs⟩ : ∃ s, alongR M r.d.a (r.d.l / 16) (r.d.l / 16) 0 r.l = s := ⟨_, rfl⟩
        have h2 := along_all hM r.d.a (r.d.l / 16) (r.d.l / 16) 0 r.l h1.1
        rw [hs] at h2
        obtain ⟨t1, t2, t3, t4, t5, t6⟩ := tab_in ht
        by_cases h3 : s.e = 0
        · cases h4 : fl s.d.f 4 with
          | true => rw [walk_nest hr he hf ht hs h3 h4]; exact ⟨by simp, by simp, fun _ => ⟨rfl, rfl, rfl⟩, .inl rfl, Nat.succ_pos _, Nat.zero_le _, fun _ => rfl⟩
          | false => rw [walk_two hr he hf ht hs h3 h4]; exact ⟨h2.1, by show s.l.length ≤ 512; have := h2.2.2; have := h1.2.2; omega, fun hh => absurd rfl hh, .inr ⟨t1, t6⟩, h1.2.1.a, t5, fun hh => by have : r.d.l = 0 := hh; omega⟩
        · rw [walk_err2 hr he hf ht hs h3]; exact ⟨by simp, by simp, fun _ => ⟨rfl, rfl, rfl⟩, .inl rfl, Nat.succ_pos _, Nat.zero_le _, fun _ => rfl⟩
      · rw [walk_tab hr he hf rfl ht]; exact ⟨by simp, by simp, fun _ => ⟨rfl, rfl, rfl⟩, .inl rfl, Nat.succ_pos _, Nat.zero_le _, fun _ => rfl⟩
  · rw [walk_err hr he]; exact ⟨by simp, by simp, fun _ => ⟨rfl, rfl, rfl⟩, .inl rfl, Nat.succ_pos _, Nat.zero_le _, fun _ => rfl⟩
end Go.Proofs.Ytmjdnocilbnoaaa

/- Lists of pieces: the call add of layer 2, and the document's call Same. -/
namespace Go.Proofs.Ytmjdnocilbnoaaa
open Go.RowKit Go.Maps
set_option linter.unusedVariables false
/-- pieces, as cells -/
def spanRow (l : List (Nat × Nat)) : List Value := l.flatMap fun p => [.int .u64 (p.1 : Nat), .int .u64 (p.2 : Nat)]
theorem spanRow_snoc (l : List (Nat × Nat)) (x L : Nat) : spanRow (l ++ [(x, L)]) = spanRow l ++ [.int .u64 (x : Nat), .int .u64 (L : Nat)] := by simp [spanRow]
theorem spanRow_get (l : List (Nat × Nat)) : ∀ i (h : i < l.length), (spanRow l)[i * 2]? = some (.int .u64 ((l[i]).1 : Nat)) ∧ (spanRow l)[i * 2 + 1]? = some (.int .u64 ((l[i]).2 : Nat)) := by
  induction l with
  | nil => intro i h; simp at h
  | cons p r ih =>
    intro i h
    cases i with
    | zero => simp [spanRow]
    | succ j =>
      have := ih j (by simpa using h)
      have e : spanRow (p :: r) = .int .u64 (p.1 : Nat) :: .int .u64 (p.2 : Nat) :: spanRow r := by simp [spanRow]
      rw [e, show (j + 1) * 2 = j * 2 + 1 + 1 from by omega]
      simpa using this
/-- a list of pieces that lies in blocks from B on -/
def SpanIn (B : Nat) (w : World) (v : Value) (l : List (Nat × Nat)) : Prop := w.ownsRow B 48 2 v l.length (spanRow l)
theorem SpanIn.kept {B : Nat} {w w' : World} {v : Value} {l : List (Nat × Nat)} (h : SpanIn B w v l) (hk : ∀ g, v.ownBlock = some g → w'.heap[g]? = w.heap[g]?) : SpanIn B w' v l := by
  refine ⟨h.1, ?_⟩
  rcases h.2 with hn | ⟨g, cap, cur, rfl, hb, hgg, rest⟩
  · exact .inl hn
  · exact .inr ⟨g, cap, cur, rfl, hb, (hk g rfl).trans hgg, rest⟩
theorem SpanIn.form {B : Nat} {w : World} {v : Value} {l : List (Nat × Nat)} (h : SpanIn B w v l) : ∃ a c, v = .slice a l.length c := by
  rcases h.2 with ⟨rfl, h0⟩ | ⟨g, cap, cur, rfl, _⟩
  · exact ⟨none, 0, by rw [h0]⟩
  · exact ⟨_, cap, rfl⟩
theorem SpanIn.lt {B : Nat} {w : World} {v : Value} {l : List (Nat × Nat)} (h : SpanIn B w v l) : ∀ g, v.ownBlock = some g → B ≤ g ∧ g < w.heap.size := World.ownsRow.lt h
theorem Try.info48 : (Try.prog.info? 48).map (fun i => (i.zero, i.size, i.bytes)) = some (some (.agg #[.int .u64 0, .int .u64 0]), 2, 16) := by kernel_rfl
theorem two_new (w : World) (x y : Value) (t : TypeId) : ∀ j u, [x, y][j]? = some u → (w.alloc (.cells #[x, y] t)).cell? ((⟨w.heap.size, 0, none⟩ : Addr).add j) = some u := by
  intro j u hj
  rw [addr_add, Nat.zero_add]
  simp only [World.cell?, heap_alloc_new]
  match j, hj with
  | 0, hj => simpa using hj
  | 1, hj => simpa using hj
/-- what an append to a list of pieces leaves -/
def Added (B : Nat) (w w' : World) (v v' : Value) (l : List (Nat × Nat)) (x L : Nat) : Prop :=
  SpanIn B w' v' (l ++ [(x, L)]) ∧ w.grownBy w' v.ownBlock ∧ (v'.ownBlock = v.ownBlock ∨ ∃ g, v'.ownBlock = some g ∧ w.heap.size ≤ g)
theorem added_of {B : Nat} {w w1 : World} {v v' : Value} {l : List (Nat × Nat)} {x L : Nat} {o : Obj} (hown' : w1.ownsRow B 48 2 v' (l.length + 1) (spanRow l ++ [.int .u64 (x : Nat), .int .u64 (L : Nat)])) (hg : (w.alloc o).grownBy w1 v.ownBlock) (hat : v'.ownBlock = v.ownBlock ∨ v'.ownBlock = some (w.alloc o).heap.size) : Added B w w1 v v' l x L := by
  refine ⟨?_, (World.grownBy_alloc w o _).trans hg, ?_⟩
  · unfold SpanIn
    rw [spanRow_snoc, List.length_append]
    exact hown'
  · rcases hat with h | h
    · exact .inl h
    · exact .inr ⟨_, h, by simp⟩
theorem SpanIn.cells {B : Nat} {w : World} {v : Value} {l : List (Nat × Nat)} (h : SpanIn B w v l) (h0 : 0 < l.length) : ∃ g c, v = .slice (some ⟨g, 0, none⟩) l.length c ∧ ∀ i, i < l.length → w.cell? ⟨g, i * 2, none⟩ = some (.int .u64 ((l.getD i (0, 0)).1 : Nat)) ∧ w.cell? ⟨g, i * 2 + 1, none⟩ = some (.int .u64 ((l.getD i (0, 0)).2 : Nat)) := by
  have h' := h
  rcases h'.2 with ⟨_, h1⟩ | ⟨g, cap, cur, rfl, hb, hgg, rest⟩
  · omega
  · refine ⟨g, cap, rfl, fun i hi => ?_⟩
    have hc := World.ownsRow.cells h (g := g) rfl
    obtain ⟨e1, e2⟩ := spanRow_get l i hi
    have c1 := hc _ _ e1
    have c2 := hc _ _ e2
    rw [addr_add, Nat.zero_add] at c1 c2
    have e3 : l.getD i (0, 0) = l[i] := by simp [List.getD, hi]
    rw [e3]
    exact ⟨c1, c2⟩
end Go.Proofs.Ytmjdnocilbnoaaa

/- Flags; what a walker has. -/
namespace Go.Proofs.Ytmjdnocilbnoaaa
open Go.RowKit Go.Maps
set_option linter.unusedVariables false
set_option linter.unusedSimpArgs false
set_option maxRecDepth 100000
theorem ne_cast (m : Nat) : (((m : Int)) != 0) = !decide (m = 0) := by
  by_cases h : m = 0
  · subst h; rfl
  · simp [h]
theorem hasf1 (da dl df dx : Nat) (hf : df ≤ 65535) (w : World) : Calls Try.prog 83 #[.agg #[.int .u64 (da : Int), .int .u32 (dl : Int), .int .u16 (df : Int), .int .u16 (dx : Int)], .int .u16 1] w fun e w' => e = .returned (.bool (fl df 1)) ∧ Below w.heap.size w w' := by
  have hb : Below w.heap.size w (w.alloc (.cells #[.int .u64 (da : Int), .int .u32 (dl : Int), .int .u16 (df : Int), .int .u16 (dx : Int)] 151)) := (Below.refl _ _).alloc (Nat.le_refl _) _
  have HB : Hid (Below w.heap.size w (w.alloc (.cells #[.int .u64 (da : Int), .int .u32 (dl : Int), .int .u16 (df : Int), .int .u16 (dx : Int)] 151))) := hb
  have h1 := fl_and df 0
  obtain ⟨m, hm⟩ : ∃ m, m = df &&& 1 := ⟨_, rfl⟩
  have e1 : bits .and .u16 (df : Int) 1 = (m : Int) := by rw [hm]; exact u16_and_nat df 1 (by omega) (by omega)
  have h2 : fl df 1 = !decide (m = 0) := by rw [hm]; simp only [Nat.reducePow] at h1; rw [h1]; simp
  rw [h2]
  have h3 : decide ((m : Int) = 0) = decide (m = 0) := by
    by_cases hh : m = 0
    · simp [hh]
    · simp [hh]
  clear hb hm h1 h2 hf
  go_enter Try.func83, Try.ntmps83
  go_wp2_with fail
  go_ret
  exact ⟨by rw [ne_cast]; rfl, HB.out⟩
theorem hasf2 (da dl df dx : Nat) (hf : df ≤ 65535) (w : World) : Calls Try.prog 83 #[.agg #[.int .u64 (da : Int), .int .u32 (dl : Int), .int .u16 (df : Int), .int .u16 (dx : Int)], .int .u16 2] w fun e w' => e = .returned (.bool (fl df 2)) ∧ Below w.heap.size w w' := by
  have hb : Below w.heap.size w (w.alloc (.cells #[.int .u64 (da : Int), .int .u32 (dl : Int), .int .u16 (df : Int), .int .u16 (dx : Int)] 151)) := (Below.refl _ _).alloc (Nat.le_refl _) _
  have HB : Hid (Below w.heap.size w (w.alloc (.cells #[.int .u64 (da : Int), .int .u32 (dl : Int), .int .u16 (df : Int), .int .u16 (dx : Int)] 151))) := hb
  have h1 := fl_and df 1
  obtain ⟨m, hm⟩ : ∃ m, m = df &&& 2 := ⟨_, rfl⟩
  have e1 : bits .and .u16 (df : Int) 2 = (m : Int) := by rw [hm]; exact u16_and_nat df 2 (by omega) (by omega)
  have h2 : fl df 2 = !decide (m = 0) := by rw [hm]; simp only [Nat.reducePow] at h1; rw [h1]; simp
  rw [h2]
  have h3 : decide ((m : Int) = 0) = decide (m = 0) := by
    by_cases hh : m = 0
    · simp [hh]
    · simp [hh]
  clear hb hm h1 h2 hf
  go_enter Try.func83, Try.ntmps83
  go_wp2_with fail
  go_ret
  exact ⟨by rw [ne_cast]; rfl, HB.out⟩
theorem hasf4 (da dl df dx : Nat) (hf : df ≤ 65535) (w : World) : Calls Try.prog 83 #[.agg #[.int .u64 (da : Int), .int .u32 (dl : Int), .int .u16 (df : Int), .int .u16 (dx : Int)], .int .u16 4] w fun e w' => e = .returned (.bool (fl df 4)) ∧ Below w.heap.size w w' := by
  have hb : Below w.heap.size w (w.alloc (.cells #[.int .u64 (da : Int), .int .u32 (dl : Int), .int .u16 (df : Int), .int .u16 (dx : Int)] 151)) := (Below.refl _ _).alloc (Nat.le_refl _) _
  have HB : Hid (Below w.heap.size w (w.alloc (.cells #[.int .u64 (da : Int), .int .u32 (dl : Int), .int .u16 (df : Int), .int .u16 (dx : Int)] 151))) := hb
  have h1 := fl_and df 2
  obtain ⟨m, hm⟩ : ∃ m, m = df &&& 4 := ⟨_, rfl⟩
  have e1 : bits .and .u16 (df : Int) 4 = (m : Int) := by rw [hm]; exact u16_and_nat df 4 (by omega) (by omega)
  have h2 : fl df 4 = !decide (m = 0) := by rw [hm]; simp only [Nat.reducePow] at h1; rw [h1]; simp
  rw [h2]
  have h3 : decide ((m : Int) = 0) = decide (m = 0) := by
    by_cases hh : m = 0
    · simp [hh]
    · simp [hh]
  clear hb hm h1 h2 hf
  go_enter Try.func83, Try.ntmps83
  go_wp2_with fail
  go_ret
  exact ⟨by rw [ne_cast]; rfl, HB.out⟩
end Go.Proofs.Ytmjdnocilbnoaaa

/- A walker: its memory, its segments; a segment more. -/
namespace Go.Proofs.Ytmjdnocilbnoaaa
open Go.RowKit Go.Maps
set_option linter.unusedVariables false
set_option linter.unusedSimpArgs false
set_option maxRecDepth 100000
/-- what a memory is to a walk: Inv F w: it lies there, F: its blocks -/
structure Wm (rb : Nat) (M : Nat → Nat) (Inv : (Nat → Prop) → World → Prop) : Prop where
  ram : ∀ F w, Inv F w → ∃ G n lg, RamAt w G rb 8192 n lg M
  lt : ∀ F w, Inv F w → ∀ k, F k → k < w.heap.size
  step : ∀ F w G G' w', Inv F w → Step G w G' w' → (∀ k, F k → ¬ G k) → Inv F w'
theorem Wm.below {rb : Nat} {M : Nat → Nat} {Inv : (Nat → Prop) → World → Prop} (m : Wm rb M Inv) {F : Nat → Prop} {w w' : World} (h : Inv F w) (hb : Below w.heap.size w w') : Inv F w' := m.step F w (fun _ => False) (fun _ => False) w' h (Step.of_below hb) (fun _ _ h => h)
/-- all blocks of O but F's are as they were; F' has F's and none more of O's -/
structure Fly (O F : Nat → Prop) (w : World) (F' : Nat → Prop) (w' : World) : Prop where
  os : w'.os = w.os
  tape : w'.tape = w.tape
  output : w'.output = w.output
  size : w.heap.size ≤ w'.heap.size
  block : ∀ k, O k → ¬ F k → w'.heap[k]? = w.heap[k]?
  old : ∀ k, F' k → F k ∨ ¬ O k
  keep : ∀ k, F k → F' k
theorem Fly.trans {O F F' F'' : Nat → Prop} {w w' w'' : World} (h : Fly O F w F' w') (g : Fly O F' w' F'' w'') : Fly O F w F'' w'' :=
  ⟨g.os.trans h.os, g.tape.trans h.tape, g.output.trans h.output, Nat.le_trans h.size g.size,
   fun k hk hf => (g.block k hk (fun hf' => by rcases h.old k hf' with h1 | h1; exact hf h1; exact h1 hk)).trans (h.block k hk hf),
   fun k hf => by rcases g.old k hf with h1 | h1; exact h.old k h1; exact .inr h1,
   fun k hf => g.keep k (h.keep k hf)⟩
theorem Fly.of_step {O F F' : Nat → Prop} {w w' : World} (h : Step F w F' w') (hO : ∀ k, O k → k < w.heap.size) : Fly O F w F' w' :=
  ⟨h.os, h.tape, h.output, h.size, fun k hk hf => h.block k (hO k hk) hf, fun k hf => by rcases h.old k hf with h1 | h1; exact .inl h1; exact .inr (fun ho => by have := hO k ho; omega), h.keep⟩
theorem Fly.of_below {O F : Nat → Prop} {w w' : World} (h : Below w.heap.size w w') (hO : ∀ k, O k → k < w.heap.size) : Fly O F w F w' :=
  ⟨h.os, h.tape, h.output, h.size, fun k hk _ => h.block k (hO k hk), fun _ h => .inl h, fun _ h => h⟩
theorem Fly.refl (O F : Nat → Prop) (w : World) : Fly O F w F w := ⟨rfl, rfl, rfl, Nat.le_refl _, fun _ _ _ => rfl, fun _ h => .inl h, fun _ h => h⟩
theorem Fly.mono {O O' F F' : Nat → Prop} {w w' : World} (h : Fly O F w F' w') (ho : ∀ k, O' k → O k) : Fly O' F w F' w' := ⟨h.os, h.tape, h.output, h.size, fun k hk => h.block k (ho k hk), fun k hf => (h.old k hf).imp id (fun hn hh => hn (ho k hh)), h.keep⟩
theorem Fly.step {F F' : Nat → Prop} {w w' : World} (h : Fly (fun k => k < w.heap.size) F w F' w') : Step F w F' w' := ⟨h.os, h.tape, h.output, h.size, h.block, fun k hf => (h.old k hf).imp id (fun hn => by omega), h.keep⟩
/-- segments, as cells -/
def segRow (l : List Seg) : List Value := l.flatMap fun s => [.int .u64 (s.a : Nat), .int .u64 (s.l : Nat), .bool s.wr]
theorem segRow_snoc (l : List Seg) (s : Seg) : segRow (l ++ [s]) = segRow l ++ [.int .u64 (s.a : Nat), .int .u64 (s.l : Nat), .bool s.wr] := by simp [segRow]
theorem segRow_get (l : List Seg) : ∀ i (h : i < l.length), (segRow l)[i * 3]? = some (.int .u64 ((l[i]).a : Nat)) ∧ (segRow l)[i * 3 + 1]? = some (.int .u64 ((l[i]).l : Nat)) ∧ (segRow l)[i * 3 + 2]? = some (.bool (l[i]).wr) := by
  induction l with
  | nil => intro i h; simp at h
  | cons p r ih =>
    intro i h
    cases i with
    | zero => simp [segRow]
    | succ j =>
      have := ih j (by simpa using h)
      have e : segRow (p :: r) = .int .u64 (p.a : Nat) :: .int .u64 (p.l : Nat) :: .bool p.wr :: segRow r := by simp [segRow]
      rw [e, show (j + 1) * 3 = j * 3 + 1 + 1 + 1 from by omega]
      simpa using this
/-- segments that lie in blocks from B on -/
def SegIn (B : Nat) (w : World) (v : Value) (l : List Seg) : Prop := w.ownsRow B 64 3 v l.length (segRow l)
theorem SegIn.kept {B : Nat} {w w' : World} {v : Value} {l : List Seg} (h : SegIn B w v l) (hk : ∀ g, v.ownBlock = some g → w'.heap[g]? = w.heap[g]?) : SegIn B w' v l := by
  refine ⟨h.1, ?_⟩
  rcases h.2 with hn | ⟨g, cap, cur, rfl, hb, hgg, rest⟩
  · exact .inl hn
  · exact .inr ⟨g, cap, cur, rfl, hb, (hk g rfl).trans hgg, rest⟩
theorem SegIn.form {B : Nat} {w : World} {v : Value} {l : List Seg} (h : SegIn B w v l) : ∃ a c, v = .slice a l.length c := by
  rcases h.2 with ⟨rfl, h0⟩ | ⟨g, cap, cur, rfl, _⟩
  · exact ⟨none, 0, by rw [h0]⟩
  · exact ⟨_, cap, rfl⟩
theorem SegIn.lt {B : Nat} {w : World} {v : Value} {l : List Seg} (h : SegIn B w v l) : ∀ g, v.ownBlock = some g → B ≤ g ∧ g < w.heap.size := World.ownsRow.lt h
theorem SegIn.cells {B : Nat} {w : World} {v : Value} {l : List Seg} (h : SegIn B w v l) (h0 : 0 < l.length) : ∃ g c, v = .slice (some ⟨g, 0, none⟩) l.length c ∧ ∀ i (hi : i < l.length), w.cell? ⟨g, i * 3, none⟩ = some (.int .u64 ((l[i]).a : Nat)) ∧ w.cell? ⟨g, i * 3 + 1, none⟩ = some (.int .u64 ((l[i]).l : Nat)) ∧ w.cell? ⟨g, i * 3 + 2, none⟩ = some (.bool (l[i]).wr) := by
  have h' := h
  rcases h'.2 with ⟨_, h1⟩ | ⟨g, cap, cur, rfl, hb, hgg, rest⟩
  · omega
  · refine ⟨g, cap, rfl, fun i hi => ?_⟩
    have hc := World.ownsRow.cells h (g := g) rfl
    obtain ⟨e1, e2, e3⟩ := segRow_get l i hi
    have c1 := hc _ _ e1
    have c2 := hc _ _ e2
    have c3 := hc _ _ e3
    rw [addr_add, Nat.zero_add] at c1 c2 c3
    exact ⟨c1, c2, c3⟩
theorem lastW_get {l : List Seg} {i : Nat} (hi : i < l.length) (he : i + 1 = l.length) : lastW l = (l[i]).wr := by
  have : l.getLast? = some l[i] := by rw [List.getLast?_eq_getElem?, show l.length - 1 = i from by omega]; simp [hi]
  simp [lastW, this]
theorem Try.info52s : (Try.prog.info? 64).map (fun i => (i.zero, i.size, i.bytes)) = some (some (.agg #[.int .u64 0, .int .u64 0, .bool false]), 3, 24) := by kernel_rfl
theorem info52 : (Try.prog.info? 64).map (·.size) = some 3 := by kernel_rfl
theorem three_new (w : World) (x y z : Value) (t : TypeId) : ∀ j u, [x, y, z][j]? = some u → (w.alloc (.cells #[x, y, z] t)).cell? ((⟨w.heap.size, 0, none⟩ : Addr).add j) = some u := by
  intro j u hj
  rw [addr_add, Nat.zero_add]
  simp only [World.cell?, heap_alloc_new]
  match j, hj with
  | 0, hj => simpa using hj
  | 1, hj => simpa using hj
  | 2, hj => simpa using hj
theorem box3_facts {w : World} {b : Nat} {x0 x1 x2 : Value} {t : TypeId} (h : w.heap[b]? = some (.cells #[x0, x1, x2] t (0, 0))) : w.cell? ⟨b, 0, none⟩ = some x0 ∧ w.cell? ⟨b, 1, none⟩ = some x1 ∧ w.cell? ⟨b, 2, none⟩ = some x2 := ⟨cellOf h 0 _ rfl, cellOf h 1 _ rfl, cellOf h 2 _ rfl⟩
/-- a walker that lies in block wb: its memory, its segments -/
def Wd (Inv : (Nat → Prop) → World → Prop) (O F : Nat → Prop) (w : World) (rb wb : Nat) (l : List Seg) : Prop :=
  Inv F w ∧ ((∀ k, O k → k < w.heap.size) ∧ ¬ O wb) ∧ ¬ F wb ∧ ∃ v, w.heap[wb]? = some (.cells #[.pointer (some ⟨rb, 0, none⟩), v] 149 (0, 0)) ∧ SegIn 0 w v l ∧ ∀ g, v.ownBlock = some g → g ≠ wb ∧ ¬ F g ∧ ¬ O g
section
variable {rb wb : Nat} {M : Nat → Nat} {Inv : (Nat → Prop) → World → Prop} {O F : Nat → Prop} {w w' : World} {l : List Seg}
theorem Wd.lt (h : Wd Inv O F w rb wb l) : wb < w.heap.size := by
  obtain ⟨_, _, _, v, h4, _⟩ := h
  exact (Array.getElem?_eq_some_iff.1 h4).1
theorem Wd.old (h : Wd Inv O F w rb wb l) : ∀ k, O k → k < w.heap.size := h.2.1.1
theorem Wd.below (m : Wm rb M Inv) (h : Wd Inv O F w rb wb l) (hb : Below w.heap.size w w') : Wd Inv O F w' rb wb l := by
  obtain ⟨h1, h2, h3, v, h4, h5, h6⟩ := h
  exact ⟨m.below h1 hb, ⟨fun k hk => Nat.lt_of_lt_of_le (h2.1 k hk) hb.size, h2.2⟩, h3, v, below_box h4 hb, h5.kept (fun g hg => hb.block g (h5.lt g hg).2), h6⟩
theorem Wd.told (h : Wd Inv O F w rb wb l) {F' : Nat → Prop} (hi : Inv F' w') (hs : Step F w F' w') : Wd Inv O F' w' rb wb l := by
  have hlt := h.lt
  obtain ⟨h1, h2, h3, v, h4, h5, h6⟩ := h
  have hn : ∀ g, g < w.heap.size → ¬ F g → ¬ F' g := fun g hg hf hf' => by
    rcases hs.old g hf' with h | h
    · exact hf h
    · omega
  exact ⟨hi, ⟨fun k hk => Nat.lt_of_lt_of_le (h2.1 k hk) hs.size, h2.2⟩, hn wb hlt h3, v, (hs.block wb hlt h3).trans h4, h5.kept (fun g hg => hs.block g (h5.lt g hg).2 (h6 g hg).2.1), fun g hg => ⟨(h6 g hg).1, hn g (h5.lt g hg).2 (h6 g hg).2.1, (h6 g hg).2.2⟩⟩
theorem Wd.boxes (h : Wd Inv O F w rb wb l) : ∃ a c, w.heap[wb]? = some (.cells #[.pointer (some ⟨rb, 0, none⟩), .slice a l.length c] 149 (0, 0)) ∧ SegIn 0 w (.slice a l.length c) l ∧ (∀ g, (Value.slice a l.length c).ownBlock = some g → g ≠ wb ∧ ¬ F g ∧ ¬ O g) := by
  obtain ⟨h1, h2, h3, v, h4, h5, h6⟩ := h
  obtain ⟨a, c, rfl⟩ := h5.form
  exact ⟨a, c, h4, h5, h6⟩
theorem setw_box {w : World} {b : Nat} {p q u : Value} {t : TypeId} (h : w.heap[b]? = some (.cells #[p, q] t (0, 0))) : (w.setCell ⟨b, 1, none⟩ u).heap[b]? = some (.cells #[p, u] t (0, 0)) := by
  rw [setCell_eq_setRow w b 1 _ t (0, 0) u h, setRow_heap w b _ _ t _ h]; rfl
/-- a segment was appended, the walker tells it -/
theorem Wd.more (m : Wm rb M Inv) (h : Wd Inv O F w rb wb l) {a : Option Addr} {c : Nat} (hv : w.heap[wb]? = some (.cells #[.pointer (some ⟨rb, 0, none⟩), .slice a l.length c] 149 (0, 0))) {w1 : World} {g cap : Nat} {s : Seg} (hown : w1.ownsRow 0 64 3 (.slice (some ⟨g, 0, none⟩) (l.length + 1) cap) (l.length + 1) (segRow l ++ [.int .u64 (s.a : Nat), .int .u64 (s.l : Nat), .bool s.wr])) (hgr : w.grownBy w1 (Value.slice a l.length c).ownBlock) (hat : (Value.slice a l.length c).ownBlock = some g ∨ w.heap.size ≤ g) :
    Wd Inv O F (w1.setCell ⟨wb, 1, none⟩ (.slice (some ⟨g, 0, none⟩) (l.length + 1) cap)) rb wb (l ++ [s]) ∧ Fly O F w F (w1.setCell ⟨wb, 1, none⟩ (.slice (some ⟨g, 0, none⟩) (l.length + 1) cap)) := by
  have hlt := h.lt
  obtain ⟨h1, h2, h3, v, h4, h5, h6⟩ := h
  rw [hv] at h4
  simp only [Option.some.injEq, Obj.cells.injEq, Array.mk.injEq, List.cons.injEq, true_and, and_true] at h4
  subst h4
  have hF : ∀ k, F k → (w1.setCell ⟨wb, 1, none⟩ (.slice (some ⟨g, 0, none⟩) (l.length + 1) cap)).heap[k]? = w.heap[k]? := fun k hk => by
    rw [heap_setCell w1 wb 1 _ k (fun e => h3 (e ▸ hk))]
    exact hgr.block k (m.lt F w h1 k hk) (fun e => (h6 k e.symm).2.1 hk)
  have hwb : w1.heap[wb]? = some (.cells #[.pointer (some ⟨rb, 0, none⟩), .slice a l.length c] 149 (0, 0)) := (hgr.block wb hlt (fun e => (h6 wb e.symm).1 rfl)).trans hv
  have hgw : g ≠ wb := by
    rcases hat with h | h
    · exact (h6 g h).1
    · omega
  have hgF : ¬ F g := by
    rcases hat with h | h
    · exact (h6 g h).2.1
    · intro hf; have := m.lt F w h1 g hf; omega
  have hgO : ¬ O g := by
    rcases hat with h | h
    · exact (h6 g h).2.2
    · intro hf; have := h2.1 g hf; omega
  have hsz : (w1.setCell ⟨wb, 1, none⟩ (.slice (some ⟨g, 0, none⟩) (l.length + 1) cap)).heap.size = w1.heap.size := by simp [World.setCell]
  have hstep : Step (fun k => k = wb ∨ (Value.slice a l.length c).ownBlock = some k) w (fun k => k = wb ∨ (Value.slice a l.length c).ownBlock = some k) (w1.setCell ⟨wb, 1, none⟩ (.slice (some ⟨g, 0, none⟩) (l.length + 1) cap)) := by
    refine ⟨hgr.os, hgr.tape, hgr.output, by rw [hsz]; exact hgr.size, fun k hk hn => ?_, fun k hk => .inl hk, fun k hk => hk⟩
    rw [heap_setCell w1 wb 1 _ k (fun e => hn (.inl e))]
    exact hgr.block k hk (fun e => hn (.inr e.symm))
  refine ⟨⟨m.step F w _ _ _ h1 hstep (fun k hk hh => ?_), ⟨fun k hk => Nat.lt_of_lt_of_le (h2.1 k hk) hstep.size, h2.2⟩, h3, _, setw_box hwb, ?_, fun g' hg' => ?_⟩, ⟨hstep.os, hstep.tape, hstep.output, hstep.size, fun k hk hf => ?_, fun k hk => .inl hk, fun k hk => hk⟩⟩
  · rcases hh with hh | hh
    · exact h3 (hh ▸ hk)
    · exact (h6 k hh).2.1 hk
  · have e : (l ++ [s]).length = l.length + 1 := by simp
    unfold SegIn
    rw [segRow_snoc, e]
    refine ⟨hown.1, ?_⟩
    rcases hown.2 with ⟨hn, _⟩ | ⟨g', cap', cur, he, hb, hgg, rest⟩
    · cases hn
    · simp only [Value.slice.injEq, Option.some.injEq, Addr.mk.injEq, and_true, true_and] at he
      obtain ⟨rfl, rfl⟩ := he
      exact .inr ⟨_, _, cur, rfl, hb, (heap_setCell w1 wb 1 _ _ hgw).trans hgg, rest⟩
  · have : g' = g := by simpa [Value.ownBlock] using hg'.symm
    subst this
    exact ⟨hgw, hgF, hgO⟩
  · refine hstep.block k (h2.1 k hk) (fun hh => ?_)
    rcases hh with hh | hh
    · exact h2.2 (hh ▸ hk)
    · exact (h6 k hh).2.2 hk
theorem Wd.mono {O' : Nat → Prop} (h : Wd Inv O F w rb wb l) (ho : ∀ k, O' k → O k) : Wd Inv O' F w rb wb l := by
  obtain ⟨h1, h2, h3, v, h4, h5, h6⟩ := h
  exact ⟨h1, ⟨fun k hk => h2.1 k (ho k hk), fun hk => h2.2 (ho _ hk)⟩, h3, v, h4, h5, fun g hg => ⟨(h6 g hg).1, (h6 g hg).2.1, fun hk => (h6 g hg).2.2 (ho _ hk)⟩⟩
/-- a block that was made since is the walker's no more than O's -/
theorem Wd.box (m : Wm rb M Inv) (h : Wd Inv O F w rb wb l) (hb : Below w.heap.size w w') {b : Nat} (hlt : w.heap.size ≤ b) (hb2 : b < w'.heap.size) : Wd Inv (fun k => O k ∨ k = b) F w' rb wb l := by
  have hl := h.lt
  have hB := h.below m hb
  obtain ⟨h1, h2, h3, v, h4, h5, h6⟩ := hB
  obtain ⟨k1, k2, k3, v', k4, k5, k6⟩ := h
  have hv : v = v' := by
    have := h4
    rw [below_box k4 hb] at this
    simp only [Option.some.injEq, Obj.cells.injEq, Array.mk.injEq, List.cons.injEq, true_and, and_true] at this
    exact this.symm
  subst hv
  refine ⟨h1, ⟨fun k hk => hk.elim (h2.1 k) (fun e => e ▸ hb2), fun hk => hk.elim h2.2 (fun e => by omega)⟩, h3, v, h4, h5, fun g hg => ⟨(h6 g hg).1, (h6 g hg).2.1, fun hk => hk.elim (h6 g hg).2.2 (fun e => ?_)⟩⟩
  have := (k5.lt g hg).2
  omega
end
end Go.Proofs.Ytmjdnocilbnoaaa

/- Segments appended to segments. -/
namespace Go.Proofs.Ytmjdnocilbnoaaa
open Go.RowKit Go.Maps
set_option linter.unusedVariables false
set_option linter.unusedSimpArgs false
set_option maxRecDepth 100000
theorem infoSeg : (Try.prog.info? 64).map (fun i => (i.zero, i.size, i.bytes)) = some (some (.agg #[.int .u64 0, .int .u64 0, .bool false]), 3, 24) := by kernel_rfl
theorem run_append_zero {w : World} (t ty e : TypeId) (i : TypeInfo) (ht : Try.prog.underlying t = some (.slice e)) (hi : Try.prog.info? e = some i) (b : Option Addr) (n c : Nat) (hn : n ≤ c) : (Builtin.append_ #[t, t] ty #[.slice b n c, .slice none 0 0]).run Try.prog w = .ok (.slice b n c) w := by
  cases b <;> simp [Builtin.append_, run_underlying ht, sizeOf, typeInfo, hi, Builtin.lenOf, hn, Builtin.firstCells, storeCells]
theorem segRow_append (l m : List Seg) : segRow (l ++ m) = segRow l ++ segRow m := by simp [segRow]
theorem segRow_one (l : List Seg) : ∀ u ∈ segRow l, u.oneCell' = true := by
  intro u hu
  simp [segRow] at hu
  obtain ⟨s, _, h | h | h⟩ := hu <;> subst h <;> rfl
/-- segments appended to one's own row of segments -/
theorem wpList_append_segs {w : World} {ops : Array Oper} {rest : List Oper} {o : Oper} {a : Act} {Q : Exit → Act → World → Prop} (hgd : o.guard = none) (s x : Operand) (ho : o.op = .call { callee := .builtin .append, args := #[s, x], argTypes := #[46, 46] }) (B : Nat) (ms l : List Seg) (v v2 : Value) (hs : a.eval s = v) (hown : SegIn B w v ms) (hx : a.eval x = v2) (h2 : SegIn 0 w v2 l) (hlen : ms.length + l.length ≤ 100000) (hB : B ≤ w.heap.size)
    (h : ∀ v' w', SegIn B w' v' (ms ++ l) → w.grownBy w' v.ownBlock → (v'.ownBlock = v.ownBlock ∨ v'.ownBlock = some w.heap.size) → wpList Try.prog ops Q rest (a.put o.dst v') w') : wpList Try.prog ops Q (o :: rest) a w := by
  obtain ⟨i0, hi0, hz0, hz1, hz2⟩ := info_parts infoSeg
  have h2' := h2
  rcases h2'.2 with ⟨rfl, h0⟩ | ⟨g, cap, cur, rfl, hb, hgg, hrest⟩
  · have hl : l = [] := List.length_eq_zero_iff.1 h0
    subst hl
    obtain ⟨av, cv, rfl⟩ := hown.form
    have hcap : ms.length ≤ cv := by
      rcases hown.2 with ⟨e1, e2⟩ | ⟨g, cap, cur, e1, _, _, e2, _⟩
      · simp only [Value.slice.injEq] at e1; omega
      · simp only [Value.slice.injEq] at e1; omega
    refine wpList_plain hgd fun K hK => ?_
    have hr := run_append_zero (w := w) 46 o.type 64 i0 Try.underlying46 hi0 av ms.length cv hcap
    unfold Oper.wp execOp
    simp only [ho, resolve, invoke, builtin, Sem.run_bind, Sem.run_pure, Result.andThen_ok, List.map_toArray, List.map_cons, List.map_nil, hs, hx, hr]
    exact hK _ _ (h _ _ (by simpa using hown) ⟨rfl, rfl, rfl, Nat.le_refl _, fun _ _ _ => rfl⟩ (.inl rfl))
  · have hc := World.ownsRow.cells h2 (g := g) rfl
    refine wpList_append_own_at w hgd s x 46 ho B 64 i0 (.agg #[.int .u64 0, .int .u64 0, .bool false]) 3 24 Try.underlying46 hi0 hz0 hz1 hz2 rfl (by decide) v ms.length (segRow ms) hs hown ⟨g, 0, none⟩ l.length cap (segRow l) hx h2.1 hc (segRow_one l) (by unfold maxLen; omega) (by omega) hB ?_
    intro v' w' hown' hgrow _ hat
    refine h v' w' ?_ hgrow hat
    show w'.ownsRow B 64 3 v' (ms ++ l).length (segRow (ms ++ l))
    rw [segRow_append, List.length_append]
    exact hown'
end Go.Proofs.Ytmjdnocilbnoaaa

/- The bytes that a chain names, in plain lists. -/
namespace Go.Proofs.Ytmjdnocilbnoaaa
open Go.RowKit Go.Maps
set_option linter.unusedVariables false
set_option linter.unusedSimpArgs false
set_option maxRecDepth 100000
/-- the addresses of all that is to be read, or written -/
def addrs (b : Bool) (l : List Seg) : List Nat := l.flatMap fun s => if s.wr = b then (List.range s.l).map (s.a + ·) else []
def sizeN (b : Bool) (l : List Seg) : Nat := (l.map fun s => if s.wr = b then s.l else 0).sum
theorem addrs_length (b : Bool) (l : List Seg) : (addrs b l).length = sizeN b l := by
  induction l with
  | nil => rfl
  | cons s l ih =>
    have e : addrs b (s :: l) = (if s.wr = b then (List.range s.l).map (s.a + ·) else []) ++ addrs b l := by simp [addrs]
    have e2 : sizeN b (s :: l) = (if s.wr = b then s.l else 0) + sizeN b l := by simp [sizeN]
    rw [e, e2, List.length_append, ih]
    split <;> simp
theorem sizeN_cons (b : Bool) (s : Seg) (l : List Seg) : sizeN b (s :: l) = (if s.wr = b then s.l else 0) + sizeN b l := by simp [sizeN]
theorem addrs_cons (b : Bool) (s : Seg) (l : List Seg) : addrs b (s :: l) = (if s.wr = b then (List.range s.l).map (s.a + ·) else []) ++ addrs b l := by simp [addrs]
theorem sizeN_take (b : Bool) (l : List Seg) (i : Nat) (hi : i < l.length) : sizeN b (l.take (i + 1)) = sizeN b (l.take i) + (if (l[i]).wr = b then (l[i]).l else 0) := by
  rw [List.take_add_one, List.getElem?_eq_getElem hi]
  simp only [sizeN, List.map_append, List.sum_append, Option.toList_some, List.map_cons, List.map_nil, List.sum_cons, List.sum_nil, Nat.add_zero]
theorem sizeN_le (b : Bool) (l : List Seg) (h : ∀ s ∈ l, SegOk s) : sizeN b l ≤ l.length * 8192 := by
  induction l with
  | nil => simp [sizeN]
  | cons s l ih =>
    have h1 := ih (fun x hx => h x (List.mem_cons_of_mem _ hx))
    have h2 := (h s (List.mem_cons_self)).l
    rw [sizeN_cons, List.length_cons]
    split <;> omega
def pcs (b : Bool) : List Seg → Nat → Nat → List (Nat × Nat) × Nat × Nat
  | [], f, n => ([], f, n)
  | s :: l, f, n => if s.wr = b then ((if min n (s.l - min f s.l) = 0 then (pcs b l (f - min f s.l) (n - min n (s.l - min f s.l))).1 else (s.a + min f s.l, min n (s.l - min f s.l)) :: (pcs b l (f - min f s.l) (n - min n (s.l - min f s.l))).1), (pcs b l (f - min f s.l) (n - min n (s.l - min f s.l))).2) else pcs b l f n
theorem pcs_other {b : Bool} {s : Seg} {l : List Seg} {f n : Nat} (h : ¬ s.wr = b) : pcs b (s :: l) f n = pcs b l f n := by simp [pcs, h]
theorem pcs_none {b : Bool} {s : Seg} {l : List Seg} {f n sk tk : Nat} (h : s.wr = b) (h1 : sk = min f s.l) (h2 : tk = min n (s.l - sk)) (h0 : tk = 0) : pcs b (s :: l) f n = pcs b l (f - sk) (n - tk) := by
  subst h1
  rw [h0] at h2
  subst h0
  simp only [pcs, h, if_true, ← h2]
theorem pcs_some {b : Bool} {s : Seg} {l : List Seg} {f n sk tk : Nat} (h : s.wr = b) (h1 : sk = min f s.l) (h2 : tk = min n (s.l - sk)) (h0 : ¬ tk = 0) : pcs b (s :: l) f n = ((s.a + sk, tk) :: (pcs b l (f - sk) (n - tk)).1, (pcs b l (f - sk) (n - tk)).2) := by
  subst h1 h2
  simp only [pcs, h, if_true, h0, if_false]
theorem pcs_rest (b : Bool) : ∀ (l : List Seg) (f n : Nat), (pcs b l f n).2 = (f - sizeN b l, n - (sizeN b l - f)) := by
  intro l
  induction l with
  | nil => intro f n; simp [pcs, sizeN]
  | cons s l ih =>
    intro f n
    rw [sizeN_cons]
    by_cases h : s.wr = b
    · simp only [pcs, h, if_true]
      rw [ih]
      simp only [Prod.mk.injEq]
      omega
    · rw [pcs_other h, ih, if_neg h, Nat.zero_add]
def spanA (ps : List (Nat × Nat)) : List Nat := ps.flatMap fun p => (List.range p.2).map (p.1 + ·)
theorem spanA_cons (p : Nat × Nat) (l : List (Nat × Nat)) : spanA (p :: l) = (List.range p.2).map (p.1 + ·) ++ spanA l := by simp [spanA]
theorem spanA_append (k l : List (Nat × Nat)) : spanA (k ++ l) = spanA k ++ spanA l := by simp [spanA]
theorem range_cut (a L f n : Nat) : ((((List.range L).map (a + ·)).drop f).take n) = (List.range (min n (L - f))).map (a + f + ·) := by
  apply List.ext_getElem?
  intro i
  simp only [List.getElem?_take, List.getElem?_drop, List.getElem?_map, List.getElem?_range']
  by_cases h : i < min n (L - f)
  · rw [if_pos (by omega), List.getElem?_range (by omega), List.getElem?_range h]
    simp; omega
  · rw [List.getElem?_eq_none (l := List.range (min n (L - f))) (by simp; omega)]
    split
    · rw [List.getElem?_eq_none (by simp; omega)]; rfl
    · rfl
theorem pcs_span (b : Bool) : ∀ (l : List Seg) (f n : Nat), spanA (pcs b l f n).1 = ((addrs b l).drop f).take n := by
  intro l
  induction l with
  | nil => intro f n; simp [pcs, addrs, spanA]
  | cons s l ih =>
    intro f n
    rw [addrs_cons]
    by_cases h : s.wr = b
    · rw [if_pos h, List.drop_append, List.take_append, range_cut]
      have e1 : f - ((List.range s.l).map (s.a + ·)).length = f - min f s.l := by simp; omega
      have e2 : n - (((List.range s.l).map (s.a + ·)).drop f).length = n - min n (s.l - min f s.l) := by simp; omega
      rw [e1, e2, ← ih]
      have e3 : min n (s.l - f) = min n (s.l - min f s.l) := by omega
      rw [e3]
      by_cases h0 : min n (s.l - min f s.l) = 0
      · rw [pcs_none h rfl rfl h0, h0]; simp
      · rw [pcs_some h rfl rfl h0, spanA_cons]
        have e4 : min f s.l = f := by omega
        simp only [e4]
    · rw [if_neg h, List.nil_append, pcs_other h]
      exact ih f n
theorem pcs_ok {b : Bool} {l : List Seg} (h : ∀ s ∈ l, SegOk s) : ∀ (f n : Nat), ∀ p ∈ (pcs b l f n).1, inB p.1 p.2 2147483648 8192 = true ∧ 0 < p.2 ∧ p.1 < 18446744073709551616 ∧ p.2 ≤ 8192 := by
  induction l with
  | nil => intro f n p hp; simp [pcs] at hp
  | cons s l ih =>
    intro f n p hp
    have ih2 := ih (fun x hx => h x (List.mem_cons_of_mem _ hx))
    by_cases hb : s.wr = b
    · by_cases h0 : min n (s.l - min f s.l) = 0
      · rw [pcs_none hb rfl rfl h0] at hp
        exact ih2 _ _ p hp
      · rw [pcs_some hb rfl rfl h0] at hp
        rcases List.mem_cons.1 hp with rfl | hp
        · have hs := h s List.mem_cons_self
          have h1 := in_len hs.i
          have h3 : min f s.l + min n (s.l - min f s.l) ≤ s.l := by omega
          refine ⟨?_, by simp only; omega, by simp only; omega, by simp only; omega⟩
          simp only [inB, Bool.and_eq_true, decide_eq_true_iff]
          omega
        · exact ih2 _ _ p hp
    · rw [pcs_other hb] at hp
      exact ih2 _ _ p hp
theorem pcs_len (b : Bool) : ∀ (l : List Seg) (f n : Nat), (pcs b l f n).1.length ≤ l.length := by
  intro l
  induction l with
  | nil => intro f n; simp [pcs]
  | cons s l ih =>
    intro f n
    by_cases hb : s.wr = b
    · by_cases h0 : min n (s.l - min f s.l) = 0
      · rw [pcs_none hb rfl rfl h0]
        have := ih (f - min f s.l) (n - min n (s.l - min f s.l))
        simp only [List.length_cons]
        omega
      · rw [pcs_some hb rfl rfl h0]
        have := ih (f - min f s.l) (n - min n (s.l - min f s.l))
        simp only [List.length_cons]
        omega
    · rw [pcs_other hb]
      have := ih f n
      simp only [List.length_cons]
      omega
/-- is there so much? -/
def roomB (b : Bool) (l : List Seg) (f n : Nat) : Bool := decide (f ≤ sizeN b l ∧ n ≤ sizeN b l - f)
theorem room_iff (b : Bool) (l : List Seg) (f n : Nat) : roomB b l f n = true ↔ (pcs b l f n).2 = (0, 0) := by
  rw [pcs_rest]
  simp only [roomB, decide_eq_true_iff, Prod.mk.injEq]
  omega
end Go.Proofs.Ytmjdnocilbnoaaa
