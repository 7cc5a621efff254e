/- Check on both sides. -/
import Derived.Test.YtcgjfklglckjcaaRa
import Derived.Test.YtcgjfklglckjcaaMh
namespace Go.Proofs.Ytcgjfklglckjcaa
open Go.RowKit
set_option linter.unusedVariables false
set_option linter.unusedSimpArgs false
set_option maxRecDepth 100000

def okB (s : Int) (D A U : Nat) : Bool := powB s && (((D : Int) % 16 == 0) && (((A : Int) % 2 == 0) && ((U : Int) % 4 == 0)))
def inA (D A U sz : Nat) (n : Nat) : Bool := inB D (16 * (n : Int)) 2147483648 sz && (inB A (6 + 2 * (n : Int)) 2147483648 sz && inB U (6 + 8 * (n : Int)) 2147483648 sz)
/-- what Check tells of a layout -/
def chkN (s : Int) (D A U sz : Nat) : Int := if okB s D A U = true then (if inA D A U sz s.toNat = true then 0 else 21) else 150
theorem chk_150 {s : Int} {D A U : Nat} (sz : Nat) (h : okB s D A U = false) : chkN s D A U sz = 150 := by rw [chkN, h]; rfl
theorem chk_21 {n : Nat} {D A U sz : Nat} (h : okB (n : Int) D A U = true) (h2 : inA D A U sz n = false) : chkN (n : Int) D A U sz = 21 := by rw [chkN, h, Int.toNat_natCast, h2]; rfl
theorem chk_0 {n : Nat} {D A U sz : Nat} (h : okB (n : Int) D A U = true) (h2 : inA D A U sz n = true) : chkN (n : Int) D A U sz = 0 := by rw [chkN, h, Int.toNat_natCast, h2]; rfl
theorem chk_zero {s : Int} {D A U sz : Nat} (h : chkN s D A U sz = 0) : ∃ n : Nat, s = n ∧ 1 ≤ n ∧ n ≤ 256 ∧ powB (n : Int) = true ∧ D % 16 = 0 ∧ A % 2 = 0 ∧ U % 4 = 0 ∧ (2147483648 ≤ D ∧ D + 16 * n ≤ 2147483648 + sz) ∧ (2147483648 ≤ A ∧ A + 6 + 2 * n ≤ 2147483648 + sz) ∧ (2147483648 ≤ U ∧ U + 6 + 8 * n ≤ 2147483648 + sz) := by
  by_cases h1 : okB s D A U = true
  · have h2 := h1
    simp only [okB, Bool.and_eq_true, beq_iff_eq] at h1
    obtain ⟨n, rfl, hn1, hn2⟩ := pow_in h1.1
    by_cases h3 : inA D A U sz n = true
    · have h4 := h3
      simp only [inA, inB, Bool.and_eq_true, decide_eq_true_iff] at h3
      exact ⟨n, rfl, hn1, hn2, h1.1, by omega, by omega, by omega, by omega, by omega, by omega⟩
    · rw [chk_21 h2 (by simpa using h3)] at h; cases h
  · rw [chk_150 sz (by simpa using h1)] at h; cases h
theorem has_yes {w : World} {F : Nat → Prop} {rb size n : Nat} {lg : Value} {M : Nat → Nat} (h : RamAt w F rb size n lg M) (hs : size ≤ 268435456) (x : Nat) (y : Int) (hx : x < 18446744073709551616) (h0 : 0 ≤ y) (h1 : y < 18446744073709551616) : Calls Try.prog 55 #[.pointer (some ⟨rb, 0, none⟩), .int .u64 (x : Int), .int .u64 y] w fun e w' => e = .returned (.bool (inB x y 2147483648 size)) ∧ w' = w := by
  obtain ⟨L, rfl⟩ : ∃ L : Nat, y = L := ⟨y.toNat, by omega⟩
  exact has_any h hs x L hx (by omega)
theorem rhas_yes (s x : Nat) (y : Int) (v : Value) (hs : s < 18446744073709551616) (hx : x < 18446744073709551616) (h0 : 0 ≤ y) (h1 : y < 18446744073709551616) (w : World) : Calls Try.prog 17 #[.agg #[.int .u64 (s : Int), v], .int .u64 (x : Int), .int .u64 y] w fun e w' => e = .returned (.bool (inB x y 2147483648 s)) ∧ Below w.heap.size w w' := by
  obtain ⟨L, rfl⟩ : ∃ L : Nat, y = L := ⟨y.toNat, by omega⟩
  exact (rhas_any s x L v hs hx (by omega) w).mono fun e w' ⟨he, hb⟩ => ⟨he, hb⟩

end Go.Proofs.Ytcgjfklglckjcaa
