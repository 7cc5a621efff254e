/- The parts of an instruction joined in a word, whatever its form: no two have a bit in common. -/
import Derived.Test.YtooaafbdjnlmfaaDoorSub
namespace Go.Proofs.YtooaafbdjnlmfaaDoor
open Go.RowKit
set_option linter.unusedVariables false
set_option linter.unusedSimpArgs false
/-- the bits of each part of a form -/
def M0 (f : Nat) : Nat := if partsT.getD f 0 &&& 1 = 0 then 0 else 0xf80
def M1 (f : Nat) : Nat := if partsT.getD f 0 &&& 2 = 0 then 0 else 0xf8000
def M2 (f : Nat) : Nat := if partsT.getD f 0 &&& 4 = 0 then 0 else 0x1f00000
def M3 (f : Nat) : Nat := if partsT.getD f 0 &&& 8 = 0 then 0 else 0xfff00000
def M4 (f : Nat) : Nat := if partsT.getD f 0 &&& 16 = 0 then 0 else 67108864
def M5 (f : Nat) : Nat := if partsT.getD f 0 &&& 16 = 0 then 0 else 33554432
def MF (f : Nat) : Nat := fixedT.getD f 0
def MI : Nat → Nat
  | 1 => 0xfffff000
  | 2 => 0xfffff000
  | 3 => 0xfff00000
  | 4 => 0xfff00000
  | 5 => 0xfe000f80
  | 6 => 0xfe000f80
  | 7 => 0x3f00000
  | 8 => 0x1f00000
  | 10 => 0xfff00000
  | 13 => 0xf8000
  | _ => 0
def J1 (f : Nat) : Nat := M0 f ||| M1 f
def J2 (f : Nat) : Nat := J1 f ||| M2 f
def J3 (f : Nat) : Nat := J2 f ||| M3 f
def J4 (f : Nat) : Nat := J3 f ||| M4 f
def J5 (f : Nat) : Nat := J4 f ||| M5 f
def J6 (f : Nat) : Nat := MF f ||| J5 f
theorem masksA : ∀ f, f < 17 → f ≠ 0 → M0 f &&& M1 f = 0 ∧ J1 f &&& M2 f = 0 ∧ J2 f &&& M3 f = 0 ∧ J3 f &&& M4 f = 0 := by decide +kernel
theorem masksB : ∀ f, f < 17 → f ≠ 0 → J4 f &&& M5 f = 0 ∧ MF f &&& J5 f = 0 ∧ J6 f &&& MI f = 0 := by decide +kernel
theorem masksC : ∀ f, f < 17 → M0 f < 4294967296 ∧ M1 f < 4294967296 ∧ M2 f < 4294967296 ∧ M3 f < 4294967296 ∧ M4 f < 4294967296 ∧ M5 f < 4294967296 := by decide +kernel
theorem masksD : ∀ f, f < 17 → J1 f < 4294967296 ∧ J2 f < 4294967296 ∧ J3 f < 4294967296 ∧ J4 f < 4294967296 ∧ J5 f < 4294967296 := by decide +kernel
theorem masksE : ∀ f, f < 17 → MF f < 4294967296 ∧ J6 f < 4294967296 ∧ MI f < 4294967296 := by decide +kernel
def orIf (b : Bool) (x : Int) (y : Int) : Int := if b then bits .or .u32 x y else x
theorem orIf_nat (b : Bool) (x y : Nat) (hx : x < 4294967296) : orIf b x y = bits .or .u32 (x : Int) ((if b then y else 0 : Nat) : Int) := by
  cases b
  · show (x : Int) = bits .or .u32 (x : Int) ((0 : Nat) : Int)
    rw [u32_or_nat x 0 hx (by omega), Nat.or_zero]
  · rfl
theorem all_or (f : Nat) (hf : f < 17) (h0 : f ≠ 0) (a0 a1 a2 a3 a4 a5 : Nat) (aq rl : Bool) (t0 : Sub a0 (M0 f)) (t1 : Sub a1 (M1 f)) (t2 : Sub a2 (M2 f)) (t3 : Sub a3 (M3 f)) (e4 : a4 = if aq then 67108864 else 0) (e5 : a5 = if rl then 33554432 else 0) (t4 : Sub a4 (M4 f)) (t5 : Sub a5 (M5 f)) :
    orIf rl (orIf aq (bits .or .u32 (bits .or .u32 (bits .or .u32 (a0 : Int) (a1 : Int)) (a2 : Int)) (a3 : Int)) 67108864) 33554432 = ((a0 + a1 + a2 + a3 + a4 + a5 : Nat) : Int) ∧ Sub (a0 + a1 + a2 + a3 + a4 + a5) (J5 f) := by
  obtain ⟨d1, d2, d3, d4⟩ := masksA f hf h0
  obtain ⟨d5, d6, d7⟩ := masksB f hf h0
  obtain ⟨b0, b1, b2, b3, b4, b5⟩ := masksC f hf
  obtain ⟨c1, c2, c3, c4, c5⟩ := masksD f hf
  obtain ⟨e1, s1⟩ := or32 _ _ (J1 f) rfl rfl t0 t1 b0 b1 d1 rfl
  obtain ⟨e2, s2⟩ := or32 _ _ (J2 f) rfl rfl s1 t2 c1 b2 d2 rfl
  obtain ⟨e3, s3⟩ := or32 _ _ (J3 f) rfl rfl s2 t3 c2 b3 d3 rfl
  obtain ⟨e4', s4⟩ := or32 _ _ (J4 f) rfl rfl s3 t4 c3 b4 d4 rfl
  obtain ⟨e5', s5⟩ := or32 _ _ (J5 f) rfl rfl s4 t5 c4 b5 d5 rfl
  have l3 := s3.le
  have l4 := s4.le
  rw [e1, e2, e3, show (67108864 : Int) = ((67108864 : Nat) : Int) from rfl, show (33554432 : Int) = ((33554432 : Nat) : Int) from rfl, orIf_nat aq _ _ (by omega), ← e4, e4', orIf_nat rl _ _ (by omega), ← e5, e5']
  exact ⟨rfl, s5⟩
/-- the parts beside the number, as they stand in a word -/
def partsS (rd rs1 rs2 csr : Nat) (aq rl : Bool) : Nat := rd * 128 + rs1 * 32768 + rs2 * 1048576 + csr * 1048576 + (if aq then 67108864 else 0) + (if rl then 33554432 else 0)
/-- what partsIn makes -/
def partsRaw (rd rs1 rs2 csr : Nat) (aq rl : Bool) : Int :=
  orIf rl (orIf aq (bits .or .u32 (bits .or .u32 (bits .or .u32 ((rd : Int) % 4294967296 * 128 % 4294967296) ((rs1 : Int) % 4294967296 * 32768 % 4294967296)) ((rs2 : Int) % 4294967296 * 1048576 % 4294967296)) ((csr : Int) % 4294967296 * 1048576 % 4294967296)) 67108864) 33554432
theorem part_sub (f p last : Nat) (s : Nat) (x : Nat) (k : Nat) (hk : last < 2 ^ k) (h : amongB x (mostI f p last) = true) (M : Nat) (hM : M = (2 ^ k - 1) * 2 ^ s) : Sub (x * 2 ^ s) (if partsT.getD f 0 &&& p = 0 then 0 else M) ∧ x < 2 ^ k := by
  unfold amongB mostI mostN at h
  rw [Int.toNat_natCast] at h
  have h2 := of_decide_eq_true h
  by_cases hp : partsT.getD f 0 &&& p = 0
  · rw [if_pos hp] at h2 ⊢
    obtain rfl : x = 0 := by omega
    rw [Nat.zero_mul]
    exact ⟨Sub.zero _, Nat.two_pow_pos k⟩
  · rw [if_neg hp] at h2 ⊢
    have : x < 2 ^ k := by omega
    exact ⟨Sub.field k s _ this hM, this⟩
theorem ord_sub (f : Nat) (b c : Bool) (y : Nat) (hn : (decide (partsT.getD f 0 &&& 16 ≠ 0) || (!b && !c)) = true) : Sub (if b then y else 0) (if partsT.getD f 0 &&& 16 = 0 then 0 else y) ∧ Sub (if c then y else 0) (if partsT.getD f 0 &&& 16 = 0 then 0 else y) := by
  by_cases hp : partsT.getD f 0 &&& 16 = 0
  · rw [decide_eq_false (by simpa using hp)] at hn
    cases b <;> cases c <;> simp at hn
    exact ⟨Sub.zero _, Sub.zero _⟩
  · rw [if_neg hp]
    exact ⟨by cases b; exact Sub.zero _; exact fun i h => h, by cases c; exact Sub.zero _; exact fun i h => h⟩
/-- parts that fit are joined by their sum -/
theorem parts_or (f : Nat) (hf : f < 17) (hz : f ≠ 0) (rd rs1 rs2 csr : Nat) (aq rl : Bool) (h : partsB f rd rs1 rs2 csr aq rl = true) :
    partsRaw rd rs1 rs2 csr aq rl = (partsS rd rs1 rs2 csr aq rl : Nat) ∧ Sub (partsS rd rs1 rs2 csr aq rl) (J5 f) := by
  unfold partsB at h
  simp only [Bool.and_eq_true] at h
  obtain ⟨h0, h1, h2, h3, h4⟩ := h
  obtain ⟨t0, b0⟩ := part_sub f 1 31 7 rd 5 (by decide) h0 0xf80 rfl
  obtain ⟨t1, b1⟩ := part_sub f 2 31 15 rs1 5 (by decide) h1 0xf8000 rfl
  obtain ⟨t2, b2⟩ := part_sub f 4 31 20 rs2 5 (by decide) h2 0x1f00000 rfl
  obtain ⟨t3, b3⟩ := part_sub f 8 4095 20 csr 12 (by decide) h3 0xfff00000 rfl
  have t4 := (ord_sub f aq rl 67108864 h4).1
  have t5 := (ord_sub f aq rl 33554432 h4).2
  have f0 : (rd : Int) % 4294967296 * 128 % 4294967296 = ((rd * 128 : Nat) : Int) := by omega
  have f1 : (rs1 : Int) % 4294967296 * 32768 % 4294967296 = ((rs1 * 32768 : Nat) : Int) := by omega
  have f2 : (rs2 : Int) % 4294967296 * 1048576 % 4294967296 = ((rs2 * 1048576 : Nat) : Int) := by omega
  have f3 : (csr : Int) % 4294967296 * 1048576 % 4294967296 = ((csr * 1048576 : Nat) : Int) := by omega
  unfold partsRaw partsS
  rw [f0, f1, f2, f3]
  exact all_or f hf hz (rd * 128) (rs1 * 32768) (rs2 * 1048576) (csr * 1048576) _ _ aq rl t0 t1 t2 t3 rfl rfl t4 t5
end Go.Proofs.YtooaafbdjnlmfaaDoor
