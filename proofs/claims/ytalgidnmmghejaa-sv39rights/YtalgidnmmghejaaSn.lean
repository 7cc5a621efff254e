/- Layer 10 in plain numbers: what an entry of a table says, and what a walk comes to. -/
import Derived.Test.YtalgidnmmghejaaWd
import Derived.Test.YtalgidnmmghejaaBoth
namespace Go.Proofs.Ytalgidnmmghejaa
open Go.RowKit
set_option linter.unusedVariables false
/-- a bit of a word -/
def tb (e : Nat) (i : Int) : Bool := ((E.getN e i 1 : Int) == 1)
def leadsB (e : Nat) : Bool := tb e 1 || tb e 3
def oddB (e : Nat) : Bool := !tb e 0 || !(E.getN e 54 10 == 0) || (tb e 2 && !tb e 1) || (!leadsB e && (tb e 4 || tb e 6 || tb e 7))
def admB (kind mode : Int) (sum u : Bool) : Bool := if mode = 0 then u else if mode = 1 then !u || (!(kind == 0) && sum) else true
def alwB (kind mode : Int) (sum mxr : Bool) (e : Nat) : Bool := admB kind mode sum (tb e 4) && tb e 6 && (if kind = 0 then tb e 3 else if kind = 1 then tb e 1 || (tb e 3 && mxr) else tb e 2 && tb e 7)
def numN (e : Nat) : Nat := E.getN e 10 44
theorem numN_eq (e : Nat) : numN e = e / 1024 % 17592186044416 := by unfold numN; exact E.getN_in e 10 44 (by omega)
theorem numN_lt (e : Nat) : numN e < 17592186044416 := by rw [numN_eq]; omega
/-- what a walk comes to: an address, a fault, of a page, how many were read -/
abbrev Res := Nat × Bool × Bool × Nat
def resC (r : Res) : Array Value := #[.int .u64 (r.1 : Nat), .bool r.2.1, .bool r.2.2.1, .int .i64 (r.2.2.2 : Nat)]
def badR (k : Nat) : Res := (0, true, true, k)
/-- by an entry that leads to memory, at a level -/
def arrR (kind mode : Int) (sum mxr : Bool) (e va l : Nat) : Res :=
  if (alwB kind mode sum mxr e && (E.getN (numN e) 0 (9 * l : Nat) == 0)) = true then (numN e * 4096 + E.getN va 0 (12 + 9 * l : Nat), false, false, 3 - l) else badR (3 - l)
def plcN (t va l : Nat) : Nat := t * 4096 + 8 * E.getN va (12 + 9 * l : Nat) 9
def downR (M : Nat → Nat) (s : Nat) (kind mode : Int) (sum mxr : Bool) (va : Nat) : Nat → Nat → Res
  | t, 0 => if putB (plcN t va 0) 8 s = true then
      (if oddB (loadV M (plcN t va 0) 8 s) = true then badR 3 else if leadsB (loadV M (plcN t va 0) 8 s) = true then arrR kind mode sum mxr (loadV M (plcN t va 0) 8 s) va 0 else badR 3) else (0, true, false, 2)
  | t, l + 1 => if putB (plcN t va (l + 1)) 8 s = true then
      (if oddB (loadV M (plcN t va (l + 1)) 8 s) = true then badR (3 - (l + 1)) else if leadsB (loadV M (plcN t va (l + 1)) 8 s) = true then arrR kind mode sum mxr (loadV M (plcN t va (l + 1)) 8 s) va (l + 1) else downR M s kind mode sum mxr va (numN (loadV M (plcN t va (l + 1)) 8 s)) l) else (0, true, false, 2 - (l + 1))
def bareB (satp : Nat) (mode : Int) : Bool := (mode == 3) || !(E.getN satp 60 4 == 8)
def propB (va : Nat) : Bool := (E.getN va 38 26 == 0) || (E.getN va 38 26 == 67108863)
def walkR (M : Nat → Nat) (s satp : Nat) (kind mode : Int) (sum mxr : Bool) (va : Nat) : Res :=
  if bareB satp mode = true then (va, false, false, 0) else if propB va = false then badR 0 else downR M s kind mode sum mxr va (E.getN satp 0 44) 2
theorem getN_lt (x : Nat) (a n : Int) (hx : x < 18446744073709551616) : E.getN x a n < 18446744073709551616 := by
  unfold E.getN
  split
  · exact Nat.lt_of_le_of_lt (Nat.le_trans (Nat.mod_le _ _) (Nat.div_le_self _ _)) hx
  · omega
theorem satp_lt (x : Nat) : E.getN x 0 44 < 17592186044416 := by
  have h := E.getN_in x 0 44 (by omega)
  rw [show ((0 : Nat) : Int) = 0 from rfl] at h
  rw [h]; exact Nat.mod_lt _ (by decide)
theorem getN9_lt (x a : Nat) (ha : a ≤ 63) : E.getN x (a : Nat) 9 < 512 := by
  rw [E.getN_in x a 9 ha]; exact Nat.mod_lt _ (by decide)
theorem plcN_lt (t va l : Nat) (hl : l ≤ 2) (ht : t < 17592186044416) : plcN t va l < 18446744073709551616 := by
  unfold plcN
  have := getN9_lt va (12 + 9 * l) (by omega)
  omega
theorem getN0 (x m : Nat) (hm : m ≤ 64) : E.getN x 0 (m : Nat) = x % 2 ^ m := by
  have h := E.getN_in x 0 (m : Nat) (by omega)
  rw [show ((0 : Nat) : Int) = 0 from rfl, show (min (m : Int) 64).toNat = m from by omega, Nat.pow_zero, Nat.div_one] at h
  exact h
/-- the low bits of a page's address are those of va: by bits -/
theorem put_low (p va l : Nat) (hl : l ≤ 2) (hp : p < 17592186044416) (h : E.getN p 0 (9 * l : Nat) = 0) : E.putA (p * 4096) 0 (12 + 9 * l : Nat) va = p * 4096 + E.getN va 0 (12 + 9 * l : Nat) := by
  rw [getN0 p _ (by omega)] at h
  rw [getN0 va _ (by omega)]
  have h1 := E.putA_in (p * 4096) 0 (12 + 9 * l : Nat) va (by omega)
  rw [show ((0 : Nat) : Int) = 0 from rfl, show (min ((12 + 9 * l : Nat) : Int) 64).toNat = 12 + 9 * l from by omega] at h1
  rw [h1]
  obtain ⟨q, hq⟩ : ∃ q, p * 4096 = 2 ^ (12 + 9 * l) * q := by
    refine ⟨p / 2 ^ (9 * l), ?_⟩
    have := Nat.div_add_mod p (2 ^ (9 * l))
    rw [h, Nat.add_zero] at this
    rw [Nat.pow_add, Nat.mul_assoc, this]
    omega
  have hw : p * 4096 < 2 ^ 64 := by omega
  have hlt : va % 2 ^ (12 + 9 * l) < 2 ^ (12 + 9 * l) := Nat.mod_lt _ (Nat.two_pow_pos _)
  rw [hq, Nat.two_pow_add_eq_or_of_lt hlt]
  apply Nat.eq_of_testBit_eq
  intro j
  have hm : 12 + 9 * l ≤ 64 := by omega
  rw [hq] at hw
  generalize 12 + 9 * l = m at *
  have hM : 2 ^ m - 1 < 2 ^ 64 := Nat.lt_of_lt_of_le (Nat.sub_lt (Nat.two_pow_pos _) (by omega)) (Nat.pow_le_pow_right (by omega) hm)
  unfold E.putN
  rw [Nat.pow_zero, Nat.mul_one, Nat.mul_one, Nat.mod_eq_of_lt (show 2 ^ m - 1 < 18446744073709551616 from hM)]
  simp only [Nat.testBit_or, Nat.testBit_and, Nat.testBit_two_pow_sub_one, Nat.testBit_two_pow_mul, Nat.testBit_mod_two_pow]
  have hc := Nat.testBit_two_pow_sub_succ (x := 2 ^ m - 1) (n := 64) hM j
  rw [show 2 ^ 64 - (2 ^ m - 1 + 1) = 18446744073709551615 - (2 ^ m - 1) from by omega, Nat.testBit_two_pow_sub_one] at hc
  rw [hc]
  have h64 : j < 64 ∨ (2 ^ m * q).testBit j = false := by
    by_cases hj : j < 64
    · exact .inl hj
    · right
      exact Nat.testBit_lt_two_pow (Nat.lt_of_lt_of_le hw (Nat.pow_le_pow_right (by omega) (by omega)))
  have hv : (va % 18446744073709551616).testBit j = (decide (j < 64) && va.testBit j) := Nat.testBit_mod_two_pow va 64 j
  rw [hv]
  rw [Nat.testBit_two_pow_mul] at h64
  by_cases hj : j < m
  · have : j < 64 := by omega
    have h2 : ¬ m ≤ j := by omega
    simp [hj, this, h2]
  · rcases h64 with h64 | h64
    · simp [hj, h64]
    · simp [hj, h64]
theorem cellOf {w : World} {b : Nat} {c : Array Value} {t : TypeId} (h : w.heap[b]? = some (.cells c t (0, 0))) (i : Nat) (v : Value) (hi : c[i]? = some v) : w.cell? ⟨b, i, none⟩ = some v := by
  simp only [World.cell?, h]; exact hi
theorem frozenOf {w : World} {b : Nat} {c : Array Value} {t : TypeId} (h : w.heap[b]? = some (.cells c t (0, 0))) (i : Nat) : w.frozen? ⟨b, i, none⟩ = false := by
  simp [World.frozen?, h]
theorem resC_bad (k : Nat) : #[Value.int .u64 0, .bool true, .bool true, .int .i64 (k : Nat)] = resC (badR k) := rfl
end Go.Proofs.Ytalgidnmmghejaa
