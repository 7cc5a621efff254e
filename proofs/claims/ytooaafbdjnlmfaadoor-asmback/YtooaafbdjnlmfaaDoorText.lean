/- A number's digits in base 10 and 16: the document's answer writes them from the highest on. -/
import Derived.Test.YtooaafbdjnlmfaaDoorParses
import Derived.Deep.QuietTactic
import Derived.BigQuiet
import Derived.Lib.ItoaNum
namespace Go.Proofs.YtooaafbdjnlmfaaDoor
open Go.RowKit
/-- the sign of a digit -/
def dch (d : Nat) : UInt8 := UInt8.ofNat (if d < 10 then 48 + d else 87 + d)
/-- the digits of a number, the highest first; at most f of them -/
def dtext (b : Nat) : Nat → Nat → List UInt8
  | 0, _ => []
  | f + 1, x => if x < b then [dch x] else dtext b f (x / b) ++ [dch (x % b)]
theorem dg_dch_fin : ∀ d : Fin 16, dg (dch d.val).toNat = d.val := by decide +kernel
theorem dg_dch (d : Nat) (h : d < 16) : dg (dch d).toNat = d := dg_dch_fin ⟨d, h⟩
theorem alpha_fin : ∀ d : Fin 16, ((⟨#[48, 49, 50, 51, 52, 53, 54, 55, 56, 57, 97, 98, 99, 100, 101, 102]⟩ : ByteArray).extract d.val (d.val + 1)).data.toList = [dch d.val] := by decide +kernel
theorem alpha_at (d : Nat) (h : d < 16) : (⟨#[48, 49, 50, 51, 52, 53, 54, 55, 56, 57, 97, 98, 99, 100, 101, 102]⟩ : ByteArray).extract d (d + 1) = ⟨[dch d].toArray⟩ := by
  apply ByteArray.ext
  apply Array.toList_inj.1
  rw [alpha_fin ⟨d, h⟩]
theorem app_one (l : List UInt8) (c : UInt8) : (⟨l.toArray⟩ : ByteArray) ++ ⟨[c].toArray⟩ = ⟨(l ++ [c]).toArray⟩ := by
  apply ByteArray.ext
  rw [ByteArray.data_append]
  simp
theorem dtext_len (b : Nat) : ∀ f x, (dtext b f x).length ≤ f
  | 0, _ => by simp [dtext]
  | f + 1, x => by
    rw [dtext]
    split
    · simp
    · have := dtext_len b f (x / b)
      simp
      omega
theorem size_mk (l : List UInt8) : (⟨l.toArray⟩ : ByteArray).size = l.length := by
  show l.toArray.size = _
  simp
theorem text_step (b f x : Nat) (h : ¬ x < b) (hb : b ≤ 16) (hb2 : 2 ≤ b) : (⟨(dtext b f (x / b)).toArray⟩ : ByteArray) ++ (⟨#[48, 49, 50, 51, 52, 53, 54, 55, 56, 57, 97, 98, 99, 100, 101, 102]⟩ : ByteArray).extract (x % b) (x % b + 1) = ⟨(dtext b (f + 1) x).toArray⟩ := by
  have hm : x % b < b := Nat.mod_lt _ (by omega)
  rw [alpha_at _ (by omega), app_one, dtext, if_neg h]
theorem text_last (b f x : Nat) (h : x < b) (hb : b ≤ 16) : (⟨#[48, 49, 50, 51, 52, 53, 54, 55, 56, 57, 97, 98, 99, 100, 101, 102]⟩ : ByteArray).extract (x % b) (x % b + 1) = ⟨(dtext b (f + 1) x).toArray⟩ := by
  rw [Nat.mod_eq_of_lt h, alpha_at _ (by omega), dtext, if_pos h]
theorem dtext_dec : ∀ (f x : Nat), x < 10 ^ (f + 1) → dtext 10 (f + 1) x = Lib.decDigits x
  | 0, x, h => by
    have h10 : x < 10 := by simpa using h
    rw [dtext, if_pos h10, Lib.decDigits_one h10]
    unfold dch
    rw [if_pos h10]
  | f + 1, x, h => by
    by_cases h10 : x < 10
    · rw [dtext, if_pos h10, Lib.decDigits_one h10]
      unfold dch
      rw [if_pos h10]
    · rw [dtext, if_neg h10, dtext_dec f (x / 10) (by rw [Nat.pow_succ] at h; omega), Lib.decDigits.eq_def x, dif_neg h10]
      unfold dch
      rw [if_pos (by omega)]
theorem dtext_pos (b f x : Nat) : 0 < (dtext b (f + 1) x).length := by rw [dtext]; split <;> simp
/-- the digits of a number are read as that number -/
theorem pdig_dtext (b : Nat) (hb : b ≤ 16) (hb2 : 2 ≤ b) (s : ByteArray) : ∀ (f x : Nat), x < 18446744073709551616 → x < b ^ (f + 1) →
    (∀ i (h : i < (dtext b (f + 1) x).length), fB s i = ((dtext b (f + 1) x)[i]).toNat) → pdig b s (dtext b (f + 1) x).length = some x
  | 0, x, hx, h, hs => by
    have hxb : x < b := by simpa using h
    have e : dtext b (0 + 1) x = [dch x] := by rw [dtext, if_pos hxb]
    have h0 := hs 0 (by rw [e]; simp)
    simp only [e, List.getElem_cons_zero] at h0
    rw [e]
    have hd : dg (fB s 0) = x := by rw [h0]; exact dg_dch x (by omega)
    have := pdig_ok (base := b) (s := s) (k := 0) (v := 0) rfl (by rw [hd]; exact hxb) (by rw [hd]; omega)
    rw [hd] at this
    simpa using this
  | f + 1, x, hx, h, hs => by
    by_cases hxb : x < b
    · have e : dtext b (f + 1 + 1) x = [dch x] := by rw [dtext, if_pos hxb]
      have h0 := hs 0 (by rw [e]; simp)
      simp only [e, List.getElem_cons_zero] at h0
      rw [e]
      have hd : dg (fB s 0) = x := by rw [h0]; exact dg_dch x (by omega)
      have := pdig_ok (base := b) (s := s) (k := 0) (v := 0) rfl (by rw [hd]; exact hxb) (by rw [hd]; omega)
      rw [hd] at this
      simpa using this
    · have e : dtext b (f + 1 + 1) x = dtext b (f + 1) (x / b) ++ [dch (x % b)] := by rw [dtext, if_neg hxb]
      have hm : x % b < b := Nat.mod_lt _ (by omega)
      have ih := pdig_dtext b hb hb2 s f (x / b) (Nat.lt_of_le_of_lt (Nat.div_le_self _ _) hx) (by
        rw [Nat.pow_succ] at h; exact Nat.div_lt_of_lt_mul (by rw [Nat.mul_comm]; exact h)) (fun i hi => by
        have := hs i (by rw [e]; simp; omega)
        rw [this]
        simp only [e, List.getElem_append_left hi])
      have hl := hs (dtext b (f + 1) (x / b)).length (by rw [e]; simp)
      simp only [e, List.getElem_concat_length] at hl
      have hd : dg (fB s (dtext b (f + 1) (x / b)).length) = x % b := by rw [hl]; exact dg_dch _ (by omega)
      have hdm : x / b * b + x % b = x := by rw [Nat.mul_comm]; exact Nat.div_add_mod x b
      have := pdig_ok (base := b) ih (by rw [hd]; exact hm) (by rw [hd, hdm]; exact hx)
      rw [hd, hdm] at this
      rw [e]
      simpa using this
end Go.Proofs.YtooaafbdjnlmfaaDoor
