/- The program's tables of layer 3 as lists of numbers; what its small calls come to: formOf, among, most, span and immFits. -/
import Derived.Test.YtooaafbdjnlmfaaDoorCode
namespace Go.Proofs.YtooaafbdjnlmfaaDoor
open Go.RowKit
set_option linter.unusedVariables false
set_option linter.unusedSimpArgs false
def wordsT : List Nat := [0, 55, 23, 111, 103, 99, 4195, 16483, 20579, 24675, 28771, 3, 4099, 8195, 12291, 16387, 20483, 24579, 35, 4131, 8227, 12323, 19, 8211, 12307, 16403, 24595, 28691, 4115, 20499, 1073762323, 51, 1073741875, 4147, 8243, 12339, 16435, 20531, 1073762355, 24627, 28723, 27, 4123, 20507, 1073762331, 59, 1073741883, 4155, 20539, 1073762363, 15, 4111, 115, 1048691, 4211, 8307, 12403, 20595, 24691, 28787, 33554483, 33558579, 33562675, 33566771, 33570867, 33574963, 33579059, 33583155, 33554491, 33570875, 33574971, 33579067, 33583163, 268443695, 402661423, 134225967, 8239, 536879151, 1610620975, 1073750063, 2147491887, 2684362799, 3221233711, 3758104623, 268447791, 402665519, 134230063, 12335, 536883247, 1610625071, 1073754159, 2147495983, 2684366895, 3221237807, 3758108719, 807403635, 270532723, 273678451, 301990003]
def formsT : List Nat := [0, 1, 1, 2, 3, 5, 5, 5, 5, 5, 5, 4, 4, 4, 4, 4, 4, 4, 6, 6, 6, 6, 3, 3, 3, 3, 3, 3, 7, 7, 7, 9, 9, 9, 9, 9, 9, 9, 9, 9, 9, 3, 8, 8, 8, 9, 9, 9, 9, 9, 10, 10, 11, 11, 12, 12, 12, 13, 13, 13, 9, 9, 9, 9, 9, 9, 9, 9, 9, 9, 9, 9, 9, 14, 15, 15, 15, 15, 15, 15, 15, 15, 15, 15, 14, 15, 15, 15, 15, 15, 15, 15, 15, 15, 15, 11, 11, 11, 16]
def fixedT : List Nat := [0, 127, 127, 28799, 28799, 28799, 28799, 4227887231, 4261441663, 4261441663, 28799, 4294967295, 28799, 28799, 4193284223, 4160778367, 4261445631]
def partsT : List Nat := [0, 1, 1, 3, 3, 6, 6, 3, 3, 7, 3, 0, 11, 9, 19, 23, 6]
/-- the forms and their parts lie where their variables are -/
def Tabs (w : World) : Prop := True ∧ (∀ i, i < 99 → w.cell? ⟨1, i, none⟩ = some (.int .u8 ((formsT.getD i 0 : Nat) : Int))) ∧ True ∧ (∀ i, i < 17 → w.cell? ⟨2, i, none⟩ = some (.int .u8 ((partsT.getD i 0 : Nat) : Int))) ∧ 5 ≤ w.heap.size
theorem Tabs.below {w w' : World} (h : Tabs w) (hb : Below w.heap.size w w') : Tabs w' :=
  ⟨trivial,
   fun i hi => by rw [hb.cell (p := ⟨1, i, none⟩) (show 1 < w.heap.size from by have := h.2.2.2.2; omega)]; exact h.2.1 i hi,
   trivial,
   fun i hi => by rw [hb.cell (p := ⟨2, i, none⟩) (show 2 < w.heap.size from by have := h.2.2.2.2; omega)]; exact h.2.2.2.1 i hi,
   Nat.le_trans h.2.2.2.2 hb.size⟩
/-- an operation's form; 0 of none -/
def formI (op : Int) : Nat := if 1 ≤ op ∧ op ≤ 98 then formsT.getD op.toNat 0 else 0
set_option maxRecDepth 100000 in
theorem form_any (op : Int) (w : World) (ht : Tabs w) : Calls Tryd.prog 24 #[.int .i64 op] w fun e w' => e = .returned (.int .u8 (formI op : Nat)) ∧ w' = w := by
  by_cases h1 : op < 1
  · rw [show formI op = 0 from by unfold formI; rw [if_neg (by omega)]]
    go_enter Tryd.func24, Tryd.ntmps24
    go_wp2
    go_ret
    exact ⟨rfl, rfl⟩
  by_cases h2 : 98 < op
  · rw [show formI op = 0 from by unfold formI; rw [if_neg (by omega)]]
    go_enter Tryd.func24, Tryd.ntmps24
    go_wp2
    go_ret
    exact ⟨rfl, rfl⟩
  obtain ⟨k, rfl⟩ : ∃ k : Nat, op = k := ⟨op.toNat, by omega⟩
  rw [show formI k = formsT.getD k 0 from by unfold formI; rw [if_pos (by omega), Int.toNat_natCast]]
  have hc := ht.2.1 k (by omega)
  clear ht
  generalize formsT.getD k 0 = f at *
  go_enter Tryd.func24, Tryd.ntmps24
  go_wp2
  go_ret
  exact ⟨rfl, rfl⟩
set_option maxRecDepth 100000 in
theorem among_yes (n m : Int) (h0 : 0 ≤ n) (h1 : n ≤ m) (w : World) : Calls Tryd.prog 48 #[.int .i64 n, .int .i64 m] w fun e w' => e = .returned (.bool true) ∧ w' = w := by
  go_enter Tryd.func48, Tryd.ntmps48
  go_wp2
  go_ret
  exact ⟨by first | (simp; done) | (simp; omega), rfl⟩
set_option maxRecDepth 100000 in
theorem among_no (n m : Int) (h : ¬ (0 ≤ n ∧ n ≤ m)) (w : World) : Calls Tryd.prog 48 #[.int .i64 n, .int .i64 m] w fun e w' => e = .returned (.bool false) ∧ w' = w := by
  by_cases h0 : 0 ≤ n
  · have h1 : m < n := by omega
    clear h
    go_enter Tryd.func48, Tryd.ntmps48
    go_wp2
    go_ret
    exact ⟨by first | (simp; done) | (simp; omega), rfl⟩
  · clear h
    go_enter Tryd.func48, Tryd.ntmps48
    go_wp2
    go_ret
    exact ⟨rfl, rfl⟩
/-- the greatest value of a part -/
def mostN (f p : Nat) (last : Int) : Int := if partsT.getD f 0 &&& p = 0 then 0 else last
theorem parts_lt : ∀ f, f < 17 → partsT.getD f 0 < 256 := by decide
set_option maxRecDepth 100000 in
theorem most_any (f p : Nat) (last : Int) (hf : f < 17) (hp : p < 256) (w : World) (ht : Tabs w) : Calls Tryd.prog 49 #[.int .u8 (f : Nat), .int .u8 (p : Nat), .int .i64 last] w fun e w' => e = .returned (.int .i64 (mostN f p last)) ∧ w' = w := by
  have hc := ht.2.2.2.1 f hf
  have hb := u8_and_nat (partsT.getD f 0) p (parts_lt f hf) hp
  unfold mostN
  generalize partsT.getD f 0 = q at *
  clear ht
  by_cases hz : q &&& p = 0
  · rw [if_pos hz]
    rw [hz] at hb
    clear hz
    go_enter Tryd.func49, Tryd.ntmps49
    go_wp2
    go_ret
    exact ⟨rfl, rfl⟩
  · rw [if_neg hz]
    have hz2 : (((q &&& p : Nat) : Int) == 0) = false := by simpa using hz
    clear hz
    generalize ((q &&& p : Nat) : Int) = z at *
    go_enter Tryd.func49, Tryd.ntmps49
    go_wp2
    go_ret
    exact ⟨rfl, rfl⟩
/-- the least and the greatest number of a form and what divides it -/
def spanN : Nat → Int × Int × Int
  | 1 => (-2147483648, 2147479552, 4096)
  | 2 => (-1048576, 1048574, 2)
  | 3 => (-2048, 2047, 1)
  | 4 => (-2048, 2047, 1)
  | 6 => (-2048, 2047, 1)
  | 5 => (-4096, 4094, 2)
  | 7 => (0, 63, 1)
  | 8 => (0, 31, 1)
  | 13 => (0, 31, 1)
  | 10 => (0, 4095, 1)
  | _ => (0, 0, 1)
set_option maxRecDepth 100000 in
theorem span_any (f : Nat) (hf : f < 17) (w : World) : Calls Tryd.prog 50 #[.int .u8 (f : Nat)] w fun e w' => e = .returned (.tuple #[.int .i64 (spanN f).1, .int .i64 (spanN f).2.1, .int .i64 (spanN f).2.2]) ∧ w' = w := by
  have h : f = 0 ∨ f = 1 ∨ f = 2 ∨ f = 3 ∨ f = 4 ∨ f = 5 ∨ f = 6 ∨ f = 7 ∨ f = 8 ∨ f = 9 ∨ f = 10 ∨ f = 11 ∨ f = 12 ∨ f = 13 ∨ f = 14 ∨ f = 15 ∨ f = 16 := by omega
  rcases h with rfl | rfl | rfl | rfl | rfl | rfl | rfl | rfl | rfl | rfl | rfl | rfl | rfl | rfl | rfl | rfl | rfl <;>
  (go_enter Tryd.func50, Tryd.ntmps50
   go_wp2
   go_ret3
   exact ⟨rfl, rfl⟩)
/-- is it a number such as the form has? -/
def immB (f : Nat) (imm : Int) : Bool := decide ((spanN f).1 ≤ imm ∧ imm ≤ (spanN f).2.1 ∧ imm % (spanN f).2.2 = 0)
theorem step_of (f : Nat) : (spanN f).2.2 = 1 ∨ (spanN f).2.2 = 2 ∨ (spanN f).2.2 = 4096 := by
  unfold spanN
  split <;> simp
theorem tmod_zero (n k : Int) : n.tmod k = 0 ↔ n % k = 0 := ⟨fun h => Int.emod_eq_zero_of_dvd (Int.dvd_of_tmod_eq_zero h), fun h => Int.tmod_eq_zero_of_dvd (Int.dvd_of_emod_eq_zero h)⟩
theorem tmod_beq (n k : Int) : (n.tmod k == 0) = decide (n % k = 0) := by rw [Bool.eq_iff_iff]; simp [tmod_zero]
set_option maxRecDepth 100000 in
theorem immfits_any (f : Nat) (imm : Int) (hf : f < 17) (w : World) : Calls Tryd.prog 26 #[.int .u8 (f : Nat), .int .i64 imm] w fun e w' => e = .returned (.bool (immB f imm)) ∧ w' = w := by
  have hs : ∀ w, Calls Tryd.prog 50 #[.int .u8 (f : Nat)] w fun e w' => e = .returned (.tuple #[.int .i64 (spanN f).1, .int .i64 (spanN f).2.1, .int .i64 (spanN f).2.2]) ∧ w' = w := fun w => span_any f hf w
  have h3 := step_of f
  unfold immB
  generalize (spanN f).1 = lo at *
  generalize (spanN f).2.1 = hi at *
  generalize (spanN f).2.2 = st at *
  clear hf
  by_cases h1 : lo ≤ imm
  · by_cases h2 : imm ≤ hi
    · rcases h3 with rfl | rfl | rfl <;>
      (go_enter Tryd.func26, Tryd.ntmps26
       go_wp2_with (first | (go_at_call 50; refine (hs _).mono ?_; rintro e w' ⟨rfl, rfl⟩))
       go_ret
       exact ⟨by simp [h1, h2, tmod_beq], rfl⟩)
    · rw [decide_eq_false (by omega)]
      go_enter Tryd.func26, Tryd.ntmps26
      go_wp2_with (first | (go_at_call 50; refine (hs _).mono ?_; rintro e w' ⟨rfl, rfl⟩))
      go_ret
      exact ⟨by simp, rfl⟩
  · rw [decide_eq_false (by omega)]
    go_enter Tryd.func26, Tryd.ntmps26
    go_wp2_with (first | (go_at_call 50; refine (hs _).mono ?_; rintro e w' ⟨rfl, rfl⟩))
    go_ret
    exact ⟨by simp, rfl⟩
end Go.Proofs.YtooaafbdjnlmfaaDoor
