/- The program's calls partsFit and Right of layer 3: may an instruction be, by its operation and its parts? -/
import Derived.Test.YtooaafbdjnlmfaaGreatDoorQBits
import Derived.WalkSmall
namespace Go.Proofs.YtooaafbdjnlmfaaGreatDoor
open Go.RowKit
set_option linter.unusedVariables false
set_option linter.unusedSimpArgs false
/-- an instruction's cells -/
abbrev instrC (op rd rs1 rs2 imm csr : Int) (aq rl : Bool) : Array Value := #[.int .i64 op, .int .i64 rd, .int .i64 rs1, .int .i64 rs2, .int .i64 imm, .int .i64 csr, .bool aq, .bool rl]
def amongB (n m : Int) : Bool := decide (0 ≤ n ∧ n ≤ m)
theorem among_any (n m : Int) (b : Bool) (h : amongB n m = b) (w : World) : Calls Tryz.prog 97 #[.int .i64 n, .int .i64 m] w fun e w' => e = .returned (.bool b) ∧ w' = w := by
  unfold amongB at h
  by_cases hc : 0 ≤ n ∧ n ≤ m
  · rw [decide_eq_true hc] at h
    subst h
    exact among_yes n m hc.1 hc.2 w
  · rw [decide_eq_false hc] at h
    subst h
    exact among_no n m hc w
theorem among_hid (n m : Int) (b : Bool) (h : Hid (amongB n m = b)) (w : World) : Calls Tryz.prog 97 #[.int .i64 n, .int .i64 m] w fun e w' => e = .returned (.bool b) ∧ w' = w := among_any n m b h.out w
/-- the greatest value of a part, the part told by an integer -/
def mostI (f : Nat) (p last : Int) : Int := mostN f p.toNat last
theorem most_int (f : Nat) (p last : Int) (hf : f < 17) (h0 : 0 ≤ p) (h1 : p < 256) (w : World) (ht : Tabs w) : Calls Tryz.prog 93 #[.int .u8 (f : Nat), .int .u8 p, .int .i64 last] w fun e w' => e = .returned (.int .i64 (mostI f p last)) ∧ w' = w := by
  obtain ⟨q, rfl⟩ : ∃ q : Nat, p = q := ⟨p.toNat, by omega⟩
  exact most_any f q last hf (by omega) w ht
/-- are the parts beside the number such as the form has? -/
def partsB (f : Nat) (rd rs1 rs2 csr : Int) (aq rl : Bool) : Bool := amongB rd (mostI f 1 31) && (amongB rs1 (mostI f 2 31) && (amongB rs2 (mostI f 4 31) && (amongB csr (mostI f 8 4095) && (decide (partsT.getD f 0 &&& 16 ≠ 0) || (!aq && !rl)))))
set_option maxRecDepth 100000 in
set_option maxHeartbeats 1000000 in
theorem fit_no0 (f : Nat) (op rd rs1 rs2 imm csr : Int) (aq rl : Bool) (hf : f < 17) (w : World) (ht : Tabs w) (h0 : amongB rd (mostI f 1 31) = false) :
    Calls Tryz.prog 56 #[.int .u8 (f : Nat), .agg (instrC op rd rs1 rs2 imm csr aq rl)] w fun e w' => e = .returned (.bool false) ∧ Below w.heap.size w w' := by
  have T : Hid (Tabs (w.alloc (.cells (instrC op rd rs1 rs2 imm csr aq rl) 23))) := ht.below ((Below.refl _ _).alloc (Nat.le_refl _) _)
  clear ht
  have H0 : Hid _ := h0
  clear h0
  go_enter Tryz.func56, Tryz.ntmps56
  go_wp2
  go_quiet (first | (go_at_call 93; exact Calls.quiet_of_same (most_int _ _ _ hf (by decide) (by decide) _ T.out)) | (go_at_call 97; exact Calls.quiet_of_same (among_hid _ _ _ (by assumption) _)))
  go_wp2
  go_ret
  exact ⟨by first | rfl | simp, below_drewN ((Below.refl _ _).alloc (Nat.le_refl _) _) _⟩
set_option maxRecDepth 100000 in
set_option maxHeartbeats 1000000 in
theorem fit_no1 (f : Nat) (op rd rs1 rs2 imm csr : Int) (aq rl : Bool) (hf : f < 17) (w : World) (ht : Tabs w) (h0 : amongB rd (mostI f 1 31) = true) (h1 : amongB rs1 (mostI f 2 31) = false) :
    Calls Tryz.prog 56 #[.int .u8 (f : Nat), .agg (instrC op rd rs1 rs2 imm csr aq rl)] w fun e w' => e = .returned (.bool false) ∧ Below w.heap.size w w' := by
  have T : Hid (Tabs (w.alloc (.cells (instrC op rd rs1 rs2 imm csr aq rl) 23))) := ht.below ((Below.refl _ _).alloc (Nat.le_refl _) _)
  clear ht
  have H0 : Hid _ := h0
  have H1 : Hid _ := h1
  clear h0 h1
  go_enter Tryz.func56, Tryz.ntmps56
  go_wp2
  go_quiet (first | (go_at_call 93; exact Calls.quiet_of_same (most_int _ _ _ hf (by decide) (by decide) _ T.out)) | (go_at_call 97; exact Calls.quiet_of_same (among_hid _ _ _ (by assumption) _)))
  go_wp2
  go_ret
  exact ⟨by first | rfl | simp, below_drewN ((Below.refl _ _).alloc (Nat.le_refl _) _) _⟩
set_option maxRecDepth 100000 in
set_option maxHeartbeats 1000000 in
theorem fit_no2 (f : Nat) (op rd rs1 rs2 imm csr : Int) (aq rl : Bool) (hf : f < 17) (w : World) (ht : Tabs w) (h0 : amongB rd (mostI f 1 31) = true) (h1 : amongB rs1 (mostI f 2 31) = true) (h2 : amongB rs2 (mostI f 4 31) = false) :
    Calls Tryz.prog 56 #[.int .u8 (f : Nat), .agg (instrC op rd rs1 rs2 imm csr aq rl)] w fun e w' => e = .returned (.bool false) ∧ Below w.heap.size w w' := by
  have T : Hid (Tabs (w.alloc (.cells (instrC op rd rs1 rs2 imm csr aq rl) 23))) := ht.below ((Below.refl _ _).alloc (Nat.le_refl _) _)
  clear ht
  have H0 : Hid _ := h0
  have H1 : Hid _ := h1
  have H2 : Hid _ := h2
  clear h0 h1 h2
  go_enter Tryz.func56, Tryz.ntmps56
  go_wp2
  go_quiet (first | (go_at_call 93; exact Calls.quiet_of_same (most_int _ _ _ hf (by decide) (by decide) _ T.out)) | (go_at_call 97; exact Calls.quiet_of_same (among_hid _ _ _ (by assumption) _)))
  go_wp2
  go_ret
  exact ⟨by first | rfl | simp, below_drewN ((Below.refl _ _).alloc (Nat.le_refl _) _) _⟩
set_option maxRecDepth 100000 in
set_option maxHeartbeats 1000000 in
theorem fit_no3 (f : Nat) (op rd rs1 rs2 imm csr : Int) (aq rl : Bool) (hf : f < 17) (w : World) (ht : Tabs w) (h0 : amongB rd (mostI f 1 31) = true) (h1 : amongB rs1 (mostI f 2 31) = true) (h2 : amongB rs2 (mostI f 4 31) = true) (h3 : amongB csr (mostI f 8 4095) = false) :
    Calls Tryz.prog 56 #[.int .u8 (f : Nat), .agg (instrC op rd rs1 rs2 imm csr aq rl)] w fun e w' => e = .returned (.bool false) ∧ Below w.heap.size w w' := by
  have T : Hid (Tabs (w.alloc (.cells (instrC op rd rs1 rs2 imm csr aq rl) 23))) := ht.below ((Below.refl _ _).alloc (Nat.le_refl _) _)
  clear ht
  have H0 : Hid _ := h0
  have H1 : Hid _ := h1
  have H2 : Hid _ := h2
  have H3 : Hid _ := h3
  clear h0 h1 h2 h3
  go_enter Tryz.func56, Tryz.ntmps56
  go_wp2
  go_quiet (first | (go_at_call 93; exact Calls.quiet_of_same (most_int _ _ _ hf (by decide) (by decide) _ T.out)) | (go_at_call 97; exact Calls.quiet_of_same (among_hid _ _ _ (by assumption) _)))
  go_wp2
  go_ret
  exact ⟨by first | rfl | simp, below_drewN ((Below.refl _ _).alloc (Nat.le_refl _) _) _⟩
set_option maxRecDepth 100000 in
set_option maxHeartbeats 1000000 in
theorem fit_ord (f : Nat) (op rd rs1 rs2 imm csr : Int) (aq rl : Bool) (hf : f < 17) (w : World) (ht : Tabs w) (h0 : amongB rd (mostI f 1 31) = true) (h1 : amongB rs1 (mostI f 2 31) = true) (h2 : amongB rs2 (mostI f 4 31) = true) (h3 : amongB csr (mostI f 8 4095) = true) (hn : partsT.getD f 0 &&& 16 = 16) :
    Calls Tryz.prog 56 #[.int .u8 (f : Nat), .agg (instrC op rd rs1 rs2 imm csr aq rl)] w fun e w' => e = .returned (.bool true) ∧ Below w.heap.size w w' := by
  have T : Hid (Tabs (w.alloc (.cells (instrC op rd rs1 rs2 imm csr aq rl) 23))) := ht.below ((Below.refl _ _).alloc (Nat.le_refl _) _)
  have hp := T.out.2.2.2.1 f hf
  have hq := u8_and_nat (partsT.getD f 0) 16 (parts_lt f hf) (by omega)
  rw [show ((16 : Nat) : Int) = 16 from rfl] at hq
  rw [hn] at hq
  clear hn
  generalize ((partsT.getD f 0 : Nat) : Int) = pp at *
  clear ht
  have H0 : Hid _ := h0
  have H1 : Hid _ := h1
  have H2 : Hid _ := h2
  have H3 : Hid _ := h3
  clear h0 h1 h2 h3
  go_enter Tryz.func56, Tryz.ntmps56
  go_wp2
  go_quiet (first | (go_at_call 93; exact Calls.quiet_of_same (most_int _ _ _ hf (by decide) (by decide) _ T.out)) | (go_at_call 97; exact Calls.quiet_of_same (among_hid _ _ _ (by assumption) _)))
  go_wp2
  go_ret
  exact ⟨by first | rfl | simp, below_drewN ((Below.refl _ _).alloc (Nat.le_refl _) _) _⟩
set_option maxRecDepth 100000 in
set_option maxHeartbeats 1000000 in
theorem fit_aq (f : Nat) (op rd rs1 rs2 imm csr : Int) (rl : Bool) (hf : f < 17) (w : World) (ht : Tabs w) (h0 : amongB rd (mostI f 1 31) = true) (h1 : amongB rs1 (mostI f 2 31) = true) (h2 : amongB rs2 (mostI f 4 31) = true) (h3 : amongB csr (mostI f 8 4095) = true) (hn : partsT.getD f 0 &&& 16 = 0) :
    Calls Tryz.prog 56 #[.int .u8 (f : Nat), .agg (instrC op rd rs1 rs2 imm csr true rl)] w fun e w' => e = .returned (.bool false) ∧ Below w.heap.size w w' := by
  have T : Hid (Tabs (w.alloc (.cells (instrC op rd rs1 rs2 imm csr true rl) 23))) := ht.below ((Below.refl _ _).alloc (Nat.le_refl _) _)
  have hp := T.out.2.2.2.1 f hf
  have hq := u8_and_nat (partsT.getD f 0) 16 (parts_lt f hf) (by omega)
  rw [show ((16 : Nat) : Int) = 16 from rfl] at hq
  rw [hn] at hq
  clear hn
  generalize ((partsT.getD f 0 : Nat) : Int) = pp at *
  clear ht
  have H0 : Hid _ := h0
  have H1 : Hid _ := h1
  have H2 : Hid _ := h2
  have H3 : Hid _ := h3
  clear h0 h1 h2 h3
  go_enter Tryz.func56, Tryz.ntmps56
  go_wp2
  go_quiet (first | (go_at_call 93; exact Calls.quiet_of_same (most_int _ _ _ hf (by decide) (by decide) _ T.out)) | (go_at_call 97; exact Calls.quiet_of_same (among_hid _ _ _ (by assumption) _)))
  go_wp2
  go_ret
  exact ⟨by first | rfl | simp, below_drewN ((Below.refl _ _).alloc (Nat.le_refl _) _) _⟩
set_option maxRecDepth 100000 in
set_option maxHeartbeats 1000000 in
theorem fit_rl (f : Nat) (op rd rs1 rs2 imm csr : Int)  (hf : f < 17) (w : World) (ht : Tabs w) (h0 : amongB rd (mostI f 1 31) = true) (h1 : amongB rs1 (mostI f 2 31) = true) (h2 : amongB rs2 (mostI f 4 31) = true) (h3 : amongB csr (mostI f 8 4095) = true) (hn : partsT.getD f 0 &&& 16 = 0) :
    Calls Tryz.prog 56 #[.int .u8 (f : Nat), .agg (instrC op rd rs1 rs2 imm csr false true)] w fun e w' => e = .returned (.bool false) ∧ Below w.heap.size w w' := by
  have T : Hid (Tabs (w.alloc (.cells (instrC op rd rs1 rs2 imm csr false true) 23))) := ht.below ((Below.refl _ _).alloc (Nat.le_refl _) _)
  have hp := T.out.2.2.2.1 f hf
  have hq := u8_and_nat (partsT.getD f 0) 16 (parts_lt f hf) (by omega)
  rw [show ((16 : Nat) : Int) = 16 from rfl] at hq
  rw [hn] at hq
  clear hn
  generalize ((partsT.getD f 0 : Nat) : Int) = pp at *
  clear ht
  have H0 : Hid _ := h0
  have H1 : Hid _ := h1
  have H2 : Hid _ := h2
  have H3 : Hid _ := h3
  clear h0 h1 h2 h3
  go_enter Tryz.func56, Tryz.ntmps56
  go_wp2
  go_quiet (first | (go_at_call 93; exact Calls.quiet_of_same (most_int _ _ _ hf (by decide) (by decide) _ T.out)) | (go_at_call 97; exact Calls.quiet_of_same (among_hid _ _ _ (by assumption) _)))
  go_wp2
  go_ret
  exact ⟨by first | rfl | simp, below_drewN ((Below.refl _ _).alloc (Nat.le_refl _) _) _⟩
set_option maxRecDepth 100000 in
set_option maxHeartbeats 1000000 in
theorem fit_plain (f : Nat) (op rd rs1 rs2 imm csr : Int)  (hf : f < 17) (w : World) (ht : Tabs w) (h0 : amongB rd (mostI f 1 31) = true) (h1 : amongB rs1 (mostI f 2 31) = true) (h2 : amongB rs2 (mostI f 4 31) = true) (h3 : amongB csr (mostI f 8 4095) = true) (hn : partsT.getD f 0 &&& 16 = 0) :
    Calls Tryz.prog 56 #[.int .u8 (f : Nat), .agg (instrC op rd rs1 rs2 imm csr false false)] w fun e w' => e = .returned (.bool true) ∧ Below w.heap.size w w' := by
  have T : Hid (Tabs (w.alloc (.cells (instrC op rd rs1 rs2 imm csr false false) 23))) := ht.below ((Below.refl _ _).alloc (Nat.le_refl _) _)
  have hp := T.out.2.2.2.1 f hf
  have hq := u8_and_nat (partsT.getD f 0) 16 (parts_lt f hf) (by omega)
  rw [show ((16 : Nat) : Int) = 16 from rfl] at hq
  rw [hn] at hq
  clear hn
  generalize ((partsT.getD f 0 : Nat) : Int) = pp at *
  clear ht
  have H0 : Hid _ := h0
  have H1 : Hid _ := h1
  have H2 : Hid _ := h2
  have H3 : Hid _ := h3
  clear h0 h1 h2 h3
  go_enter Tryz.func56, Tryz.ntmps56
  go_wp2
  go_quiet (first | (go_at_call 93; exact Calls.quiet_of_same (most_int _ _ _ hf (by decide) (by decide) _ T.out)) | (go_at_call 97; exact Calls.quiet_of_same (among_hid _ _ _ (by assumption) _)))
  go_wp2
  go_ret
  exact ⟨by first | rfl | simp, below_drewN ((Below.refl _ _).alloc (Nat.le_refl _) _) _⟩
theorem parts16 : ∀ f, f < 17 → partsT.getD f 0 &&& 16 = 0 ∨ partsT.getD f 0 &&& 16 = 16 := by decide
theorem fit_any (f : Nat) (op rd rs1 rs2 imm csr : Int) (aq rl : Bool) (hf : f < 17) (w : World) (ht : Tabs w) :
    Calls Tryz.prog 56 #[.int .u8 (f : Nat), .agg (instrC op rd rs1 rs2 imm csr aq rl)] w fun e w' => e = .returned (.bool (partsB f rd rs1 rs2 csr aq rl)) ∧ Below w.heap.size w w' := by
  unfold partsB
  cases h0 : amongB rd (mostI f 1 31)
  · exact fit_no0 f op rd rs1 rs2 imm csr aq rl hf w ht h0
  cases h1 : amongB rs1 (mostI f 2 31)
  · exact fit_no1 f op rd rs1 rs2 imm csr aq rl hf w ht h0 h1
  cases h2 : amongB rs2 (mostI f 4 31)
  · exact fit_no2 f op rd rs1 rs2 imm csr aq rl hf w ht h0 h1 h2
  cases h3 : amongB csr (mostI f 8 4095)
  · exact fit_no3 f op rd rs1 rs2 imm csr aq rl hf w ht h0 h1 h2 h3
  by_cases hn : partsT.getD f 0 &&& 16 = 0
  · rw [decide_eq_false (by simpa using hn)]
    cases aq
    · cases rl
      · exact fit_plain f op rd rs1 rs2 imm csr hf w ht h0 h1 h2 h3 hn
      · exact fit_rl f op rd rs1 rs2 imm csr hf w ht h0 h1 h2 h3 hn
    · exact fit_aq f op rd rs1 rs2 imm csr rl hf w ht h0 h1 h2 h3 hn
  · rw [decide_eq_true hn]
    exact fit_ord f op rd rs1 rs2 imm csr aq rl hf w ht h0 h1 h2 h3 ((parts16 f hf).resolve_left hn)
end Go.Proofs.YtooaafbdjnlmfaaGreatDoor
