/- The program's call Right of layer 3: may an instruction be? -/
import Derived.Test.YtooaafbdjnlmfaaDoorFit
namespace Go.Proofs.YtooaafbdjnlmfaaDoor
open Go.RowKit
set_option linter.unusedVariables false
set_option linter.unusedSimpArgs false
/-- may an instruction be? -/
def rightB (op rd rs1 rs2 imm csr : Int) (aq rl : Bool) : Bool := decide (formI op ≠ 0) && (partsB (formI op) rd rs1 rs2 csr aq rl && immB (formI op) imm)
theorem forms_lt : ∀ i, i < 99 → formsT.getD i 0 < 17 := by decide
theorem formI_lt (op : Int) : formI op < 17 := by
  unfold formI
  split
  · exact forms_lt _ (by omega)
  · omega
theorem below_box {w w2 : World} {b : Nat} {o : Obj} (h : w.heap[b]? = some o) (hb : Below w.heap.size w w2) : w2.heap[b]? = some o := (hb.block b (Array.getElem?_eq_some_iff.1 h).1).trans h
theorem box8_facts {w : World} {b : Nat} {x0 x1 x2 x3 x4 x5 x6 x7 : Value} {t : TypeId} (h : w.heap[b]? = some (.cells #[x0, x1, x2, x3, x4, x5, x6, x7] t (0, 0))) :
    w.cell? ⟨b, 0, none⟩ = some x0 ∧ w.cell? ⟨b, 1, none⟩ = some x1 ∧ w.cell? ⟨b, 2, none⟩ = some x2 ∧ w.cell? ⟨b, 3, none⟩ = some x3 ∧ w.cell? ⟨b, 4, none⟩ = some x4 ∧ w.cell? ⟨b, 5, none⟩ = some x5 ∧ w.cell? ⟨b, 6, none⟩ = some x6 ∧ w.cell? ⟨b, 7, none⟩ = some x7 := by
  refine ⟨?_, ?_, ?_, ?_, ?_, ?_, ?_, ?_⟩ <;> (simp only [World.cell?, h]; rfl)
/-- what Right tells -/
def rightE (op rd rs1 rs2 imm csr : Int) (aq rl : Bool) : Int := if rightB op rd rs1 rs2 imm csr aq rl = true then 0 else 30
theorem rightE_no {op rd rs1 rs2 imm csr : Int} {aq rl : Bool} (h : rightB op rd rs1 rs2 imm csr aq rl = false) : rightE op rd rs1 rs2 imm csr aq rl = 30 := by unfold rightE; rw [h]; rfl
theorem rightE_yes {op rd rs1 rs2 imm csr : Int} {aq rl : Bool} (h : rightB op rd rs1 rs2 imm csr aq rl = true) : rightE op rd rs1 rs2 imm csr aq rl = 0 := by unfold rightE; rw [h]; rfl
set_option maxRecDepth 100000 in
set_option maxHeartbeats 1000000 in
theorem right_any (op rd rs1 rs2 imm csr : Int) (aq rl : Bool) (w : World) (ht : Tabs w) :
    Calls Tryd.prog 8 #[.agg (instrC op rd rs1 rs2 imm csr aq rl)] w fun e w' => e = .returned (.int .i64 (rightE op rd rs1 rs2 imm csr aq rl)) ∧ Below w.heap.size w w' := by
  have hf := formI_lt op
  have hfo := form_any op
  have hR : rightB op rd rs1 rs2 imm csr aq rl = (decide (formI op ≠ 0) && (partsB (formI op) rd rs1 rs2 csr aq rl && immB (formI op) imm)) := rfl
  have T : Hid (Tabs (w.alloc (.cells (instrC op rd rs1 rs2 imm csr aq rl) 23))) := ht.below ((Below.refl _ _).alloc (Nat.le_refl _) _)
  have B : Hid (_ ∧ _) := ⟨(Below.refl w.heap.size w).alloc (Nat.le_refl _) (.cells (instrC op rd rs1 rs2 imm csr aq rl) 23), heap_alloc_new w (.cells (instrC op rd rs1 rs2 imm csr aq rl) 23)⟩
  generalize formI op = f at *
  clear ht
  by_cases h0 : f = 0
  · subst h0
    rw [rightE_no (by rw [hR]; rfl)]
    clear hR
    go_enter Tryd.func8, Tryd.ntmps8
    go_wp2_with (first | (go_at_call 24; refine (hfo _ T.out).mono ?_; rintro e w' ⟨rfl, hw⟩; rw [hw]; clear hw))
    go_ret
    exact ⟨rfl, B.out.1⟩
  have hz : (((f : Nat) : Int) == 0) = false := by simpa using h0
  cases hp : partsB f rd rs1 rs2 csr aq rl
  · rw [rightE_no (by rw [hR, hp]; simp)]
    clear hR
    go_enter Tryd.func8, Tryd.ntmps8
    go_wp2_with (first | (go_at_call 24; refine (hfo _ T.out).mono ?_; rintro e w' ⟨rfl, hw⟩; rw [hw]; clear hw) | (go_at_call 25; refine (fit_any f op rd rs1 rs2 imm csr aq rl hf _ T.out).mono ?_; rw [hp]; rintro e w1 ⟨rfl, hb1⟩))
    go_ret
    exact ⟨rfl, B.out.1.trans (hb1.mono (by simp))⟩
  cases hi : immB f imm
  · rw [rightE_no (by rw [hR, hp, hi]; simp)]
    clear hR
    go_enter Tryd.func8, Tryd.ntmps8
    go_wp2_with (first | (go_at_call 24; refine (hfo _ T.out).mono ?_; rintro e w' ⟨rfl, hw⟩; rw [hw]; clear hw) | (go_at_call 25; refine (fit_any f op rd rs1 rs2 imm csr aq rl hf _ T.out).mono ?_; rw [hp]; rintro e w1 ⟨rfl, hb1⟩; have hq := box8_facts (below_box B.out.2 hb1); have hc4 := hq.2.2.2.2.1; clear hq; have B1 : Hid _ := hb1; clear hb1) | (go_at_call 26; refine (immfits_any f imm hf _).mono ?_; rw [hi]; rintro e w' ⟨rfl, hw⟩; rw [hw]; clear hw))
    go_ret
    exact ⟨rfl, B.out.1.trans (B1.out.mono (by simp))⟩
  · rw [rightE_yes (by rw [hR, hp, hi]; simp [h0])]
    clear hR
    go_enter Tryd.func8, Tryd.ntmps8
    go_wp2_with (first | (go_at_call 24; refine (hfo _ T.out).mono ?_; rintro e w' ⟨rfl, hw⟩; rw [hw]; clear hw) | (go_at_call 25; refine (fit_any f op rd rs1 rs2 imm csr aq rl hf _ T.out).mono ?_; rw [hp]; rintro e w1 ⟨rfl, hb1⟩; have hq := box8_facts (below_box B.out.2 hb1); have hc4 := hq.2.2.2.2.1; clear hq; have B1 : Hid _ := hb1; clear hb1) | (go_at_call 26; refine (immfits_any f imm hf _).mono ?_; rw [hi]; rintro e w' ⟨rfl, hw⟩; rw [hw]; clear hw))
    go_ret
    exact ⟨rfl, B.out.1.trans (B1.out.mono (by simp))⟩
end Go.Proofs.YtooaafbdjnlmfaaDoor
