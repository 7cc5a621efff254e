/- The call 'awake' of the statements. -/
import Derived.Test.YtpedollliahldaaDoorPf
import Derived.Test.YtpedollliahldaaDoorLw
namespace Go.Proofs.YtpedollliahldaaDoor
open Go.RowKit
set_option linter.unusedVariables false
set_option linter.unusedSimpArgs false
set_option maxRecDepth 100000
def awS1 : St := storeS zeroS 4 1
def awS2 : St := storeS awS1 8192 2
def awS3 : St := lineS awS2 1 true
theorem awS1_ok : awS1.Ok := storeS_ok zeroS_ok _ _
theorem awS2_ok : awS2.Ok := storeS_ok awS1_ok _ _
theorem awS3_ok : awS3.Ok := lineS_ok awS2_ok _ _ (by decide)
theorem aw_lines : linesN awS3 = 2048 := by decide +kernel
theorem aw_first : firstN awS3 0 = 1 := by decide +kernel
theorem aw_lines2 : linesN (takeS awS3 0) = 0 := by decide +kernel
theorem In.trans {t : TypeId} {w V V' : World} {b : Nat} {C D : Array Value} (h : In t w b C V) (hx : Box t V' b D) (hu : Upon b V V') : In t w b D V' := ⟨hx, h.2.trans hu⟩
/-- a state of its own, and the table -/
def Aw (w V : World) (S : St) : Prop := Box 28 V w.heap.size (progC S) ∧ Below w.heap.size w V ∧ TabLies V
theorem Aw.upon {w V V' : World} {S S2 : St} (h : Aw w V S) (hx : Box 28 V' w.heap.size (progC S2)) (hu : Upon w.heap.size V V') (h0 : TabLies w) : Aw w V' S2 := ⟨hx, h.2.1.trans (hu.below (Nat.le_refl _) h.2.1.size), h.2.2.upon hu (by have := h0.lt; omega)⟩
theorem Aw.step {w V V' : World} {S : St} (h : Aw w V S) (hb : Below V.heap.size V V') : Aw w V' S := ⟨h.1.step hb, below2 h.2.1 hb, h.2.2.step hb⟩
theorem awake_any (w : World) (ht : TabLies w) : Calls Tryd.prog 7 #[] w fun e w' => e = .returned (.bool true) ∧ Below w.heap.size w w' := by
  have H0 : Hid (TabLies w) := ht
  have X0 : Hid (Aw w (w.alloc (.cells (progC zeroS) 28)) zeroS) := ⟨Box.new 28 w _, (Below.refl _ _).alloc (Nat.le_refl _) _, ht.step ((Below.refl _ _).alloc (Nat.le_refl _) _)⟩
  clear ht
  go_enter Tryd.func7, Tryd.ntmps7
  go_upto_region 1 with fail
  refine wp_region_list ?_
  refine wpList_alloc_zero 28 (progC zeroS) 39 infoz28 rfl rfl ?_
  generalize w.alloc (.cells (progC zeroS) 28) = W at *
  go_wp2_with fail
  refine (store_any w.heap.size 4 4 1 (by decide) zeroS zeroS_ok (by decide) (by decide) _ X0.out.1).mono ?_
  rintro e w1 ⟨rfl, hB, hU⟩
  have X1 : Hid (Aw w w1 awS1) := X0.out.upon hB hU H0.out
  clear hB hU X0
  go_wp2_with fail
  refine (store_any w.heap.size 8192 4 2 (by decide) awS1 awS1_ok (by decide) (by decide) _ X1.out.1).mono ?_
  rintro e w2 ⟨rfl, hB, hU⟩
  have X2 : Hid (Aw w w2 awS2) := X1.out.upon hB hU H0.out
  clear hB hU X1
  go_wp2_with fail
  refine (line_any w.heap.size 1 true (by decide) (by decide) awS2 awS2_ok _ X2.out.1).mono ?_
  rintro e w3 ⟨rfl, hB, hU⟩
  have X3 : Hid (Aw w w3 awS3) := X2.out.upon hB hU H0.out
  clear hB hU X2
  go_wp2_with fail
  have hl := lines_any w.heap.size awS3 awS3_ok _ X3.out.1 X3.out.2.2
  rw [aw_lines] at hl
  refine hl.mono ?_
  clear hl
  rintro e w4 ⟨rfl, hb⟩
  have X4 : Hid (Aw w w4 awS3) := X3.out.step hb
  clear hb X3
  go_wp2_with fail
  have hl := take_any w.heap.size 0 (by decide) awS3 awS3_ok _ X4.out.1 X4.out.2.2
  rw [aw_first] at hl
  refine hl.mono ?_
  clear hl
  rintro e w5 ⟨rfl, hB, hU⟩
  have X5 : Hid (Aw w w5 (takeS awS3 0)) := X4.out.upon hB hU H0.out
  clear hB hU X4
  go_wp2_with fail
  have hl := lines_any w.heap.size _ (takeS_ok awS3_ok 0) _ X5.out.1 X5.out.2.2
  rw [aw_lines2] at hl
  refine hl.mono ?_
  clear hl
  rintro e w6 ⟨rfl, hb⟩
  have X6 : Hid (Aw w w6 (takeS awS3 0)) := X5.out.step hb
  clear hb X5
  go_wp2_with fail
  go_ret
  exact ⟨rfl, X6.out.2.1⟩
end Go.Proofs.YtpedollliahldaaDoor
