/- The program's call hides of layer 8. -/
import Derived.Test.YtebdlefdkadhnaaDoorAw
import Derived.Test.YtebdlefdkadhnaaDoorLa
namespace Go.Proofs.YtebdlefdkadhnaaDoor
open Go.RowKit Go.Maps
set_option linter.unusedVariables false
set_option linter.unusedSimpArgs false
set_option maxRecDepth 100000
/-- one bit of a word -/
def bitB (x : Nat) (j : Int) : Bool := ((getN x j 1 : Int) == 1)
/-- is a counter kept from the program that runs? -/
def hidesB (m : Int) (K : Nat → Nat) (j : Int) : Bool := (decide (m < 3) && !bitB (K 7) j) || (decide (m = 0) && !bitB (K 13) j)
set_option maxHeartbeats 2000000 in
theorem hides_any (m : Int) (K : Nat → Nat) (j : Int) (b : Nat) (hm : m = 0 ∨ m = 1 ∨ m = 3) (hK : Ok K) (w : World) (hB : Box 29 w b (fileC m K)) : Calls Tryd.prog 33 #[.pointer (some ⟨b, 0, none⟩), .int .i64 j] w fun e w' => e = .returned (.bool (hidesB m K j)) ∧ Below w.heap.size w w' := by
  have HB : Hid (Box 29 w b (fileC m K)) := hB
  have h7 : ∀ V, Calls Tryd.prog 45 #[.int .u64 (K 7 : Nat), .int .i64 j] V fun e w' => e = .returned (.bool (bitB (K 7) j)) ∧ Below V.heap.size V w' := fun V => bit_all (K 7) j (hK _) V V (Below.refl _ _)
  have h13 : ∀ V, Calls Tryd.prog 45 #[.int .u64 (K 13 : Nat), .int .i64 j] V fun e w' => e = .returned (.bool (bitB (K 13) j)) ∧ Below V.heap.size V w' := fun V => bit_all (K 13) j (hK _) V V (Below.refl _ _)
  unfold hidesB
  generalize bitB (K 7) j = b7 at *
  generalize bitB (K 13) j = b13 at *
  have c0 : w.cell? ⟨b, 0, none⟩ = some (.int .i64 m) := hB.cell 0 _ rfl
  have c7 : w.cell? ⟨b, 8, none⟩ = some (.int .u64 (K 7 : Nat)) := hB.cell 8 _ rfl
  clear hB hK
  rcases hm with rfl | rfl | rfl
  · go_enter Tryd.func33, Tryd.ntmps33
    go_wp2_with fail
    refine (h7 _).mono ?_
    rintro e w1 ⟨rfl, hb1⟩
    have X1 : Hid (Below w.heap.size w w1) := hb1
    have d0 : w1.cell? ⟨b, 0, none⟩ = some (.int .i64 0) := (HB.out.step X1.out).cell 0 _ rfl
    have d13 : w1.cell? ⟨b, 14, none⟩ = some (.int .u64 (K 13 : Nat)) := (HB.out.step X1.out).cell 14 _ rfl
    clear hb1 c0 c7
    cases b7
    · go_wp2_with fail
      go_ret
      exact ⟨ret_bool (by first | rfl | simp), X1.out⟩
    · go_wp2_with fail
      refine (h13 _).mono ?_
      rintro e w2 ⟨rfl, hb2⟩
      go_wp2_with fail
      go_ret
      exact ⟨ret_bool (by cases b13 <;> first | rfl | simp), X1.out.trans (hb2.mono X1.out.size)⟩
  · go_enter Tryd.func33, Tryd.ntmps33
    go_wp2_with fail
    refine (h7 _).mono ?_
    rintro e w1 ⟨rfl, hb1⟩
    have X1 : Hid (Below w.heap.size w w1) := hb1
    have d0 : w1.cell? ⟨b, 0, none⟩ = some (.int .i64 1) := (HB.out.step X1.out).cell 0 _ rfl
    clear hb1 c0 c7
    cases b7
    all_goals
      go_wp2_with fail
      go_ret
      exact ⟨ret_bool (by first | rfl | simp), X1.out⟩
  · go_enter Tryd.func33, Tryd.ntmps33
    go_wp2_with fail
    go_ret
    exact ⟨ret_bool (by first | rfl | simp), Below.refl _ _⟩
end Go.Proofs.YtebdlefdkadhnaaDoor
