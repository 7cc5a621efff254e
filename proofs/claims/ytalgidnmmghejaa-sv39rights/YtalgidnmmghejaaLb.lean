/- The small calls of the statements of layer 10: way, right, is. -/
import Derived.Test.YtalgidnmmghejaaMm
namespace Go.Proofs.Ytalgidnmmghejaa
open Go.RowKit Go.Maps
set_option linter.unusedVariables false
set_option linter.unusedSimpArgs false
set_option maxRecDepth 100000
theorem way_any (satp : Nat) (kind mode : Int) (sum mxr : Bool) (W w : World) (hb : Below W.heap.size W w) : Calls Try.prog 13 #[.agg #[.int .u64 (satp : Nat), .int .i64 kind, .int .i64 mode, .bool sum, .bool mxr]] w fun e w' => e = .returned (.agg #[.int .u64 (satp : Nat), .int .i64 kind, .int .i64 mode, .bool sum, .bool mxr]) ∧ Below W.heap.size W w' := by
  go_enter Try.func13, Try.ntmps13
  go_wp2_with fail
  refine bodyPost_ret (v := .agg #[.int .u64 (satp : Nat), .int .i64 kind, .int .i64 mode, .bool sum, .bool mxr]) (by simp [results, Try.results13, go_sem]) rfl ⟨rfl, ?_⟩
  exact (hb.alloc hb.size _).alloc (hb.alloc hb.size _).size _
def rightM (mode : Int) : Bool := (mode == 0) || (mode == 1) || (mode == 3)
theorem right_any (satp : Nat) (kind mode : Int) (sum mxr : Bool) (W w : World) (hb : Below W.heap.size W w) : Calls Try.prog 10 #[.agg #[.int .u64 (satp : Nat), .int .i64 kind, .int .i64 mode, .bool sum, .bool mxr]] w fun e w' => e = .returned (.bool (rightM mode)) ∧ Below W.heap.size W w' := by
  unfold rightM
  have hb0 := hb.alloc hb.size (.cells #[.int .u64 (satp : Nat), .int .i64 kind, .int .i64 mode, .bool sum, .bool mxr] 25)
  by_cases m0 : mode = 0
  · have b0 : (mode == 0) = true := by simp [m0]
    rw [b0]
    clear m0
    go_enter Try.func10, Try.ntmps10
    go_wp2_with fail
    go_ret
    exact ⟨by simp, by assumption⟩
  have b0 : (mode == 0) = false := by simp [m0]
  rw [b0]
  by_cases m1 : mode = 1
  · have b1 : (mode == 1) = true := by simp [m1]
    rw [b1]
    clear m0 m1
    go_enter Try.func10, Try.ntmps10
    go_wp2_with fail
    go_ret
    exact ⟨by simp, by assumption⟩
  have b1 : (mode == 1) = false := by simp [m1]
  rw [b1]
  clear m0 m1
  go_enter Try.func10, Try.ntmps10
  go_wp2_with fail
  go_ret
  exact ⟨by simp, by assumption⟩
theorem same_any (r : Res) (W w : World) (hb : Below W.heap.size W w) : Calls Try.prog 11 #[.agg (resC r), .agg (resC r)] w fun e w' => e = .returned (.bool true) ∧ Below W.heap.size W w' := by
  obtain ⟨r0, r1, r2, r3⟩ := r
  show Calls Try.prog 11 #[.agg #[.int .u64 (r0 : Nat), .bool r1, .bool r2, .int .i64 (r3 : Nat)], .agg #[.int .u64 (r0 : Nat), .bool r1, .bool r2, .int .i64 (r3 : Nat)]] w fun e w' => e = .returned (.bool true) ∧ Below W.heap.size W w'
  have e0 : ((r0 : Int) == (r0 : Int)) = true := by simp
  have e1 : (r1 == r1) = true := by simp
  have e2 : (r2 == r2) = true := by simp
  have e3 : ((r3 : Int) == (r3 : Int)) = true := by simp
  go_enter Try.func11, Try.ntmps11
  go_wp2_with fail
  go_ret
  exact ⟨by simp, (hb.alloc hb.size _).alloc (hb.alloc hb.size _).size _⟩
/-- the way's box, the document's memory in a box, both memories -/
def Sta (w V : World) (bb rb : Nat) (satp : Nat) (kind mode : Int) (sum mxr : Bool) (a : Option Addr) (n c : Nat) (F : Nat → Prop) (M : Nat → Nat) : Prop := At 25 w V #[.int .u64 (satp : Nat), .int .i64 kind, .int .i64 mode, .bool sum, .bool mxr] ∧ V.heap[bb]? = some (.cells #[.int .u64 32768, .slice a n c] 30 (0, 0)) ∧ Both F V rb 32768 (.slice a n c) 480 M
theorem Sta.step {w V V' : World} {bb rb satp : Nat} {kind mode : Int} {sum mxr : Bool} {a : Option Addr} {n c : Nat} {F : Nat → Prop} {M : Nat → Nat} (h : Sta w V bb rb satp kind mode sum mxr a n c F M) (hb : Below V.heap.size V V') : Sta w V' bb rb satp kind mode sum mxr a n c F M := ⟨h.1.step hb, below_box h.2.1 hb, h.2.2.below hb⟩
end Go.Proofs.Ytalgidnmmghejaa
