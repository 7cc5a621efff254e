/- The calls partText and writeParts of layer 4. -/
import Derived.Test.YtooaafbdjnlmfaaDoorShape
import Derived.Test.YtooaafbdjnlmfaaDoorBuild
namespace Go.Proofs.YtooaafbdjnlmfaaDoor
open Go.RowKit
set_option linter.unusedVariables false
set_option linter.unusedSimpArgs false
/-- the parts are such as an instruction that is right has -/
structure Fits (rd rs1 rs2 imm csr : Int) : Prop where
  d : 0 ≤ rd ∧ rd ≤ 31
  a : 0 ≤ rs1 ∧ rs1 ≤ 31
  b : 0 ≤ rs2 ∧ rs2 ≤ 31
  n : -2147483648 ≤ imm ∧ imm ≤ 2147483647
  c : 0 ≤ csr ∧ csr ≤ 4095
/-- a part's text -/
def partL (rd rs1 rs2 imm csr : Int) (c : UInt8) : List UInt8 :=
  if c = 100 then regL rd else if c = 97 then regL rs1 else if c = 98 then regL rs2 else if c = 110 then Lib.itoa imm else if c = 117 then Lib.itoa (imm.tdiv 4096) else if c = 99 then hexL csr.toNat else [c]
def WLie (w : World) : Prop := TabsLie w
theorem tdiv_bounds (imm : Int) (h : -2147483648 ≤ imm ∧ imm ≤ 2147483647) : -9223372036854775808 ≤ imm.tdiv 4096 ∧ imm.tdiv 4096 ≤ 9223372036854775807 := by
  have h1 := Int.natAbs_tdiv imm 4096
  have h2 : imm.natAbs.div (Int.natAbs 4096) ≤ imm.natAbs := Nat.div_le_self _ _
  rw [← h1] at h2
  omega
theorem below_call {wr X w4 : World} (h : Below wr.heap.size wr X) (hb : Below X.heap.size X w4) : Below wr.heap.size wr w4 := h.trans (hb.mono h.size)
set_option maxRecDepth 100000 in
theorem part_100 (op rd rs1 rs2 imm csr : Int) (aq rl : Bool) (hf : Fits rd rs1 rs2 imm csr) (w : World) (ht : TabsLie w) : Calls Tryd.prog 32 #[.int .u8 100, .agg (instrC op rd rs1 rs2 imm csr aq rl)] w fun e w' => e = .returned (.string (mk (partL rd rs1 rs2 imm csr 100))) ∧ Below w.heap.size w w' := by
  have B : Hid (Below w.heap.size w (w.alloc (.cells (instrC op rd rs1 rs2 imm csr aq rl) 23))) := (Below.refl _ _).alloc (Nat.le_refl _) _
  have T1 : Hid (TabsLie (w.alloc (.cells (instrC op rd rs1 rs2 imm csr aq rl) 23))) := tabs_below ht B.out
  have hc : Calls Tryd.prog 52 #[.int .i64 rd] (w.alloc (.cells (instrC op rd rs1 rs2 imm csr aq rl) 23)) fun e w' => e = .returned (.string (mk (regL rd))) ∧ Below (w.alloc (.cells (instrC op rd rs1 rs2 imm csr aq rl) 23)).heap.size (w.alloc (.cells (instrC op rd rs1 rs2 imm csr aq rl) 23)) w' := reg_any rd (by have := hf.d; omega) (by have := hf.d; omega) _ T1.out
  clear ht
  go_enter Tryd.func32, Tryd.ntmps32
  go_wp2_with (go_at_call 52; refine hc.mono ?_; rintro e w' ⟨rfl, hb⟩)
  go_ret
  exact ⟨rfl, below_call B.out hb⟩
set_option maxRecDepth 100000 in
theorem part_97 (op rd rs1 rs2 imm csr : Int) (aq rl : Bool) (hf : Fits rd rs1 rs2 imm csr) (w : World) (ht : TabsLie w) : Calls Tryd.prog 32 #[.int .u8 97, .agg (instrC op rd rs1 rs2 imm csr aq rl)] w fun e w' => e = .returned (.string (mk (partL rd rs1 rs2 imm csr 97))) ∧ Below w.heap.size w w' := by
  have B : Hid (Below w.heap.size w (w.alloc (.cells (instrC op rd rs1 rs2 imm csr aq rl) 23))) := (Below.refl _ _).alloc (Nat.le_refl _) _
  have T1 : Hid (TabsLie (w.alloc (.cells (instrC op rd rs1 rs2 imm csr aq rl) 23))) := tabs_below ht B.out
  have hc : Calls Tryd.prog 52 #[.int .i64 rs1] (w.alloc (.cells (instrC op rd rs1 rs2 imm csr aq rl) 23)) fun e w' => e = .returned (.string (mk (regL rs1))) ∧ Below (w.alloc (.cells (instrC op rd rs1 rs2 imm csr aq rl) 23)).heap.size (w.alloc (.cells (instrC op rd rs1 rs2 imm csr aq rl) 23)) w' := reg_any rs1 (by have := hf.a; omega) (by have := hf.a; omega) _ T1.out
  clear ht
  go_enter Tryd.func32, Tryd.ntmps32
  go_wp2_with (go_at_call 52; refine hc.mono ?_; rintro e w' ⟨rfl, hb⟩)
  go_ret
  exact ⟨rfl, below_call B.out hb⟩
set_option maxRecDepth 100000 in
theorem part_98 (op rd rs1 rs2 imm csr : Int) (aq rl : Bool) (hf : Fits rd rs1 rs2 imm csr) (w : World) (ht : TabsLie w) : Calls Tryd.prog 32 #[.int .u8 98, .agg (instrC op rd rs1 rs2 imm csr aq rl)] w fun e w' => e = .returned (.string (mk (partL rd rs1 rs2 imm csr 98))) ∧ Below w.heap.size w w' := by
  have B : Hid (Below w.heap.size w (w.alloc (.cells (instrC op rd rs1 rs2 imm csr aq rl) 23))) := (Below.refl _ _).alloc (Nat.le_refl _) _
  have T1 : Hid (TabsLie (w.alloc (.cells (instrC op rd rs1 rs2 imm csr aq rl) 23))) := tabs_below ht B.out
  have hc : Calls Tryd.prog 52 #[.int .i64 rs2] (w.alloc (.cells (instrC op rd rs1 rs2 imm csr aq rl) 23)) fun e w' => e = .returned (.string (mk (regL rs2))) ∧ Below (w.alloc (.cells (instrC op rd rs1 rs2 imm csr aq rl) 23)).heap.size (w.alloc (.cells (instrC op rd rs1 rs2 imm csr aq rl) 23)) w' := reg_any rs2 (by have := hf.b; omega) (by have := hf.b; omega) _ T1.out
  clear ht
  go_enter Tryd.func32, Tryd.ntmps32
  go_wp2_with (go_at_call 52; refine hc.mono ?_; rintro e w' ⟨rfl, hb⟩)
  go_ret
  exact ⟨rfl, below_call B.out hb⟩
set_option maxRecDepth 100000 in
theorem part_110 (op rd rs1 rs2 imm csr : Int) (aq rl : Bool) (hf : Fits rd rs1 rs2 imm csr) (w : World) (ht : TabsLie w) : Calls Tryd.prog 32 #[.int .u8 110, .agg (instrC op rd rs1 rs2 imm csr aq rl)] w fun e w' => e = .returned (.string (mk (partL rd rs1 rs2 imm csr 110))) ∧ Below w.heap.size w w' := by
  have B : Hid (Below w.heap.size w (w.alloc (.cells (instrC op rd rs1 rs2 imm csr aq rl) 23))) := (Below.refl _ _).alloc (Nat.le_refl _) _
  have T1 : Hid (TabsLie (w.alloc (.cells (instrC op rd rs1 rs2 imm csr aq rl) 23))) := tabs_below ht B.out
  have hc : Calls Tryd.prog 53 #[.int .i64 imm] (w.alloc (.cells (instrC op rd rs1 rs2 imm csr aq rl) 23)) fun e w' => e = .returned (.string (decS imm)) ∧ Below (w.alloc (.cells (instrC op rd rs1 rs2 imm csr aq rl) 23)).heap.size (w.alloc (.cells (instrC op rd rs1 rs2 imm csr aq rl) 23)) w' := dec_any imm (by have := hf.n; omega) (by have := hf.n; omega) _ T1.out.pow
  clear ht
  go_enter Tryd.func32, Tryd.ntmps32
  go_wp2_with (go_at_call 53; refine hc.mono ?_; rintro e w' ⟨rfl, hb⟩)
  go_ret
  exact ⟨rfl, below_call B.out hb⟩
set_option maxRecDepth 100000 in
theorem part_117 (op rd rs1 rs2 imm csr : Int) (aq rl : Bool) (hf : Fits rd rs1 rs2 imm csr) (w : World) (ht : TabsLie w) : Calls Tryd.prog 32 #[.int .u8 117, .agg (instrC op rd rs1 rs2 imm csr aq rl)] w fun e w' => e = .returned (.string (mk (partL rd rs1 rs2 imm csr 117))) ∧ Below w.heap.size w w' := by
  have B : Hid (Below w.heap.size w (w.alloc (.cells (instrC op rd rs1 rs2 imm csr aq rl) 23))) := (Below.refl _ _).alloc (Nat.le_refl _) _
  have T1 : Hid (TabsLie (w.alloc (.cells (instrC op rd rs1 rs2 imm csr aq rl) 23))) := tabs_below ht B.out
  have hq := tdiv_bounds imm hf.n
  have hc : Calls Tryd.prog 53 #[.int .i64 (imm.tdiv 4096)] (w.alloc (.cells (instrC op rd rs1 rs2 imm csr aq rl) 23)) fun e w' => e = .returned (.string (decS (imm.tdiv 4096))) ∧ Below (w.alloc (.cells (instrC op rd rs1 rs2 imm csr aq rl) 23)).heap.size (w.alloc (.cells (instrC op rd rs1 rs2 imm csr aq rl) 23)) w' := dec_any (imm.tdiv 4096) hq.1 hq.2 _ T1.out.pow
  have hn := hf.n
  clear ht
  go_enter Tryd.func32, Tryd.ntmps32
  go_wp2_with (go_at_call 53; refine hc.mono ?_; rintro e w' ⟨rfl, hb⟩)
  go_ret
  exact ⟨rfl, below_call B.out hb⟩
set_option maxRecDepth 100000 in
theorem part_99 (op rd rs1 rs2 imm csr : Int) (aq rl : Bool) (hf : Fits rd rs1 rs2 imm csr) (w : World) (ht : TabsLie w) : Calls Tryd.prog 32 #[.int .u8 99, .agg (instrC op rd rs1 rs2 imm csr aq rl)] w fun e w' => e = .returned (.string (mk (partL rd rs1 rs2 imm csr 99))) ∧ Below w.heap.size w w' := by
  have B : Hid (Below w.heap.size w (w.alloc (.cells (instrC op rd rs1 rs2 imm csr aq rl) 23))) := (Below.refl _ _).alloc (Nat.le_refl _) _
  have T1 : Hid (TabsLie (w.alloc (.cells (instrC op rd rs1 rs2 imm csr aq rl) 23))) := tabs_below ht B.out
  obtain ⟨x, rfl⟩ : ∃ x : Nat, csr = x := ⟨csr.toNat, by have := hf.c; omega⟩
  have hc : Calls Tryd.prog 54 #[.int .u64 (x : Int)] (w.alloc (.cells (instrC op rd rs1 rs2 imm x aq rl) 23)) fun e w' => e = .returned (.string (hexS x)) ∧ Below (w.alloc (.cells (instrC op rd rs1 rs2 imm x aq rl) 23)).heap.size (w.alloc (.cells (instrC op rd rs1 rs2 imm x aq rl) 23)) w' := hex_any x (by have := hf.c; omega) _ T1.out.low
  have hx : x ≤ 4095 := by have := hf.c; omega
  have HE : Hid (hexS x = mk (hexL x)) := hexS_mk x
  clear ht
  go_enter Tryd.func32, Tryd.ntmps32
  go_wp2_with (go_at_call 54; refine hc.mono ?_; rintro e w' ⟨rfl, hb⟩)
  go_ret
  exact ⟨by rw [HE.out]; rfl, below_call B.out hb⟩
set_option maxRecDepth 100000 in
theorem part_44 (op rd rs1 rs2 imm csr : Int) (aq rl : Bool) (hf : Fits rd rs1 rs2 imm csr) (w : World) (ht : TabsLie w) : Calls Tryd.prog 32 #[.int .u8 44, .agg (instrC op rd rs1 rs2 imm csr aq rl)] w fun e w' => e = .returned (.string (mk (partL rd rs1 rs2 imm csr 44))) ∧ Below w.heap.size w w' := by
  have B : Hid (Below w.heap.size w (w.alloc (.cells (instrC op rd rs1 rs2 imm csr aq rl) 23))) := (Below.refl _ _).alloc (Nat.le_refl _) _
  clear ht
  go_enter Tryd.func32, Tryd.ntmps32
  go_wp2
  go_ret
  exact ⟨rfl, B.out⟩
set_option maxRecDepth 100000 in
theorem part_40 (op rd rs1 rs2 imm csr : Int) (aq rl : Bool) (hf : Fits rd rs1 rs2 imm csr) (w : World) (ht : TabsLie w) : Calls Tryd.prog 32 #[.int .u8 40, .agg (instrC op rd rs1 rs2 imm csr aq rl)] w fun e w' => e = .returned (.string (mk (partL rd rs1 rs2 imm csr 40))) ∧ Below w.heap.size w w' := by
  have B : Hid (Below w.heap.size w (w.alloc (.cells (instrC op rd rs1 rs2 imm csr aq rl) 23))) := (Below.refl _ _).alloc (Nat.le_refl _) _
  clear ht
  go_enter Tryd.func32, Tryd.ntmps32
  go_wp2
  go_ret
  exact ⟨rfl, B.out⟩
set_option maxRecDepth 100000 in
theorem part_41 (op rd rs1 rs2 imm csr : Int) (aq rl : Bool) (hf : Fits rd rs1 rs2 imm csr) (w : World) (ht : TabsLie w) : Calls Tryd.prog 32 #[.int .u8 41, .agg (instrC op rd rs1 rs2 imm csr aq rl)] w fun e w' => e = .returned (.string (mk (partL rd rs1 rs2 imm csr 41))) ∧ Below w.heap.size w w' := by
  have B : Hid (Below w.heap.size w (w.alloc (.cells (instrC op rd rs1 rs2 imm csr aq rl) 23))) := (Below.refl _ _).alloc (Nat.le_refl _) _
  clear ht
  go_enter Tryd.func32, Tryd.ntmps32
  go_wp2
  go_ret
  exact ⟨rfl, B.out⟩
end Go.Proofs.YtooaafbdjnlmfaaDoor
