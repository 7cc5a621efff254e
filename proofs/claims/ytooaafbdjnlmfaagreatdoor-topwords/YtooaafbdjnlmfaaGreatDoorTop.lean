/- The statement of the whole on instructions returns true for every row of words. -/
import Derived.Test.YtooaafbdjnlmfaaGreatDoorTopA
import Derived.Deep.DeepCutAuto
import Derived.Deep.CutBlock
namespace Go.Proofs.YtooaafbdjnlmfaaGreatDoor
open Go.RowKit
set_option linter.unusedVariables false
set_option linter.unusedSimpArgs false
theorem print_five (w : World) (hL : Laid w) : Calls Tryz.prog 9 #[.agg #[.int .i64 22, .int .i64 1, .int .i64 0, .int .i64 0, .int .i64 5, .int .i64 0, .bool false, .bool false]] w fun r w' => r = .returned (.string ⟨#[97, 100, 100, 105, 32, 120, 49, 44, 120, 48, 44, 53]⟩) ∧ Below w.heap.size w w' := by
  have h := print_yes 22 1 0 0 5 0 false false (by decide +kernel) w hL.tabs hL.names hL.lie
  have e : printL 22 1 0 0 5 0 false false = [97, 100, 100, 105, 32, 120, 49, 44, 120, 48, 44, 53] := by decide +kernel
  rw [e] at h
  exact h
theorem print_zero (w : World) (hL : Laid w) : Calls Tryz.prog 9 #[.agg #[.int .i64 0, .int .i64 0, .int .i64 0, .int .i64 0, .int .i64 0, .int .i64 0, .bool false, .bool false]] w fun r w' => r = .returned (.string ⟨#[]⟩) ∧ Below w.heap.size w w' :=
  print_no 0 0 0 0 0 0 false false (by decide +kernel) w hL.tabs
theorem right_zero (w : World) (hL : Laid w) : Calls Tryz.prog 24 #[.agg #[.int .i64 0, .int .i64 0, .int .i64 0, .int .i64 0, .int .i64 0, .int .i64 0, .bool false, .bool false]] w fun r w' => r = .returned (.int .i64 30) ∧ Below w.heap.size w w' := by
  have h := right_any 0 0 0 0 0 0 false false w hL.tabs
  rw [rightE_no (by decide +kernel)] at h
  exact h
set_option maxRecDepth 100000 in
set_option maxHeartbeats 4000000 in
theorem tops_core {W0 : World} (a : Option Addr) (len cap : Nat) (zs : List Int) (hz : IsRow .u32 W0 a len cap zs) (W : World) (hW : W = W0) (hT : TabsD W ∧ Laid W) : Calls Tryz.prog 7 #[.slice a len cap] W fun e w' => e = .returned (.bool true) ∧ Below W.heap.size W w' := by
  subst hW
  obtain ⟨f, hf, hrow⟩ := isRow_words hz
  have HT : Hid (∀ V, Below W.heap.size W V → TabsD V ∧ Laid V) := fun V hV => ⟨hT.1.below hV, hT.2.below hV⟩
  have H1 : Hid (∀ V, Below W.heap.size W V → Calls Tryz.prog 23 #[.int .u32 5243027] V fun r w' => r = .returned (.tuple #[.agg #[.int .i64 22, .int .i64 1, .int .i64 0, .int .i64 0, .int .i64 5, .int .i64 0, .bool false, .bool false], .int .i64 0]) ∧ Below V.heap.size V w') := fun V hV => five_row V (HT.out V hV).1
  have H2 : Hid (∀ V, Below W.heap.size W V → Calls Tryz.prog 9 #[.agg #[.int .i64 22, .int .i64 1, .int .i64 0, .int .i64 0, .int .i64 5, .int .i64 0, .bool false, .bool false]] V fun r w' => r = .returned (.string ⟨#[97, 100, 100, 105, 32, 120, 49, 44, 120, 48, 44, 53]⟩) ∧ Below V.heap.size V w') := fun V hV => print_five V (HT.out V hV).2
  have HR : Hid (len = 0 ∨ ∃ b off, a = some ⟨b, off, none⟩ ∧ ∀ i, i < len → W.cell? ⟨b, off + i, none⟩ = some (.int .u32 (f i : Nat))) := hrow
  clear hT hz hrow
  go_enter Tryz.func7, Tryz.ntmps7
  go_wp2_with fail
  refine (H1.out _ (Below.refl _ _)).mono ?_
  rintro e w1 ⟨rfl, hb1⟩
  have B1 : Hid (Below W.heap.size W w1) := hb1
  clear hb1
  go_upto_region 2 with fail
  have B2 : Hid (Below W.heap.size W (w1.alloc (.cells #[.int .i64 22, .int .i64 1, .int .i64 0, .int .i64 0, .int .i64 5, .int .i64 0, .bool false, .bool false] 23))) := B1.out.alloc B1.out.size _
  have X2 : Hid ((w1.alloc (.cells #[.int .i64 22, .int .i64 1, .int .i64 0, .int .i64 0, .int .i64 5, .int .i64 0, .bool false, .bool false] 23)).heap[w1.heap.size]? = some (.cells #[.int .i64 22, .int .i64 1, .int .i64 0, .int .i64 0, .int .i64 5, .int .i64 0, .bool false, .bool false] 23 (0, 0))) := heap_alloc_new w1 _
  generalize w1.alloc (.cells #[.int .i64 22, .int .i64 1, .int .i64 0, .int .i64 0, .int .i64 5, .int .i64 0, .bool false, .bool false] 23) = V2 at *
  generalize w1.heap.size = g1 at *
  clear B1
  obtain ⟨q0, q1, q2, q3, q4, q5, q6, q7⟩ := box8_facts X2.out
  go_wp2_with fail
  refine (H2.out _ B2.out).mono ?_
  rintro e w3 ⟨rfl, hb3⟩
  have B3 : Hid (Below W.heap.size W w3) := below_call B2.out hb3
  clear hb3 q0 q1 q2 q3 q4 q5 q6 q7 X2 B2
  by_cases hlen : (100 : Int) < len
  · go_wp2_with fail
    go_ret
    exact ⟨rfl, B3.out⟩
  go_wp2_with fail
  go_loopw [5, 6, 7, 8, 9, 10, 11] (fun i s6 s7 s8 s9 s10 s11 wr => ∃ k : Nat, k ≤ len ∧ i = .int .i64 k ∧ Below W.heap.size W wr) (fun i _ _ _ _ _ _ _ => len - (intOf i).toNat)
  case atStart => exact ⟨0, by omega, rfl, B3.out⟩
  case round =>
    obtain ⟨k, hk, rfl, hbr⟩ := hrel
    clear B3
    have BR : Hid (Below W.heap.size W wr) := hbr
    clear hbr
    by_cases hlt : k < len
    · have hlt1 : (k : Int) < len := by omega
      obtain ⟨b, off, rfl, hcell⟩ : ∃ b off, a = some ⟨b, off, none⟩ ∧ ∀ i, i < len → W.cell? ⟨b, off + i, none⟩ = some (.int .u32 (f i : Nat)) := by
        rcases HR.out with h | h
        · omega
        · exact h
      have HC : Hid (∀ V, Below W.heap.size W V → V.cell? ⟨b, off + k, none⟩ = some (.int .u32 (f k : Nat))) := fun V hV => by
        rw [hV.cell (p := ⟨b, off + k, none⟩) (block_lt_of_cell (hcell k hlt))]; exact hcell k hlt
      have hc := HC.out _ BR.out
      clear hcell
      obtain ⟨y, ee, hdec, hcall⟩ := decode_any (f k) (hf k)
      have HD : Hid (∀ V, Below W.heap.size W V → Calls Tryz.prog 23 #[.int .u32 (f k : Nat)] V fun r w' => r = .returned (.tuple #[.agg #[.int .i64 y.op, .int .i64 y.rd, .int .i64 y.rs1, .int .i64 y.rs2, .int .i64 y.imm, .int .i64 y.csr, .bool y.aq, .bool y.rl], .int .i64 ee]) ∧ Below V.heap.size V w') := fun V hV => hcall V (HT.out V hV).1
      clear hcall
      generalize f k = x at *
      go_wp2_with fail
      refine (HD.out _ BR.out).mono ?_
      rintro e w4 ⟨rfl, hb4⟩
      have B4 : Hid (Below W.heap.size W w4) := below_call BR.out hb4
      clear hb4 hc HD
      go_upto_region 10 with fail
      have B5 : Hid (Below W.heap.size W (w4.alloc (.cells #[.int .i64 y.op, .int .i64 y.rd, .int .i64 y.rs1, .int .i64 y.rs2, .int .i64 y.imm, .int .i64 y.csr, .bool y.aq, .bool y.rl] 23))) := B4.out.alloc B4.out.size _
      have X5 : Hid ((w4.alloc (.cells #[.int .i64 y.op, .int .i64 y.rd, .int .i64 y.rs1, .int .i64 y.rs2, .int .i64 y.imm, .int .i64 y.csr, .bool y.aq, .bool y.rl] 23)).heap[w4.heap.size]? = some (.cells #[.int .i64 y.op, .int .i64 y.rd, .int .i64 y.rs1, .int .i64 y.rs2, .int .i64 y.imm, .int .i64 y.csr, .bool y.aq, .bool y.rl] 23 (0, 0))) := heap_alloc_new w4 _
      generalize w4.alloc (.cells #[.int .i64 y.op, .int .i64 y.rd, .int .i64 y.rs1, .int .i64 y.rs2, .int .i64 y.imm, .int .i64 y.csr, .bool y.aq, .bool y.rl] 23) = V5 at *
      generalize w4.heap.size = g4 at *
      clear B4
      obtain ⟨q0, q1, q2, q3, q4, q5, q6, q7⟩ := box8_facts X5.out
      cases hdec with
      | no =>
        have HP : Hid (∀ V, Below W.heap.size W V → Calls Tryz.prog 9 #[.agg #[.int .i64 Ins.zero.op, .int .i64 Ins.zero.rd, .int .i64 Ins.zero.rs1, .int .i64 Ins.zero.rs2, .int .i64 Ins.zero.imm, .int .i64 Ins.zero.csr, .bool Ins.zero.aq, .bool Ins.zero.rl]] V fun r w' => r = .returned (.string ⟨#[]⟩) ∧ Below V.heap.size V w') := fun V hV => print_zero V (HT.out V hV).2
        have HG : Hid (∀ V, Below W.heap.size W V → Calls Tryz.prog 24 #[.agg #[.int .i64 Ins.zero.op, .int .i64 Ins.zero.rd, .int .i64 Ins.zero.rs1, .int .i64 Ins.zero.rs2, .int .i64 Ins.zero.imm, .int .i64 Ins.zero.csr, .bool Ins.zero.aq, .bool Ins.zero.rl]] V fun r w' => r = .returned (.int .i64 30) ∧ Below V.heap.size V w') := fun V hV => right_zero V (HT.out V hV).2
        generalize Ins.zero = y at *
        go_wp2_with fail
        refine (HP.out _ B5.out).mono ?_
        rintro e w6 ⟨rfl, hb6⟩
        have B6 : Hid (Below W.heap.size W w6) := below_call B5.out hb6
        have X6 : Hid (w6.heap[g4]? = some (.cells #[.int .i64 y.op, .int .i64 y.rd, .int .i64 y.rs1, .int .i64 y.rs2, .int .i64 y.imm, .int .i64 y.csr, .bool y.aq, .bool y.rl] 23 (0, 0))) := below_box8 X5.out hb6
        clear hb6 q0 q1 q2 q3 q4 q5 q6 q7
        obtain ⟨q0, q1, q2, q3, q4, q5, q6, q7⟩ := box8_facts X6.out
        go_wp2_with fail
        refine (HG.out _ B6.out).mono ?_
        rintro e w7 ⟨rfl, hb7⟩
        have B7 : Hid (Below W.heap.size W w7) := below_call B6.out hb7
        clear hb7 q0 q1 q2 q3 q4 q5 q6 q7
        go_wp2_with fail
        go_roundw
        case rel => exact ⟨k + 1, by omega, by go_num, B7.out⟩
        case measure => simp [intOf]; omega
      | yes _ hr hb he =>
        have HP : Hid (∀ V, Below W.heap.size W V → Calls Tryz.prog 9 #[.agg #[.int .i64 y.op, .int .i64 y.rd, .int .i64 y.rs1, .int .i64 y.rs2, .int .i64 y.imm, .int .i64 y.csr, .bool y.aq, .bool y.rl]] V fun r w' => r = .returned (.string (mk (printL y.op y.rd y.rs1 y.rs2 y.imm y.csr y.aq y.rl))) ∧ Below V.heap.size V w') := fun V hV => print_row y hr V (HT.out V hV).2
        have HQ : Hid (∀ V, Below W.heap.size W V → Calls Tryz.prog 13 #[.string (mk (printL y.op y.rd y.rs1 y.rs2 y.imm y.csr y.aq y.rl))] V fun r w' => r = .returned (.tuple #[.agg #[.int .i64 y.op, .int .i64 y.rd, .int .i64 y.rs1, .int .i64 y.rs2, .int .i64 y.imm, .int .i64 y.csr, .bool y.aq, .bool y.rl], .int .i64 0]) ∧ Below V.heap.size V w') := fun V hV => parse_row y hr V (HT.out V hV).2
        have HE : Hid (∀ V, Below W.heap.size W V → Calls Tryz.prog 25 #[.agg #[.int .i64 y.op, .int .i64 y.rd, .int .i64 y.rs1, .int .i64 y.rs2, .int .i64 y.imm, .int .i64 y.csr, .bool y.aq, .bool y.rl]] V fun r w' => r = .returned (.tuple #[.int .u32 (x : Nat), .int .i64 0]) ∧ Below V.heap.size V w') := fun V hV => encode_row y x hr hb he V (HT.out V hV).1.2
        clear hr hb he
        generalize mk (printL y.op y.rd y.rs1 y.rs2 y.imm y.csr y.aq y.rl) = pt at *
        go_wp2_with fail
        refine (HP.out _ B5.out).mono ?_
        rintro e w6 ⟨rfl, hb6⟩
        have B6 : Hid (Below W.heap.size W w6) := below_call B5.out hb6
        have X6 : Hid (w6.heap[g4]? = some (.cells #[.int .i64 y.op, .int .i64 y.rd, .int .i64 y.rs1, .int .i64 y.rs2, .int .i64 y.imm, .int .i64 y.csr, .bool y.aq, .bool y.rl] 23 (0, 0))) := below_box8 X5.out hb6
        clear hb6 q0 q1 q2 q3 q4 q5 q6 q7 X5 B5
        go_wp2_with fail
        refine (HQ.out _ B6.out).mono ?_
        rintro e w7 ⟨rfl, hb7⟩
        have B7 : Hid (Below W.heap.size W w7) := below_call B6.out hb7
        have X7 : Hid (w7.heap[g4]? = some (.cells #[.int .i64 y.op, .int .i64 y.rd, .int .i64 y.rs1, .int .i64 y.rs2, .int .i64 y.imm, .int .i64 y.csr, .bool y.aq, .bool y.rl] 23 (0, 0))) := below_box8 X6.out hb7
        have l7 : g4 < w7.heap.size := (Array.getElem?_eq_some_iff.1 X7.out).1
        clear hb7 X6 B6
        go_upto_region 14 with fail
        have B8 : Hid (Below W.heap.size W (w7.alloc (.cells #[.int .i64 y.op, .int .i64 y.rd, .int .i64 y.rs1, .int .i64 y.rs2, .int .i64 y.imm, .int .i64 y.csr, .bool y.aq, .bool y.rl] 23))) := B7.out.alloc B7.out.size _
        have X8 : Hid ((w7.alloc (.cells #[.int .i64 y.op, .int .i64 y.rd, .int .i64 y.rs1, .int .i64 y.rs2, .int .i64 y.imm, .int .i64 y.csr, .bool y.aq, .bool y.rl] 23)).heap[g4]? = some (.cells #[.int .i64 y.op, .int .i64 y.rd, .int .i64 y.rs1, .int .i64 y.rs2, .int .i64 y.imm, .int .i64 y.csr, .bool y.aq, .bool y.rl] 23 (0, 0))) := below_box8 X7.out ((Below.refl _ _).alloc (Nat.le_refl _) _)
        have Y8 : Hid ((w7.alloc (.cells #[.int .i64 y.op, .int .i64 y.rd, .int .i64 y.rs1, .int .i64 y.rs2, .int .i64 y.imm, .int .i64 y.csr, .bool y.aq, .bool y.rl] 23)).heap[w7.heap.size]? = some (.cells #[.int .i64 y.op, .int .i64 y.rd, .int .i64 y.rs1, .int .i64 y.rs2, .int .i64 y.imm, .int .i64 y.csr, .bool y.aq, .bool y.rl] 23 (0, 0))) := heap_alloc_new w7 _
        generalize w7.alloc (.cells #[.int .i64 y.op, .int .i64 y.rd, .int .i64 y.rs1, .int .i64 y.rs2, .int .i64 y.imm, .int .i64 y.csr, .bool y.aq, .bool y.rl] 23) = V8 at *
        generalize w7.heap.size = g7 at *
        clear B7 X7
        obtain ⟨q0, q1, q2, q3, q4, q5, q6, q7⟩ := box8_facts Y8.out
        go_wp2_with fail
        refine (HE.out _ B8.out).mono ?_
        rintro e w9 ⟨rfl, hb9⟩
        have B9 : Hid (Below W.heap.size W w9) := below_call B8.out hb9
        have X9 : Hid (w9.heap[g4]? = some (.cells #[.int .i64 y.op, .int .i64 y.rd, .int .i64 y.rs1, .int .i64 y.rs2, .int .i64 y.imm, .int .i64 y.csr, .bool y.aq, .bool y.rl] 23 (0, 0))) := below_box8 X8.out hb9
        have Y9 : Hid (w9.heap[g7]? = some (.cells #[.int .i64 y.op, .int .i64 y.rd, .int .i64 y.rs1, .int .i64 y.rs2, .int .i64 y.imm, .int .i64 y.csr, .bool y.aq, .bool y.rl] 23 (0, 0))) := below_box8 Y8.out hb9
        clear hb9 q0 q1 q2 q3 q4 q5 q6 q7 X8 Y8 B8
        obtain ⟨q0, q1, q2, q3, q4, q5, q6, q7⟩ := box8_facts X9.out
        obtain ⟨r0, r1, r2, r3, r4, r5, r6, r7⟩ := box8_facts Y9.out
        have hc := HC.out _ B9.out
        go_wp2_with fail
        go_roundw
        case rel => exact ⟨k + 1, by omega, by go_num, B9.out⟩
        case measure => simp [intOf]; omega
    · obtain rfl : k = len := by omega
      go_wp2_with fail
      go_ret
      exact ⟨rfl, BR.out⟩
end Go.Proofs.YtooaafbdjnlmfaaGreatDoor
