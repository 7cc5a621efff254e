/- The call Print of layer 4. -/
import Derived.Test.YtooaafbdjnlmfaaDoorWrite
namespace Go.Proofs.YtooaafbdjnlmfaaDoor
open Go.RowKit
set_option linter.unusedVariables false
set_option linter.unusedSimpArgs false
theorem mostI_le (f : Nat) (p m : Int) (hm : 0 ≤ m) : mostI f p m ≤ m := by
  unfold mostI mostN; split <;> omega
theorem span_lo : ∀ f, f < 17 → -2147483648 ≤ (spanN f).1 ∧ (spanN f).2.1 ≤ 2147483647 := by decide
theorem fits_of (op rd rs1 rs2 imm csr : Int) (aq rl : Bool) (h : rightB op rd rs1 rs2 imm csr aq rl = true) : Fits rd rs1 rs2 imm csr ∧ 1 ≤ op ∧ op ≤ 98 := by
  unfold rightB partsB at h
  simp only [Bool.and_eq_true, decide_eq_true_eq, amongB, immB] at h
  obtain ⟨h0, ⟨h1, h2, h3, h4, _⟩, h5, h6, _⟩ := h
  have m1 := mostI_le (formI op) 1 31 (by omega)
  have m2 := mostI_le (formI op) 2 31 (by omega)
  have m3 := mostI_le (formI op) 4 31 (by omega)
  have m4 := mostI_le (formI op) 8 4095 (by omega)
  have hs := span_lo (formI op) (formI_lt op)
  refine ⟨⟨by omega, by omega, by omega, by omega, by omega⟩, ?_⟩
  by_cases hr : 1 ≤ op ∧ op ≤ 98
  · exact hr
  · exact absurd (formI_no op hr) h0
theorem mk_empty (l : List UInt8) : (mk l).toList.isEmpty = l.isEmpty := by rw [Lib.toList_data]; rfl
/-- an instruction's text -/
def printL (op rd rs1 rs2 imm csr : Int) (aq rl : Bool) : List UInt8 := dNames.getD (op.toNat - 1) [] ++ markL aq rl ++ if shapesT.getD op.toNat [] = [] then [] else 32 :: (shapesT.getD op.toNat []).flatMap (partL rd rs1 rs2 imm csr)
theorem shapes_letters : ((List.range 99).all fun k => (shapesT.getD k []).all fun c => letters.contains c) = true := by decide +kernel
theorem shape_ok (k : Nat) (h : k < 99) : (∀ c ∈ shapesT.getD k [], c ∈ letters) ∧ (shapesT.getD k []).length ≤ 10 := by
  have h1 := List.all_eq_true.1 shapes_letters k (List.mem_range.2 h)
  refine ⟨fun c hc => ?_, ?_⟩
  · have := List.all_eq_true.1 h1 c hc
    simpa using this
  · have : ((List.range 99).all fun k => decide ((shapesT.getD k []).length ≤ 10)) = true := by decide +kernel
    simpa using List.all_eq_true.1 this k (List.mem_range.2 h)
theorem name_len : ((List.range 98).all fun k => decide ((dNames.getD k []).length ≤ 20)) = true := by decide +kernel
theorem mark_len (aq rl : Bool) : (markL aq rl).length ≤ 5 := by cases aq <;> cases rl <;> decide
set_option maxRecDepth 100000 in
theorem print_no (op rd rs1 rs2 imm csr : Int) (aq rl : Bool) (h : rightB op rd rs1 rs2 imm csr aq rl = false) (w : World) (t : Tabs w) : Calls Tryd.prog 5 #[.agg (instrC op rd rs1 rs2 imm csr aq rl)] w fun e w' => e = .returned (.string (mk [])) ∧ Below w.heap.size w w' := by
  have B : Hid (Below w.heap.size w (w.alloc (.cells (instrC op rd rs1 rs2 imm csr aq rl) 23))) := (Below.refl _ _).alloc (Nat.le_refl _) _
  have HR : Hid (Calls Tryd.prog 8 #[.agg (instrC op rd rs1 rs2 imm csr aq rl)] (w.alloc (.cells (instrC op rd rs1 rs2 imm csr aq rl) 23)) fun e w' => e = .returned (.int .i64 30) ∧ Below (w.alloc (.cells (instrC op rd rs1 rs2 imm csr aq rl) 23)).heap.size (w.alloc (.cells (instrC op rd rs1 rs2 imm csr aq rl) 23)) w') := by
    have h2 := right_any op rd rs1 rs2 imm csr aq rl _ (t.below B.out)
    rw [rightE_no h] at h2
    exact h2
  clear t h
  go_enter Tryd.func5, Tryd.ntmps5
  go_wp2_with (go_at_call 8; (with_reducible refine Calls.mono HR.out ?_); rintro e w' ⟨rfl, hb⟩)
  go_ret
  exact ⟨rfl, below_call B.out hb⟩
set_option maxRecDepth 100000 in
set_option maxHeartbeats 2000000 in
theorem print_yes (op rd rs1 rs2 imm csr : Int) (aq rl : Bool) (h : rightB op rd rs1 rs2 imm csr aq rl = true) (w : World) (t : Tabs w) (nm : NamesAt w) (ht : TabsLie w) : Calls Tryd.prog 5 #[.agg (instrC op rd rs1 rs2 imm csr aq rl)] w fun e w' => e = .returned (.string (mk (printL op rd rs1 rs2 imm csr aq rl))) ∧ Below w.heap.size w w' := by
  obtain ⟨hf, ho1, ho2⟩ := fits_of op rd rs1 rs2 imm csr aq rl h
  obtain ⟨k, rfl⟩ : ∃ k : Nat, op = k := ⟨op.toNat, by omega⟩
  have hk1 : 1 ≤ k := by omega
  have hk2 : k < 99 := by omega
  have B : Hid (Below w.heap.size w (w.alloc (.cells (instrC k rd rs1 rs2 imm csr aq rl) 23))) := (Below.refl _ _).alloc (Nat.le_refl _) _
  have X : Hid ((w.alloc (.cells (instrC k rd rs1 rs2 imm csr aq rl) 23)).heap[w.heap.size]? = some (.cells (instrC k rd rs1 rs2 imm csr aq rl) 23 (0, 0))) := heap_alloc_new w _
  have TT : Hid (∀ V, Below w.heap.size w V → Tabs V ∧ NamesAt V ∧ TabsLie V) := fun V hV => ⟨t.below hV, nm.below t.2.2.2.2 hV, tabs_below ht hV⟩
  have TB : Hid (∀ V, Below (w.alloc (.cells (instrC k rd rs1 rs2 imm csr aq rl) 23)).heap.size (w.alloc (.cells (instrC k rd rs1 rs2 imm csr aq rl) 23)) V → Below w.heap.size w V) := fun V hV => below_call B.out hV
  have HR : Hid (Calls Tryd.prog 8 #[.agg (instrC k rd rs1 rs2 imm csr aq rl)] (w.alloc (.cells (instrC k rd rs1 rs2 imm csr aq rl) 23)) fun e w' => e = .returned (.int .i64 0) ∧ Below (w.alloc (.cells (instrC k rd rs1 rs2 imm csr aq rl) 23)).heap.size (w.alloc (.cells (instrC k rd rs1 rs2 imm csr aq rl) 23)) w') := by
    have h2 := right_any k rd rs1 rs2 imm csr aq rl _ (t.below B.out)
    rw [rightE_yes h] at h2
    exact h2
  have HNM : Hid (∀ V, Below (w.alloc (.cells (instrC k rd rs1 rs2 imm csr aq rl) 23)).heap.size (w.alloc (.cells (instrC k rd rs1 rs2 imm csr aq rl) 23)) V → Calls Tryd.prog 9 #[.int .i64 (k : Nat)] V fun e w' => e = .returned (.string (mk (dNames.getD (k - 1) []))) ∧ w' = V) := fun V hV => by
    have h2 := name_any (k : Nat) V (TT.out V (TB.out V hV)).1 (TT.out V (TB.out V hV)).2.1
    rw [show nameI (k : Nat) = mk (dNames.getD (k - 1) []) from by unfold nameI; rw [if_pos ⟨by omega, by omega⟩]; rfl] at h2
    exact h2
  have HMK : Hid (∀ V, Calls Tryd.prog 10 #[.agg (instrC k rd rs1 rs2 imm csr aq rl)] V fun e w' => e = .returned (.string (mk (markL aq rl))) ∧ Below V.heap.size V w') := fun V => mark_any k rd rs1 rs2 imm csr aq rl V
  have HSH : Hid (∀ V, Below (w.alloc (.cells (instrC k rd rs1 rs2 imm csr aq rl) 23)).heap.size (w.alloc (.cells (instrC k rd rs1 rs2 imm csr aq rl) 23)) V → Calls Tryd.prog 11 #[.int .i64 (k : Nat)] V fun e w' => e = .returned (.string (mk (shapesT.getD k []))) ∧ w' = V) := fun V hV => shape_any k hk1 hk2 V (TT.out V (TB.out V hV)).1
  have HWR : Hid (∀ V, Below (w.alloc (.cells (instrC k rd rs1 rs2 imm csr aq rl) 23)).heap.size (w.alloc (.cells (instrC k rd rs1 rs2 imm csr aq rl) 23)) V → Calls Tryd.prog 12 #[.string (mk (shapesT.getD k [])), .agg (instrC k rd rs1 rs2 imm csr aq rl)] V fun e w' => e = .returned (.string (mk ((shapesT.getD k []).flatMap (partL rd rs1 rs2 imm csr)))) ∧ Below V.heap.size V w') := fun V hV => write_any _ (shape_ok k hk2).1 (shape_ok k hk2).2 k rd rs1 rs2 imm csr aq rl hf V (TT.out V (TB.out V hV)).2.2
  have l1 : (mk (dNames.getD (k - 1) [])).size ≤ 20 := by
    rw [mk_size]; simpa using List.all_eq_true.1 name_len (k - 1) (List.mem_range.2 (by omega))
  have l2 : (mk (markL aq rl)).size ≤ 5 := by rw [mk_size]; exact mark_len aq rl
  have l12 : ¬ 9223372036854775807 < (mk (dNames.getD (k - 1) [])).size + (mk (markL aq rl)).size := by omega
  have l3 : (mk ((shapesT.getD k []).flatMap (partL rd rs1 rs2 imm csr))).size ≤ 400 := by
    rw [mk_size]
    have := flat_len (partL rd rs1 rs2 imm csr) (partL_len rd rs1 rs2 imm csr hf) (shapesT.getD k [])
    have := (shape_ok k hk2).2
    omega
  have HPL : Hid (mk (printL k rd rs1 rs2 imm csr aq rl) = mk (dNames.getD (k - 1) []) ++ mk (markL aq rl) ++ mk (if shapesT.getD k [] = [] then [] else 32 :: (shapesT.getD k []).flatMap (partL rd rs1 rs2 imm csr))) := by
    show _ = _
    rw [mk_app, mk_app]
    unfold printL
    rw [Int.toNat_natCast]
  clear t nm ht h
  by_cases hsh : shapesT.getD k [] = []
  · rw [if_pos hsh] at HPL
    rw [hsh] at HSH
    clear HWR l3
    have hz : (mk []).toList.isEmpty = true := mk_empty []
    generalize mk (dNames.getD (k - 1) []) = sn at *
    generalize mk (markL aq rl) = sm at *
    generalize mk (printL k rd rs1 rs2 imm csr aq rl) = sp at *
    go_enter Tryd.func5, Tryd.ntmps5
    go_wp2_with (go_at_call 8; (with_reducible refine Calls.mono HR.out ?_); rintro e w2 ⟨rfl, hb2⟩; have Z3 : Hid (Below (w.alloc (.cells (instrC k rd rs1 rs2 imm csr aq rl) 23)).heap.size (w.alloc (.cells (instrC k rd rs1 rs2 imm csr aq rl) 23)) w2) := hb2; obtain ⟨q0, q1, q2, q3, q4, q5, q6, q7⟩ := box8_facts (below_box8 X.out hb2))
    go_region_held3 (fun V => V.cell? ⟨w.heap.size, 0, none⟩ = some (.int .i64 k) ∧ V.cell? ⟨w.heap.size, 1, none⟩ = some (.int .i64 rd) ∧ V.cell? ⟨w.heap.size, 2, none⟩ = some (.int .i64 rs1) ∧ V.cell? ⟨w.heap.size, 3, none⟩ = some (.int .i64 rs2) ∧ V.cell? ⟨w.heap.size, 4, none⟩ = some (.int .i64 imm) ∧ V.cell? ⟨w.heap.size, 5, none⟩ = some (.int .i64 csr) ∧ V.cell? ⟨w.heap.size, 6, none⟩ = some (.bool aq) ∧ V.cell? ⟨w.heap.size, 7, none⟩ = some (.bool rl)) (go_keep) (first | (go_at_call 9; (with_reducible refine Calls.mono (HNM.out _ (by repeat (first | exact Z4.out | exact Z3.out | exact Below.refl _ _ | with_reducible refine Below.drew ?_))) ?_); rintro e w9 ⟨rfl, rfl⟩) | (go_at_call 10; (with_reducible refine Calls.mono (HMK.out _) ?_); rintro e w4 ⟨rfl, hb4⟩; have Z4 : Hid (Below (w.alloc (.cells (instrC k rd rs1 rs2 imm csr aq rl) 23)).heap.size (w.alloc (.cells (instrC k rd rs1 rs2 imm csr aq rl) 23)) w4) := below_call (by repeat (first | exact Z4.out | exact Z3.out | exact Below.refl _ _ | with_reducible refine Below.drew ?_)) hb4; obtain ⟨p0, p1, p2, p3, p4, p5, p6, p7⟩ := box8_facts (below_box8 X.out Z4.out)))
    all_goals go_wp2_with (go_at_call 11; (with_reducible refine Calls.mono (HSH.out _ (by repeat (first | exact Z4.out | exact Z3.out | exact Below.refl _ _ | with_reducible refine Below.drew ?_))) ?_); rintro e w9 ⟨rfl, rfl⟩)
    go_ret
    refine ⟨?_, TB.out _ (by repeat (first | exact Z4.out | exact Z3.out | exact Below.refl _ _ | with_reducible refine Below.drew ?_))⟩
    rw [HPL.out, show mk [] = ByteArray.empty from rfl, ByteArray.append_empty]
    rfl
  · rw [if_neg hsh] at HPL
    have hne : (mk (shapesT.getD k [])).toList.isEmpty = false := by rw [mk_empty]; simpa using hsh
    have HJ : Hid (mk (32 :: (shapesT.getD k []).flatMap (partL rd rs1 rs2 imm csr)) = mk [32] ++ mk ((shapesT.getD k []).flatMap (partL rd rs1 rs2 imm csr))) := by
      show _ = _
      rw [mk_app]; rfl
    rw [HJ.out] at HPL
    clear HJ hsh
    generalize mk ((shapesT.getD k []).flatMap (partL rd rs1 rs2 imm csr)) = sw at *
    generalize mk (shapesT.getD k []) = sh at *
    generalize mk (dNames.getD (k - 1) []) = sn at *
    generalize mk (markL aq rl) = sm at *
    generalize mk (printL k rd rs1 rs2 imm csr aq rl) = sp at *
    have l4 : (sn ++ sm).size ≤ 25 := by rw [ByteArray.size_append]; omega
    go_enter Tryd.func5, Tryd.ntmps5
    go_wp2_with (go_at_call 8; (with_reducible refine Calls.mono HR.out ?_); rintro e w2 ⟨rfl, hb2⟩; have Z3 : Hid (Below (w.alloc (.cells (instrC k rd rs1 rs2 imm csr aq rl) 23)).heap.size (w.alloc (.cells (instrC k rd rs1 rs2 imm csr aq rl) 23)) w2) := hb2; obtain ⟨q0, q1, q2, q3, q4, q5, q6, q7⟩ := box8_facts (below_box8 X.out hb2))
    go_region_held3 (fun V => V.cell? ⟨w.heap.size, 0, none⟩ = some (.int .i64 k) ∧ V.cell? ⟨w.heap.size, 1, none⟩ = some (.int .i64 rd) ∧ V.cell? ⟨w.heap.size, 2, none⟩ = some (.int .i64 rs1) ∧ V.cell? ⟨w.heap.size, 3, none⟩ = some (.int .i64 rs2) ∧ V.cell? ⟨w.heap.size, 4, none⟩ = some (.int .i64 imm) ∧ V.cell? ⟨w.heap.size, 5, none⟩ = some (.int .i64 csr) ∧ V.cell? ⟨w.heap.size, 6, none⟩ = some (.bool aq) ∧ V.cell? ⟨w.heap.size, 7, none⟩ = some (.bool rl)) (go_keep) (first | (go_at_call 9; (with_reducible refine Calls.mono (HNM.out _ (by repeat (first | exact Z4.out | exact Z3.out | exact Below.refl _ _ | with_reducible refine Below.drew ?_))) ?_); rintro e w9 ⟨rfl, rfl⟩) | (go_at_call 10; (with_reducible refine Calls.mono (HMK.out _) ?_); rintro e w4 ⟨rfl, hb4⟩; have Z4 : Hid (Below (w.alloc (.cells (instrC k rd rs1 rs2 imm csr aq rl) 23)).heap.size (w.alloc (.cells (instrC k rd rs1 rs2 imm csr aq rl) 23)) w4) := below_call (by repeat (first | exact Z4.out | exact Z3.out | exact Below.refl _ _ | with_reducible refine Below.drew ?_)) hb4; obtain ⟨p0, p1, p2, p3, p4, p5, p6, p7⟩ := box8_facts (below_box8 X.out Z4.out)))
    generalize sn ++ sm = ss at *
    all_goals go_wp2_with (first | (go_at_call 11; (with_reducible refine Calls.mono (HSH.out _ (by repeat (first | exact Z4.out | exact Z3.out | exact Below.refl _ _ | with_reducible refine Below.drew ?_))) ?_); rintro e w9 ⟨rfl, rfl⟩) | (go_at_call 12; (with_reducible refine Calls.mono (HWR.out _ (by repeat (first | exact Z4.out | exact Z3.out | exact Below.refl _ _ | with_reducible refine Below.drew ?_))) ?_); rintro e w5 ⟨rfl, hb5⟩; have Z5 : Hid (Below (w.alloc (.cells (instrC k rd rs1 rs2 imm csr aq rl) 23)).heap.size (w.alloc (.cells (instrC k rd rs1 rs2 imm csr aq rl) 23)) w5) := below_call (by repeat (first | exact Z4.out | exact Z3.out | exact Below.refl _ _ | with_reducible refine Below.drew ?_)) hb5))
    go_ret
    refine ⟨?_, TB.out _ Z5.out⟩
    rw [HPL.out, ByteArray.append_assoc]
    rfl
end Go.Proofs.YtooaafbdjnlmfaaDoor
