/- The document's call Takes of layer 4, by forms. -/
import Derived.Test.YtooaafbdjnlmfaaGreatDoorQDPart
import Derived.Deep.RegionHeld3
namespace Go.Proofs.YtooaafbdjnlmfaaGreatDoor
open Go.RowKit
set_option linter.unusedVariables false
set_option linter.unusedSimpArgs false
set_option maxRecDepth 100000 in
set_option maxHeartbeats 2000000 in
theorem takes_1 (k : Nat) (rd rs1 rs2 imm : Int) (x : Nat) (aq rl : Bool) (hf : Fits rd rs1 rs2 imm x) (s : ByteArray) (cc f3 f7 : Int) (hO : OfIs k s 1 cc f3 f7) (w : World) : Calls Tryz.prog 32 #[.agg (instrC k rd rs1 rs2 imm x aq rl)] w fun e w' => (∃ v, e = .returned v ∧ RowAt w' v [regL rd, Lib.itoa (imm.tdiv 4096)]) ∧ Below w.heap.size w w' := by
  have B : Hid (Below w.heap.size w (w.alloc (.cells (instrC k rd rs1 rs2 imm x aq rl) 23))) := (Below.refl _ _).alloc (Nat.le_refl _) _
  have X : Hid ((w.alloc (.cells (instrC k rd rs1 rs2 imm x aq rl) 23)).heap[w.heap.size]? = some (.cells (instrC k rd rs1 rs2 imm x aq rl) 23 (0, 0))) := heap_alloc_new w _
  have HO : Hid (∀ w, Calls Tryz.prog 45 #[.int .i64 (k : Nat)] w fun e w' => e = .returned (.agg #[.string s, .int .i64 1, .int .i64 cc, .int .i64 f3, .int .i64 f7]) ∧ Below w.heap.size w w') := hO
  have HU : Hid (∀ V, Calls Tryz.prog 34 #[.int .i64 (imm.tdiv 4096)] V fun e w' => e = .returned (.string (mk (Lib.itoa (imm.tdiv 4096)))) ∧ Below V.heap.size V w') := fun V => rdec_b _ (tdiv_bounds imm hf.n).1 (tdiv_bounds imm hf.n).2 V
  have HD : Hid (∀ V, Calls Tryz.prog 12 #[.int .i64 rd] V fun e w' => e = .returned (.string (mk (regL rd))) ∧ Below V.heap.size V w') := fun V => dreg_any rd (by have := hf.d; omega) (by have := hf.d; omega) V
  have HA : Hid (∀ V, Calls Tryz.prog 12 #[.int .i64 rs1] V fun e w' => e = .returned (.string (mk (regL rs1))) ∧ Below V.heap.size V w') := fun V => dreg_any rs1 (by have := hf.a; omega) (by have := hf.a; omega) V
  have HB : Hid (∀ V, Calls Tryz.prog 12 #[.int .i64 rs2] V fun e w' => e = .returned (.string (mk (regL rs2))) ∧ Below V.heap.size V w') := fun V => dreg_any rs2 (by have := hf.b; omega) (by have := hf.b; omega) V
  have HN : Hid (∀ V, Calls Tryz.prog 34 #[.int .i64 imm] V fun e w' => e = .returned (.string (mk (Lib.itoa imm))) ∧ Below V.heap.size V w') := fun V => rdec_b imm (by have := hf.n; omega) (by have := hf.n; omega) V
  have HC : Hid (∀ V, Calls Tryz.prog 22 #[.int .u64 (x : Int)] V fun e w' => e = .returned (.string (mk (hexL x))) ∧ Below V.heap.size V w') := fun V => rhex_b x (by have := hf.c; omega) V
  have lA : (mk (regL rs1)).size ≤ 31 := by rw [← regL_mk, ByteArray.size_append]; have := decS_small rs1 (by have := hf.a; omega) (by have := hf.a; omega); have : (⟨#[120]⟩ : ByteArray).size = 1 := rfl; omega
  have lN : (mk (Lib.itoa imm)).size ≤ 30 := by rw [← decS_mk]; exact decS_small imm (by have := hf.n; omega) (by have := hf.n; omega)
  have hx : x ≤ 4095 := by have := hf.c; omega
  have hn := hf.n
  clear hO hf
  have HM : Hid (mk (Lib.itoa imm ++ [40] ++ regL rs1 ++ [41]) = mk (Lib.itoa imm) ++ ⟨#[40]⟩ ++ mk (regL rs1) ++ ⟨#[41]⟩) := by show _ = _; rw [← mk_app, ← mk_app, ← mk_app]; rfl
  have HP : Hid (mk ([40] ++ regL rs1 ++ [41]) = ⟨#[40]⟩ ++ mk (regL rs1) ++ ⟨#[41]⟩) := by show _ = _; rw [← mk_app, ← mk_app]; rfl
  go_enter Tryz.func32, Tryz.ntmps32
  go_wp2_with fail
  go_region_held3 (fun V => V.cell? ⟨w.heap.size, 0, none⟩ = some (.int .i64 k) ∧ V.cell? ⟨w.heap.size, 1, none⟩ = some (.int .i64 rd) ∧ V.cell? ⟨w.heap.size, 2, none⟩ = some (.int .i64 rs1) ∧ V.cell? ⟨w.heap.size, 3, none⟩ = some (.int .i64 rs2) ∧ V.cell? ⟨w.heap.size, 4, none⟩ = some (.int .i64 imm) ∧ V.cell? ⟨w.heap.size, 5, none⟩ = some (.int .i64 x) ∧ V.cell? ⟨w.heap.size, 6, none⟩ = some (.bool aq) ∧ V.cell? ⟨w.heap.size, 7, none⟩ = some (.bool rl)) (go_keep) (first | (go_at_call 12; (with_reducible refine Calls.mono (HD.out _) ?_); rintro e w4 ⟨rfl, hb4⟩; have Z4 : Hid (Below (w.alloc (.cells (instrC k rd rs1 rs2 imm x aq rl) 23)).heap.size (w.alloc (.cells (instrC k rd rs1 rs2 imm x aq rl) 23)) w4) := below_call (by repeat (first | exact Z6.out | exact Z5.out | exact Z4.out | exact Below.refl _ _ | with_reducible refine Below.drew ?_)) hb4; obtain ⟨p0, p1, p2, p3, p4, p5, p6, p7⟩ := box8_facts (below_box8 X.out Z4.out)) | (go_at_call 12; (with_reducible refine Calls.mono (HA.out _) ?_); rintro e w4 ⟨rfl, hb4⟩; have Z4 : Hid (Below (w.alloc (.cells (instrC k rd rs1 rs2 imm x aq rl) 23)).heap.size (w.alloc (.cells (instrC k rd rs1 rs2 imm x aq rl) 23)) w4) := below_call (by repeat (first | exact Z6.out | exact Z5.out | exact Z4.out | exact Below.refl _ _ | with_reducible refine Below.drew ?_)) hb4; obtain ⟨p0, p1, p2, p3, p4, p5, p6, p7⟩ := box8_facts (below_box8 X.out Z4.out)) | (go_at_call 12; (with_reducible refine Calls.mono (HB.out _) ?_); rintro e w4 ⟨rfl, hb4⟩; have Z4 : Hid (Below (w.alloc (.cells (instrC k rd rs1 rs2 imm x aq rl) 23)).heap.size (w.alloc (.cells (instrC k rd rs1 rs2 imm x aq rl) 23)) w4) := below_call (by repeat (first | exact Z6.out | exact Z5.out | exact Z4.out | exact Below.refl _ _ | with_reducible refine Below.drew ?_)) hb4; obtain ⟨p0, p1, p2, p3, p4, p5, p6, p7⟩ := box8_facts (below_box8 X.out Z4.out)) | (go_at_call 34; (with_reducible refine Calls.mono (HN.out _) ?_); rintro e w4 ⟨rfl, hb4⟩; have Z4 : Hid (Below (w.alloc (.cells (instrC k rd rs1 rs2 imm x aq rl) 23)).heap.size (w.alloc (.cells (instrC k rd rs1 rs2 imm x aq rl) 23)) w4) := below_call (by repeat (first | exact Z6.out | exact Z5.out | exact Z4.out | exact Below.refl _ _ | with_reducible refine Below.drew ?_)) hb4; obtain ⟨p0, p1, p2, p3, p4, p5, p6, p7⟩ := box8_facts (below_box8 X.out Z4.out)))
  all_goals go_wp2_with (first | (go_at_call 22; (with_reducible refine Calls.mono (HC.out _) ?_); rintro e w5 ⟨rfl, hb5⟩; have Z5 : Hid (Below (w.alloc (.cells (instrC k rd rs1 rs2 imm x aq rl) 23)).heap.size (w.alloc (.cells (instrC k rd rs1 rs2 imm x aq rl) 23)) w5) := below_call (by repeat (first | exact Z6.out | exact Z5.out | exact Z4.out | exact Below.refl _ _ | with_reducible refine Below.drew ?_)) hb5; obtain ⟨p0, p1, p2, p3, p4, p5, p6, p7⟩ := box8_facts (below_box8 X.out Z5.out)) | (go_at_call 45; (with_reducible refine Calls.mono (HO.out _) ?_); rintro e w6 ⟨rfl, hb6⟩; have hfl := (field72 s 1 cc f3 f7 w6).1; have Z6 : Hid (Below (w.alloc (.cells (instrC k rd rs1 rs2 imm x aq rl) 23)).heap.size (w.alloc (.cells (instrC k rd rs1 rs2 imm x aq rl) 23)) w6) := below_call (by repeat (first | exact Z6.out | exact Z5.out | exact Z4.out | exact Below.refl _ _ | with_reducible refine Below.drew ?_)) hb6; obtain ⟨p0, p1, p2, p3, p4, p5, p6, p7⟩ := box8_facts (below_box8 X.out Z6.out)) | (go_at_call 34; (with_reducible refine Calls.mono (HU.out _) ?_); rintro e w7 ⟨rfl, hb7⟩; have Z7 : Hid (Below (w.alloc (.cells (instrC k rd rs1 rs2 imm x aq rl) 23)).heap.size (w.alloc (.cells (instrC k rd rs1 rs2 imm x aq rl) 23)) w7) := below_call Z6.out hb7; obtain ⟨p0, p1, p2, p3, p4, p5, p6, p7⟩ := box8_facts (below_box8 X.out Z7.out)))
  go_ret
  exact ⟨⟨_, rfl, row_2 _  _ _  _ _ rfl rfl⟩, (below_call B.out Z7.out).alloc (below_call B.out Z7.out).size _⟩
set_option maxRecDepth 100000 in
set_option maxHeartbeats 2000000 in
theorem takes_5 (k : Nat) (rd rs1 rs2 imm : Int) (x : Nat) (aq rl : Bool) (hf : Fits rd rs1 rs2 imm x) (s : ByteArray) (cc f3 f7 : Int) (hO : OfIs k s 5 cc f3 f7) (w : World) : Calls Tryz.prog 32 #[.agg (instrC k rd rs1 rs2 imm x aq rl)] w fun e w' => (∃ v, e = .returned v ∧ RowAt w' v [regL rd, Lib.itoa imm ++ [40] ++ regL rs1 ++ [41]]) ∧ Below w.heap.size w w' := by
  have B : Hid (Below w.heap.size w (w.alloc (.cells (instrC k rd rs1 rs2 imm x aq rl) 23))) := (Below.refl _ _).alloc (Nat.le_refl _) _
  have X : Hid ((w.alloc (.cells (instrC k rd rs1 rs2 imm x aq rl) 23)).heap[w.heap.size]? = some (.cells (instrC k rd rs1 rs2 imm x aq rl) 23 (0, 0))) := heap_alloc_new w _
  have HO : Hid (∀ w, Calls Tryz.prog 45 #[.int .i64 (k : Nat)] w fun e w' => e = .returned (.agg #[.string s, .int .i64 5, .int .i64 cc, .int .i64 f3, .int .i64 f7]) ∧ Below w.heap.size w w') := hO
  have HD : Hid (∀ V, Calls Tryz.prog 12 #[.int .i64 rd] V fun e w' => e = .returned (.string (mk (regL rd))) ∧ Below V.heap.size V w') := fun V => dreg_any rd (by have := hf.d; omega) (by have := hf.d; omega) V
  have HA : Hid (∀ V, Calls Tryz.prog 12 #[.int .i64 rs1] V fun e w' => e = .returned (.string (mk (regL rs1))) ∧ Below V.heap.size V w') := fun V => dreg_any rs1 (by have := hf.a; omega) (by have := hf.a; omega) V
  have HB : Hid (∀ V, Calls Tryz.prog 12 #[.int .i64 rs2] V fun e w' => e = .returned (.string (mk (regL rs2))) ∧ Below V.heap.size V w') := fun V => dreg_any rs2 (by have := hf.b; omega) (by have := hf.b; omega) V
  have HN : Hid (∀ V, Calls Tryz.prog 34 #[.int .i64 imm] V fun e w' => e = .returned (.string (mk (Lib.itoa imm))) ∧ Below V.heap.size V w') := fun V => rdec_b imm (by have := hf.n; omega) (by have := hf.n; omega) V
  have HC : Hid (∀ V, Calls Tryz.prog 22 #[.int .u64 (x : Int)] V fun e w' => e = .returned (.string (mk (hexL x))) ∧ Below V.heap.size V w') := fun V => rhex_b x (by have := hf.c; omega) V
  have lA : (mk (regL rs1)).size ≤ 31 := by rw [← regL_mk, ByteArray.size_append]; have := decS_small rs1 (by have := hf.a; omega) (by have := hf.a; omega); have : (⟨#[120]⟩ : ByteArray).size = 1 := rfl; omega
  have lN : (mk (Lib.itoa imm)).size ≤ 30 := by rw [← decS_mk]; exact decS_small imm (by have := hf.n; omega) (by have := hf.n; omega)
  have hx : x ≤ 4095 := by have := hf.c; omega
  have hn := hf.n
  clear hO hf
  have HM : Hid (mk (Lib.itoa imm ++ [40] ++ regL rs1 ++ [41]) = mk (Lib.itoa imm) ++ ⟨#[40]⟩ ++ mk (regL rs1) ++ ⟨#[41]⟩) := by show _ = _; rw [← mk_app, ← mk_app, ← mk_app]; rfl
  have HP : Hid (mk ([40] ++ regL rs1 ++ [41]) = ⟨#[40]⟩ ++ mk (regL rs1) ++ ⟨#[41]⟩) := by show _ = _; rw [← mk_app, ← mk_app]; rfl
  go_enter Tryz.func32, Tryz.ntmps32
  go_wp2_with fail
  go_region_held3 (fun V => V.cell? ⟨w.heap.size, 0, none⟩ = some (.int .i64 k) ∧ V.cell? ⟨w.heap.size, 1, none⟩ = some (.int .i64 rd) ∧ V.cell? ⟨w.heap.size, 2, none⟩ = some (.int .i64 rs1) ∧ V.cell? ⟨w.heap.size, 3, none⟩ = some (.int .i64 rs2) ∧ V.cell? ⟨w.heap.size, 4, none⟩ = some (.int .i64 imm) ∧ V.cell? ⟨w.heap.size, 5, none⟩ = some (.int .i64 x) ∧ V.cell? ⟨w.heap.size, 6, none⟩ = some (.bool aq) ∧ V.cell? ⟨w.heap.size, 7, none⟩ = some (.bool rl)) (go_keep) (first | (go_at_call 12; (with_reducible refine Calls.mono (HD.out _) ?_); rintro e w4 ⟨rfl, hb4⟩; have Z4 : Hid (Below (w.alloc (.cells (instrC k rd rs1 rs2 imm x aq rl) 23)).heap.size (w.alloc (.cells (instrC k rd rs1 rs2 imm x aq rl) 23)) w4) := below_call (by repeat (first | exact Z6.out | exact Z5.out | exact Z4.out | exact Below.refl _ _ | with_reducible refine Below.drew ?_)) hb4; obtain ⟨p0, p1, p2, p3, p4, p5, p6, p7⟩ := box8_facts (below_box8 X.out Z4.out)) | (go_at_call 12; (with_reducible refine Calls.mono (HA.out _) ?_); rintro e w4 ⟨rfl, hb4⟩; have Z4 : Hid (Below (w.alloc (.cells (instrC k rd rs1 rs2 imm x aq rl) 23)).heap.size (w.alloc (.cells (instrC k rd rs1 rs2 imm x aq rl) 23)) w4) := below_call (by repeat (first | exact Z6.out | exact Z5.out | exact Z4.out | exact Below.refl _ _ | with_reducible refine Below.drew ?_)) hb4; obtain ⟨p0, p1, p2, p3, p4, p5, p6, p7⟩ := box8_facts (below_box8 X.out Z4.out)) | (go_at_call 12; (with_reducible refine Calls.mono (HB.out _) ?_); rintro e w4 ⟨rfl, hb4⟩; have Z4 : Hid (Below (w.alloc (.cells (instrC k rd rs1 rs2 imm x aq rl) 23)).heap.size (w.alloc (.cells (instrC k rd rs1 rs2 imm x aq rl) 23)) w4) := below_call (by repeat (first | exact Z6.out | exact Z5.out | exact Z4.out | exact Below.refl _ _ | with_reducible refine Below.drew ?_)) hb4; obtain ⟨p0, p1, p2, p3, p4, p5, p6, p7⟩ := box8_facts (below_box8 X.out Z4.out)) | (go_at_call 34; (with_reducible refine Calls.mono (HN.out _) ?_); rintro e w4 ⟨rfl, hb4⟩; have Z4 : Hid (Below (w.alloc (.cells (instrC k rd rs1 rs2 imm x aq rl) 23)).heap.size (w.alloc (.cells (instrC k rd rs1 rs2 imm x aq rl) 23)) w4) := below_call (by repeat (first | exact Z6.out | exact Z5.out | exact Z4.out | exact Below.refl _ _ | with_reducible refine Below.drew ?_)) hb4; obtain ⟨p0, p1, p2, p3, p4, p5, p6, p7⟩ := box8_facts (below_box8 X.out Z4.out)))
  all_goals go_wp2_with (first | (go_at_call 22; (with_reducible refine Calls.mono (HC.out _) ?_); rintro e w5 ⟨rfl, hb5⟩; have Z5 : Hid (Below (w.alloc (.cells (instrC k rd rs1 rs2 imm x aq rl) 23)).heap.size (w.alloc (.cells (instrC k rd rs1 rs2 imm x aq rl) 23)) w5) := below_call (by repeat (first | exact Z6.out | exact Z5.out | exact Z4.out | exact Below.refl _ _ | with_reducible refine Below.drew ?_)) hb5; obtain ⟨p0, p1, p2, p3, p4, p5, p6, p7⟩ := box8_facts (below_box8 X.out Z5.out)) | (go_at_call 45; (with_reducible refine Calls.mono (HO.out _) ?_); rintro e w6 ⟨rfl, hb6⟩; have hfl := (field72 s 5 cc f3 f7 w6).1; have Z6 : Hid (Below (w.alloc (.cells (instrC k rd rs1 rs2 imm x aq rl) 23)).heap.size (w.alloc (.cells (instrC k rd rs1 rs2 imm x aq rl) 23)) w6) := below_call (by repeat (first | exact Z6.out | exact Z5.out | exact Z4.out | exact Below.refl _ _ | with_reducible refine Below.drew ?_)) hb6; obtain ⟨p0, p1, p2, p3, p4, p5, p6, p7⟩ := box8_facts (below_box8 X.out Z6.out)))
  go_ret
  exact ⟨⟨_, rfl, row_2 _  _ _  _ _ rfl HM.out.symm⟩, (below_call B.out Z6.out).alloc (below_call B.out Z6.out).size _⟩
set_option maxRecDepth 100000 in
set_option maxHeartbeats 2000000 in
theorem takes_9 (k : Nat) (rd rs1 rs2 imm : Int) (x : Nat) (aq rl : Bool) (hf : Fits rd rs1 rs2 imm x) (s : ByteArray) (cc f3 f7 : Int) (hO : OfIs k s 9 cc f3 f7) (w : World) : Calls Tryz.prog 32 #[.agg (instrC k rd rs1 rs2 imm x aq rl)] w fun e w' => (∃ v, e = .returned v ∧ RowAt w' v [regL rd, regL rs1, regL rs2]) ∧ Below w.heap.size w w' := by
  have B : Hid (Below w.heap.size w (w.alloc (.cells (instrC k rd rs1 rs2 imm x aq rl) 23))) := (Below.refl _ _).alloc (Nat.le_refl _) _
  have X : Hid ((w.alloc (.cells (instrC k rd rs1 rs2 imm x aq rl) 23)).heap[w.heap.size]? = some (.cells (instrC k rd rs1 rs2 imm x aq rl) 23 (0, 0))) := heap_alloc_new w _
  have HO : Hid (∀ w, Calls Tryz.prog 45 #[.int .i64 (k : Nat)] w fun e w' => e = .returned (.agg #[.string s, .int .i64 9, .int .i64 cc, .int .i64 f3, .int .i64 f7]) ∧ Below w.heap.size w w') := hO
  have HNB : Hid (∀ V, Calls Tryz.prog 71 #[.int .i64 (k : Nat)] V fun e w' => e = .returned (.bool false) ∧ Below V.heap.size V w') := fun V => numbered_9 k s cc f3 f7 hO V
  have HD : Hid (∀ V, Calls Tryz.prog 12 #[.int .i64 rd] V fun e w' => e = .returned (.string (mk (regL rd))) ∧ Below V.heap.size V w') := fun V => dreg_any rd (by have := hf.d; omega) (by have := hf.d; omega) V
  have HA : Hid (∀ V, Calls Tryz.prog 12 #[.int .i64 rs1] V fun e w' => e = .returned (.string (mk (regL rs1))) ∧ Below V.heap.size V w') := fun V => dreg_any rs1 (by have := hf.a; omega) (by have := hf.a; omega) V
  have HB : Hid (∀ V, Calls Tryz.prog 12 #[.int .i64 rs2] V fun e w' => e = .returned (.string (mk (regL rs2))) ∧ Below V.heap.size V w') := fun V => dreg_any rs2 (by have := hf.b; omega) (by have := hf.b; omega) V
  have HN : Hid (∀ V, Calls Tryz.prog 34 #[.int .i64 imm] V fun e w' => e = .returned (.string (mk (Lib.itoa imm))) ∧ Below V.heap.size V w') := fun V => rdec_b imm (by have := hf.n; omega) (by have := hf.n; omega) V
  have HC : Hid (∀ V, Calls Tryz.prog 22 #[.int .u64 (x : Int)] V fun e w' => e = .returned (.string (mk (hexL x))) ∧ Below V.heap.size V w') := fun V => rhex_b x (by have := hf.c; omega) V
  have lA : (mk (regL rs1)).size ≤ 31 := by rw [← regL_mk, ByteArray.size_append]; have := decS_small rs1 (by have := hf.a; omega) (by have := hf.a; omega); have : (⟨#[120]⟩ : ByteArray).size = 1 := rfl; omega
  have lN : (mk (Lib.itoa imm)).size ≤ 30 := by rw [← decS_mk]; exact decS_small imm (by have := hf.n; omega) (by have := hf.n; omega)
  have hx : x ≤ 4095 := by have := hf.c; omega
  have hn := hf.n
  clear hO hf
  have HM : Hid (mk (Lib.itoa imm ++ [40] ++ regL rs1 ++ [41]) = mk (Lib.itoa imm) ++ ⟨#[40]⟩ ++ mk (regL rs1) ++ ⟨#[41]⟩) := by show _ = _; rw [← mk_app, ← mk_app, ← mk_app]; rfl
  have HP : Hid (mk ([40] ++ regL rs1 ++ [41]) = ⟨#[40]⟩ ++ mk (regL rs1) ++ ⟨#[41]⟩) := by show _ = _; rw [← mk_app, ← mk_app]; rfl
  go_enter Tryz.func32, Tryz.ntmps32
  go_wp2_with fail
  go_region_held3 (fun V => V.cell? ⟨w.heap.size, 0, none⟩ = some (.int .i64 k) ∧ V.cell? ⟨w.heap.size, 1, none⟩ = some (.int .i64 rd) ∧ V.cell? ⟨w.heap.size, 2, none⟩ = some (.int .i64 rs1) ∧ V.cell? ⟨w.heap.size, 3, none⟩ = some (.int .i64 rs2) ∧ V.cell? ⟨w.heap.size, 4, none⟩ = some (.int .i64 imm) ∧ V.cell? ⟨w.heap.size, 5, none⟩ = some (.int .i64 x) ∧ V.cell? ⟨w.heap.size, 6, none⟩ = some (.bool aq) ∧ V.cell? ⟨w.heap.size, 7, none⟩ = some (.bool rl)) (go_keep) (first | (go_at_call 12; (with_reducible refine Calls.mono (HD.out _) ?_); rintro e w4 ⟨rfl, hb4⟩; have Z4 : Hid (Below (w.alloc (.cells (instrC k rd rs1 rs2 imm x aq rl) 23)).heap.size (w.alloc (.cells (instrC k rd rs1 rs2 imm x aq rl) 23)) w4) := below_call (by repeat (first | exact Z6.out | exact Z5.out | exact Z4.out | exact Below.refl _ _ | with_reducible refine Below.drew ?_)) hb4; obtain ⟨p0, p1, p2, p3, p4, p5, p6, p7⟩ := box8_facts (below_box8 X.out Z4.out)) | (go_at_call 12; (with_reducible refine Calls.mono (HA.out _) ?_); rintro e w4 ⟨rfl, hb4⟩; have Z4 : Hid (Below (w.alloc (.cells (instrC k rd rs1 rs2 imm x aq rl) 23)).heap.size (w.alloc (.cells (instrC k rd rs1 rs2 imm x aq rl) 23)) w4) := below_call (by repeat (first | exact Z6.out | exact Z5.out | exact Z4.out | exact Below.refl _ _ | with_reducible refine Below.drew ?_)) hb4; obtain ⟨p0, p1, p2, p3, p4, p5, p6, p7⟩ := box8_facts (below_box8 X.out Z4.out)) | (go_at_call 12; (with_reducible refine Calls.mono (HB.out _) ?_); rintro e w4 ⟨rfl, hb4⟩; have Z4 : Hid (Below (w.alloc (.cells (instrC k rd rs1 rs2 imm x aq rl) 23)).heap.size (w.alloc (.cells (instrC k rd rs1 rs2 imm x aq rl) 23)) w4) := below_call (by repeat (first | exact Z6.out | exact Z5.out | exact Z4.out | exact Below.refl _ _ | with_reducible refine Below.drew ?_)) hb4; obtain ⟨p0, p1, p2, p3, p4, p5, p6, p7⟩ := box8_facts (below_box8 X.out Z4.out)) | (go_at_call 34; (with_reducible refine Calls.mono (HN.out _) ?_); rintro e w4 ⟨rfl, hb4⟩; have Z4 : Hid (Below (w.alloc (.cells (instrC k rd rs1 rs2 imm x aq rl) 23)).heap.size (w.alloc (.cells (instrC k rd rs1 rs2 imm x aq rl) 23)) w4) := below_call (by repeat (first | exact Z6.out | exact Z5.out | exact Z4.out | exact Below.refl _ _ | with_reducible refine Below.drew ?_)) hb4; obtain ⟨p0, p1, p2, p3, p4, p5, p6, p7⟩ := box8_facts (below_box8 X.out Z4.out)))
  all_goals go_wp2_with (first | (go_at_call 22; (with_reducible refine Calls.mono (HC.out _) ?_); rintro e w5 ⟨rfl, hb5⟩; have Z5 : Hid (Below (w.alloc (.cells (instrC k rd rs1 rs2 imm x aq rl) 23)).heap.size (w.alloc (.cells (instrC k rd rs1 rs2 imm x aq rl) 23)) w5) := below_call (by repeat (first | exact Z6.out | exact Z5.out | exact Z4.out | exact Below.refl _ _ | with_reducible refine Below.drew ?_)) hb5; obtain ⟨p0, p1, p2, p3, p4, p5, p6, p7⟩ := box8_facts (below_box8 X.out Z5.out)) | (go_at_call 45; (with_reducible refine Calls.mono (HO.out _) ?_); rintro e w6 ⟨rfl, hb6⟩; have hfl := (field72 s 9 cc f3 f7 w6).1; have Z6 : Hid (Below (w.alloc (.cells (instrC k rd rs1 rs2 imm x aq rl) 23)).heap.size (w.alloc (.cells (instrC k rd rs1 rs2 imm x aq rl) 23)) w6) := below_call (by repeat (first | exact Z6.out | exact Z5.out | exact Z4.out | exact Below.refl _ _ | with_reducible refine Below.drew ?_)) hb6; obtain ⟨p0, p1, p2, p3, p4, p5, p6, p7⟩ := box8_facts (below_box8 X.out Z6.out)) | (go_at_call 71; (with_reducible refine Calls.mono (HNB.out _) ?_); rintro e w7 ⟨rfl, hb7⟩; have Z7 : Hid (Below (w.alloc (.cells (instrC k rd rs1 rs2 imm x aq rl) 23)).heap.size (w.alloc (.cells (instrC k rd rs1 rs2 imm x aq rl) 23)) w7) := below_call Z6.out hb7; obtain ⟨p0, p1, p2, p3, p4, p5, p6, p7⟩ := box8_facts (below_box8 X.out Z7.out)))
  go_ret
  exact ⟨⟨_, rfl, row_3 _  _ _ _  _ _ _ rfl rfl rfl⟩, (below_call B.out Z7.out).alloc (below_call B.out Z7.out).size _⟩
set_option maxRecDepth 100000 in
set_option maxHeartbeats 2000000 in
theorem takes_13 (k : Nat) (rd rs1 rs2 imm : Int) (x : Nat) (aq rl : Bool) (hf : Fits rd rs1 rs2 imm x) (s : ByteArray) (cc f3 f7 : Int) (hO : OfIs k s 13 cc f3 f7) (w : World) : Calls Tryz.prog 32 #[.agg (instrC k rd rs1 rs2 imm x aq rl)] w fun e w' => (∃ v, e = .returned v ∧ RowAt w' v [regL rd, hexL x, Lib.itoa imm]) ∧ Below w.heap.size w w' := by
  have B : Hid (Below w.heap.size w (w.alloc (.cells (instrC k rd rs1 rs2 imm x aq rl) 23))) := (Below.refl _ _).alloc (Nat.le_refl _) _
  have X : Hid ((w.alloc (.cells (instrC k rd rs1 rs2 imm x aq rl) 23)).heap[w.heap.size]? = some (.cells (instrC k rd rs1 rs2 imm x aq rl) 23 (0, 0))) := heap_alloc_new w _
  have HO : Hid (∀ w, Calls Tryz.prog 45 #[.int .i64 (k : Nat)] w fun e w' => e = .returned (.agg #[.string s, .int .i64 13, .int .i64 cc, .int .i64 f3, .int .i64 f7]) ∧ Below w.heap.size w w') := hO
  have HD : Hid (∀ V, Calls Tryz.prog 12 #[.int .i64 rd] V fun e w' => e = .returned (.string (mk (regL rd))) ∧ Below V.heap.size V w') := fun V => dreg_any rd (by have := hf.d; omega) (by have := hf.d; omega) V
  have HA : Hid (∀ V, Calls Tryz.prog 12 #[.int .i64 rs1] V fun e w' => e = .returned (.string (mk (regL rs1))) ∧ Below V.heap.size V w') := fun V => dreg_any rs1 (by have := hf.a; omega) (by have := hf.a; omega) V
  have HB : Hid (∀ V, Calls Tryz.prog 12 #[.int .i64 rs2] V fun e w' => e = .returned (.string (mk (regL rs2))) ∧ Below V.heap.size V w') := fun V => dreg_any rs2 (by have := hf.b; omega) (by have := hf.b; omega) V
  have HN : Hid (∀ V, Calls Tryz.prog 34 #[.int .i64 imm] V fun e w' => e = .returned (.string (mk (Lib.itoa imm))) ∧ Below V.heap.size V w') := fun V => rdec_b imm (by have := hf.n; omega) (by have := hf.n; omega) V
  have HC : Hid (∀ V, Calls Tryz.prog 22 #[.int .u64 (x : Int)] V fun e w' => e = .returned (.string (mk (hexL x))) ∧ Below V.heap.size V w') := fun V => rhex_b x (by have := hf.c; omega) V
  have lA : (mk (regL rs1)).size ≤ 31 := by rw [← regL_mk, ByteArray.size_append]; have := decS_small rs1 (by have := hf.a; omega) (by have := hf.a; omega); have : (⟨#[120]⟩ : ByteArray).size = 1 := rfl; omega
  have lN : (mk (Lib.itoa imm)).size ≤ 30 := by rw [← decS_mk]; exact decS_small imm (by have := hf.n; omega) (by have := hf.n; omega)
  have hx : x ≤ 4095 := by have := hf.c; omega
  have hn := hf.n
  clear hO hf
  have HM : Hid (mk (Lib.itoa imm ++ [40] ++ regL rs1 ++ [41]) = mk (Lib.itoa imm) ++ ⟨#[40]⟩ ++ mk (regL rs1) ++ ⟨#[41]⟩) := by show _ = _; rw [← mk_app, ← mk_app, ← mk_app]; rfl
  have HP : Hid (mk ([40] ++ regL rs1 ++ [41]) = ⟨#[40]⟩ ++ mk (regL rs1) ++ ⟨#[41]⟩) := by show _ = _; rw [← mk_app, ← mk_app]; rfl
  go_enter Tryz.func32, Tryz.ntmps32
  go_wp2_with fail
  go_region_held3 (fun V => V.cell? ⟨w.heap.size, 0, none⟩ = some (.int .i64 k) ∧ V.cell? ⟨w.heap.size, 1, none⟩ = some (.int .i64 rd) ∧ V.cell? ⟨w.heap.size, 2, none⟩ = some (.int .i64 rs1) ∧ V.cell? ⟨w.heap.size, 3, none⟩ = some (.int .i64 rs2) ∧ V.cell? ⟨w.heap.size, 4, none⟩ = some (.int .i64 imm) ∧ V.cell? ⟨w.heap.size, 5, none⟩ = some (.int .i64 x) ∧ V.cell? ⟨w.heap.size, 6, none⟩ = some (.bool aq) ∧ V.cell? ⟨w.heap.size, 7, none⟩ = some (.bool rl)) (go_keep) (first | (go_at_call 12; (with_reducible refine Calls.mono (HD.out _) ?_); rintro e w4 ⟨rfl, hb4⟩; have Z4 : Hid (Below (w.alloc (.cells (instrC k rd rs1 rs2 imm x aq rl) 23)).heap.size (w.alloc (.cells (instrC k rd rs1 rs2 imm x aq rl) 23)) w4) := below_call (by repeat (first | exact Z6.out | exact Z5.out | exact Z4.out | exact Below.refl _ _ | with_reducible refine Below.drew ?_)) hb4; obtain ⟨p0, p1, p2, p3, p4, p5, p6, p7⟩ := box8_facts (below_box8 X.out Z4.out)) | (go_at_call 12; (with_reducible refine Calls.mono (HA.out _) ?_); rintro e w4 ⟨rfl, hb4⟩; have Z4 : Hid (Below (w.alloc (.cells (instrC k rd rs1 rs2 imm x aq rl) 23)).heap.size (w.alloc (.cells (instrC k rd rs1 rs2 imm x aq rl) 23)) w4) := below_call (by repeat (first | exact Z6.out | exact Z5.out | exact Z4.out | exact Below.refl _ _ | with_reducible refine Below.drew ?_)) hb4; obtain ⟨p0, p1, p2, p3, p4, p5, p6, p7⟩ := box8_facts (below_box8 X.out Z4.out)) | (go_at_call 12; (with_reducible refine Calls.mono (HB.out _) ?_); rintro e w4 ⟨rfl, hb4⟩; have Z4 : Hid (Below (w.alloc (.cells (instrC k rd rs1 rs2 imm x aq rl) 23)).heap.size (w.alloc (.cells (instrC k rd rs1 rs2 imm x aq rl) 23)) w4) := below_call (by repeat (first | exact Z6.out | exact Z5.out | exact Z4.out | exact Below.refl _ _ | with_reducible refine Below.drew ?_)) hb4; obtain ⟨p0, p1, p2, p3, p4, p5, p6, p7⟩ := box8_facts (below_box8 X.out Z4.out)) | (go_at_call 34; (with_reducible refine Calls.mono (HN.out _) ?_); rintro e w4 ⟨rfl, hb4⟩; have Z4 : Hid (Below (w.alloc (.cells (instrC k rd rs1 rs2 imm x aq rl) 23)).heap.size (w.alloc (.cells (instrC k rd rs1 rs2 imm x aq rl) 23)) w4) := below_call (by repeat (first | exact Z6.out | exact Z5.out | exact Z4.out | exact Below.refl _ _ | with_reducible refine Below.drew ?_)) hb4; obtain ⟨p0, p1, p2, p3, p4, p5, p6, p7⟩ := box8_facts (below_box8 X.out Z4.out)))
  all_goals go_wp2_with (first | (go_at_call 22; (with_reducible refine Calls.mono (HC.out _) ?_); rintro e w5 ⟨rfl, hb5⟩; have Z5 : Hid (Below (w.alloc (.cells (instrC k rd rs1 rs2 imm x aq rl) 23)).heap.size (w.alloc (.cells (instrC k rd rs1 rs2 imm x aq rl) 23)) w5) := below_call (by repeat (first | exact Z6.out | exact Z5.out | exact Z4.out | exact Below.refl _ _ | with_reducible refine Below.drew ?_)) hb5; obtain ⟨p0, p1, p2, p3, p4, p5, p6, p7⟩ := box8_facts (below_box8 X.out Z5.out)) | (go_at_call 45; (with_reducible refine Calls.mono (HO.out _) ?_); rintro e w6 ⟨rfl, hb6⟩; have hfl := (field72 s 13 cc f3 f7 w6).1; have Z6 : Hid (Below (w.alloc (.cells (instrC k rd rs1 rs2 imm x aq rl) 23)).heap.size (w.alloc (.cells (instrC k rd rs1 rs2 imm x aq rl) 23)) w6) := below_call (by repeat (first | exact Z6.out | exact Z5.out | exact Z4.out | exact Below.refl _ _ | with_reducible refine Below.drew ?_)) hb6; obtain ⟨p0, p1, p2, p3, p4, p5, p6, p7⟩ := box8_facts (below_box8 X.out Z6.out)))
  go_ret
  exact ⟨⟨_, rfl, row_3 _  _ _ _  _ _ _ rfl rfl rfl⟩, (below_call B.out Z6.out).alloc (below_call B.out Z6.out).size _⟩
end Go.Proofs.YtooaafbdjnlmfaaGreatDoor

namespace Go.Proofs.YtooaafbdjnlmfaaGreatDoor
open Go.RowKit
set_option linter.unusedVariables false
set_option linter.unusedSimpArgs false
set_option maxRecDepth 100000 in
set_option maxHeartbeats 2000000 in
theorem takes_2 (k : Nat) (rd rs1 rs2 imm : Int) (x : Nat) (aq rl : Bool) (hf : Fits rd rs1 rs2 imm x) (s : ByteArray) (cc f3 f7 : Int) (hO : OfIs k s 2 cc f3 f7) (w : World) : Calls Tryz.prog 32 #[.agg (instrC k rd rs1 rs2 imm x aq rl)] w fun e w' => (∃ v, e = .returned v ∧ RowAt w' v [regL rd, Lib.itoa imm]) ∧ Below w.heap.size w w' := by
  have B : Hid (Below w.heap.size w (w.alloc (.cells (instrC k rd rs1 rs2 imm x aq rl) 23))) := (Below.refl _ _).alloc (Nat.le_refl _) _
  have X : Hid ((w.alloc (.cells (instrC k rd rs1 rs2 imm x aq rl) 23)).heap[w.heap.size]? = some (.cells (instrC k rd rs1 rs2 imm x aq rl) 23 (0, 0))) := heap_alloc_new w _
  have HO : Hid (∀ w, Calls Tryz.prog 45 #[.int .i64 (k : Nat)] w fun e w' => e = .returned (.agg #[.string s, .int .i64 2, .int .i64 cc, .int .i64 f3, .int .i64 f7]) ∧ Below w.heap.size w w') := hO
  have HD : Hid (∀ V, Calls Tryz.prog 12 #[.int .i64 rd] V fun e w' => e = .returned (.string (mk (regL rd))) ∧ Below V.heap.size V w') := fun V => dreg_any rd (by have := hf.d; omega) (by have := hf.d; omega) V
  have HA : Hid (∀ V, Calls Tryz.prog 12 #[.int .i64 rs1] V fun e w' => e = .returned (.string (mk (regL rs1))) ∧ Below V.heap.size V w') := fun V => dreg_any rs1 (by have := hf.a; omega) (by have := hf.a; omega) V
  have HB : Hid (∀ V, Calls Tryz.prog 12 #[.int .i64 rs2] V fun e w' => e = .returned (.string (mk (regL rs2))) ∧ Below V.heap.size V w') := fun V => dreg_any rs2 (by have := hf.b; omega) (by have := hf.b; omega) V
  have HN : Hid (∀ V, Calls Tryz.prog 34 #[.int .i64 imm] V fun e w' => e = .returned (.string (mk (Lib.itoa imm))) ∧ Below V.heap.size V w') := fun V => rdec_b imm (by have := hf.n; omega) (by have := hf.n; omega) V
  have HC : Hid (∀ V, Calls Tryz.prog 22 #[.int .u64 (x : Int)] V fun e w' => e = .returned (.string (mk (hexL x))) ∧ Below V.heap.size V w') := fun V => rhex_b x (by have := hf.c; omega) V
  have lA : (mk (regL rs1)).size ≤ 31 := by rw [← regL_mk, ByteArray.size_append]; have := decS_small rs1 (by have := hf.a; omega) (by have := hf.a; omega); have : (⟨#[120]⟩ : ByteArray).size = 1 := rfl; omega
  have lN : (mk (Lib.itoa imm)).size ≤ 30 := by rw [← decS_mk]; exact decS_small imm (by have := hf.n; omega) (by have := hf.n; omega)
  have hx : x ≤ 4095 := by have := hf.c; omega
  have hn := hf.n
  clear hO hf
  have HM : Hid (mk (Lib.itoa imm ++ [40] ++ regL rs1 ++ [41]) = mk (Lib.itoa imm) ++ ⟨#[40]⟩ ++ mk (regL rs1) ++ ⟨#[41]⟩) := by show _ = _; rw [← mk_app, ← mk_app, ← mk_app]; rfl
  have HP : Hid (mk ([40] ++ regL rs1 ++ [41]) = ⟨#[40]⟩ ++ mk (regL rs1) ++ ⟨#[41]⟩) := by show _ = _; rw [← mk_app, ← mk_app]; rfl
  go_enter Tryz.func32, Tryz.ntmps32
  go_wp2_with fail
  go_region_held3 (fun V => V.cell? ⟨w.heap.size, 0, none⟩ = some (.int .i64 k) ∧ V.cell? ⟨w.heap.size, 1, none⟩ = some (.int .i64 rd) ∧ V.cell? ⟨w.heap.size, 2, none⟩ = some (.int .i64 rs1) ∧ V.cell? ⟨w.heap.size, 3, none⟩ = some (.int .i64 rs2) ∧ V.cell? ⟨w.heap.size, 4, none⟩ = some (.int .i64 imm) ∧ V.cell? ⟨w.heap.size, 5, none⟩ = some (.int .i64 x) ∧ V.cell? ⟨w.heap.size, 6, none⟩ = some (.bool aq) ∧ V.cell? ⟨w.heap.size, 7, none⟩ = some (.bool rl)) (go_keep) (first | (go_at_call 12; (with_reducible refine Calls.mono (HD.out _) ?_); rintro e w4 ⟨rfl, hb4⟩; have Z4 : Hid (Below (w.alloc (.cells (instrC k rd rs1 rs2 imm x aq rl) 23)).heap.size (w.alloc (.cells (instrC k rd rs1 rs2 imm x aq rl) 23)) w4) := below_call (by repeat (first | exact Z6.out | exact Z5.out | exact Z4.out | exact Below.refl _ _ | with_reducible refine Below.drew ?_)) hb4; obtain ⟨p0, p1, p2, p3, p4, p5, p6, p7⟩ := box8_facts (below_box8 X.out Z4.out)) | (go_at_call 12; (with_reducible refine Calls.mono (HA.out _) ?_); rintro e w4 ⟨rfl, hb4⟩; have Z4 : Hid (Below (w.alloc (.cells (instrC k rd rs1 rs2 imm x aq rl) 23)).heap.size (w.alloc (.cells (instrC k rd rs1 rs2 imm x aq rl) 23)) w4) := below_call (by repeat (first | exact Z6.out | exact Z5.out | exact Z4.out | exact Below.refl _ _ | with_reducible refine Below.drew ?_)) hb4; obtain ⟨p0, p1, p2, p3, p4, p5, p6, p7⟩ := box8_facts (below_box8 X.out Z4.out)) | (go_at_call 12; (with_reducible refine Calls.mono (HB.out _) ?_); rintro e w4 ⟨rfl, hb4⟩; have Z4 : Hid (Below (w.alloc (.cells (instrC k rd rs1 rs2 imm x aq rl) 23)).heap.size (w.alloc (.cells (instrC k rd rs1 rs2 imm x aq rl) 23)) w4) := below_call (by repeat (first | exact Z6.out | exact Z5.out | exact Z4.out | exact Below.refl _ _ | with_reducible refine Below.drew ?_)) hb4; obtain ⟨p0, p1, p2, p3, p4, p5, p6, p7⟩ := box8_facts (below_box8 X.out Z4.out)) | (go_at_call 34; (with_reducible refine Calls.mono (HN.out _) ?_); rintro e w4 ⟨rfl, hb4⟩; have Z4 : Hid (Below (w.alloc (.cells (instrC k rd rs1 rs2 imm x aq rl) 23)).heap.size (w.alloc (.cells (instrC k rd rs1 rs2 imm x aq rl) 23)) w4) := below_call (by repeat (first | exact Z6.out | exact Z5.out | exact Z4.out | exact Below.refl _ _ | with_reducible refine Below.drew ?_)) hb4; obtain ⟨p0, p1, p2, p3, p4, p5, p6, p7⟩ := box8_facts (below_box8 X.out Z4.out)))
  all_goals go_wp2_with (first | (go_at_call 22; (with_reducible refine Calls.mono (HC.out _) ?_); rintro e w5 ⟨rfl, hb5⟩; have Z5 : Hid (Below (w.alloc (.cells (instrC k rd rs1 rs2 imm x aq rl) 23)).heap.size (w.alloc (.cells (instrC k rd rs1 rs2 imm x aq rl) 23)) w5) := below_call (by repeat (first | exact Z6.out | exact Z5.out | exact Z4.out | exact Below.refl _ _ | with_reducible refine Below.drew ?_)) hb5; obtain ⟨p0, p1, p2, p3, p4, p5, p6, p7⟩ := box8_facts (below_box8 X.out Z5.out)) | (go_at_call 45; (with_reducible refine Calls.mono (HO.out _) ?_); rintro e w6 ⟨rfl, hb6⟩; have hfl := (field72 s 2 cc f3 f7 w6).1; have Z6 : Hid (Below (w.alloc (.cells (instrC k rd rs1 rs2 imm x aq rl) 23)).heap.size (w.alloc (.cells (instrC k rd rs1 rs2 imm x aq rl) 23)) w6) := below_call (by repeat (first | exact Z6.out | exact Z5.out | exact Z4.out | exact Below.refl _ _ | with_reducible refine Below.drew ?_)) hb6; obtain ⟨p0, p1, p2, p3, p4, p5, p6, p7⟩ := box8_facts (below_box8 X.out Z6.out)))
  go_ret
  exact ⟨⟨_, rfl, row_2 _  _ _  _ _ rfl rfl⟩, (below_call B.out Z6.out).alloc (below_call B.out Z6.out).size _⟩
set_option maxRecDepth 100000 in
set_option maxHeartbeats 2000000 in
theorem takes_6 (k : Nat) (rd rs1 rs2 imm : Int) (x : Nat) (aq rl : Bool) (hf : Fits rd rs1 rs2 imm x) (s : ByteArray) (cc f3 f7 : Int) (hO : OfIs k s 6 cc f3 f7) (w : World) : Calls Tryz.prog 32 #[.agg (instrC k rd rs1 rs2 imm x aq rl)] w fun e w' => (∃ v, e = .returned v ∧ RowAt w' v [regL rs2, Lib.itoa imm ++ [40] ++ regL rs1 ++ [41]]) ∧ Below w.heap.size w w' := by
  have B : Hid (Below w.heap.size w (w.alloc (.cells (instrC k rd rs1 rs2 imm x aq rl) 23))) := (Below.refl _ _).alloc (Nat.le_refl _) _
  have X : Hid ((w.alloc (.cells (instrC k rd rs1 rs2 imm x aq rl) 23)).heap[w.heap.size]? = some (.cells (instrC k rd rs1 rs2 imm x aq rl) 23 (0, 0))) := heap_alloc_new w _
  have HO : Hid (∀ w, Calls Tryz.prog 45 #[.int .i64 (k : Nat)] w fun e w' => e = .returned (.agg #[.string s, .int .i64 6, .int .i64 cc, .int .i64 f3, .int .i64 f7]) ∧ Below w.heap.size w w') := hO
  have HD : Hid (∀ V, Calls Tryz.prog 12 #[.int .i64 rd] V fun e w' => e = .returned (.string (mk (regL rd))) ∧ Below V.heap.size V w') := fun V => dreg_any rd (by have := hf.d; omega) (by have := hf.d; omega) V
  have HA : Hid (∀ V, Calls Tryz.prog 12 #[.int .i64 rs1] V fun e w' => e = .returned (.string (mk (regL rs1))) ∧ Below V.heap.size V w') := fun V => dreg_any rs1 (by have := hf.a; omega) (by have := hf.a; omega) V
  have HB : Hid (∀ V, Calls Tryz.prog 12 #[.int .i64 rs2] V fun e w' => e = .returned (.string (mk (regL rs2))) ∧ Below V.heap.size V w') := fun V => dreg_any rs2 (by have := hf.b; omega) (by have := hf.b; omega) V
  have HN : Hid (∀ V, Calls Tryz.prog 34 #[.int .i64 imm] V fun e w' => e = .returned (.string (mk (Lib.itoa imm))) ∧ Below V.heap.size V w') := fun V => rdec_b imm (by have := hf.n; omega) (by have := hf.n; omega) V
  have HC : Hid (∀ V, Calls Tryz.prog 22 #[.int .u64 (x : Int)] V fun e w' => e = .returned (.string (mk (hexL x))) ∧ Below V.heap.size V w') := fun V => rhex_b x (by have := hf.c; omega) V
  have lA : (mk (regL rs1)).size ≤ 31 := by rw [← regL_mk, ByteArray.size_append]; have := decS_small rs1 (by have := hf.a; omega) (by have := hf.a; omega); have : (⟨#[120]⟩ : ByteArray).size = 1 := rfl; omega
  have lN : (mk (Lib.itoa imm)).size ≤ 30 := by rw [← decS_mk]; exact decS_small imm (by have := hf.n; omega) (by have := hf.n; omega)
  have hx : x ≤ 4095 := by have := hf.c; omega
  have hn := hf.n
  clear hO hf
  have HM : Hid (mk (Lib.itoa imm ++ [40] ++ regL rs1 ++ [41]) = mk (Lib.itoa imm) ++ ⟨#[40]⟩ ++ mk (regL rs1) ++ ⟨#[41]⟩) := by show _ = _; rw [← mk_app, ← mk_app, ← mk_app]; rfl
  have HP : Hid (mk ([40] ++ regL rs1 ++ [41]) = ⟨#[40]⟩ ++ mk (regL rs1) ++ ⟨#[41]⟩) := by show _ = _; rw [← mk_app, ← mk_app]; rfl
  go_enter Tryz.func32, Tryz.ntmps32
  go_wp2_with fail
  go_region_held3 (fun V => V.cell? ⟨w.heap.size, 0, none⟩ = some (.int .i64 k) ∧ V.cell? ⟨w.heap.size, 1, none⟩ = some (.int .i64 rd) ∧ V.cell? ⟨w.heap.size, 2, none⟩ = some (.int .i64 rs1) ∧ V.cell? ⟨w.heap.size, 3, none⟩ = some (.int .i64 rs2) ∧ V.cell? ⟨w.heap.size, 4, none⟩ = some (.int .i64 imm) ∧ V.cell? ⟨w.heap.size, 5, none⟩ = some (.int .i64 x) ∧ V.cell? ⟨w.heap.size, 6, none⟩ = some (.bool aq) ∧ V.cell? ⟨w.heap.size, 7, none⟩ = some (.bool rl)) (go_keep) (first | (go_at_call 12; (with_reducible refine Calls.mono (HD.out _) ?_); rintro e w4 ⟨rfl, hb4⟩; have Z4 : Hid (Below (w.alloc (.cells (instrC k rd rs1 rs2 imm x aq rl) 23)).heap.size (w.alloc (.cells (instrC k rd rs1 rs2 imm x aq rl) 23)) w4) := below_call (by repeat (first | exact Z6.out | exact Z5.out | exact Z4.out | exact Below.refl _ _ | with_reducible refine Below.drew ?_)) hb4; obtain ⟨p0, p1, p2, p3, p4, p5, p6, p7⟩ := box8_facts (below_box8 X.out Z4.out)) | (go_at_call 12; (with_reducible refine Calls.mono (HA.out _) ?_); rintro e w4 ⟨rfl, hb4⟩; have Z4 : Hid (Below (w.alloc (.cells (instrC k rd rs1 rs2 imm x aq rl) 23)).heap.size (w.alloc (.cells (instrC k rd rs1 rs2 imm x aq rl) 23)) w4) := below_call (by repeat (first | exact Z6.out | exact Z5.out | exact Z4.out | exact Below.refl _ _ | with_reducible refine Below.drew ?_)) hb4; obtain ⟨p0, p1, p2, p3, p4, p5, p6, p7⟩ := box8_facts (below_box8 X.out Z4.out)) | (go_at_call 12; (with_reducible refine Calls.mono (HB.out _) ?_); rintro e w4 ⟨rfl, hb4⟩; have Z4 : Hid (Below (w.alloc (.cells (instrC k rd rs1 rs2 imm x aq rl) 23)).heap.size (w.alloc (.cells (instrC k rd rs1 rs2 imm x aq rl) 23)) w4) := below_call (by repeat (first | exact Z6.out | exact Z5.out | exact Z4.out | exact Below.refl _ _ | with_reducible refine Below.drew ?_)) hb4; obtain ⟨p0, p1, p2, p3, p4, p5, p6, p7⟩ := box8_facts (below_box8 X.out Z4.out)) | (go_at_call 34; (with_reducible refine Calls.mono (HN.out _) ?_); rintro e w4 ⟨rfl, hb4⟩; have Z4 : Hid (Below (w.alloc (.cells (instrC k rd rs1 rs2 imm x aq rl) 23)).heap.size (w.alloc (.cells (instrC k rd rs1 rs2 imm x aq rl) 23)) w4) := below_call (by repeat (first | exact Z6.out | exact Z5.out | exact Z4.out | exact Below.refl _ _ | with_reducible refine Below.drew ?_)) hb4; obtain ⟨p0, p1, p2, p3, p4, p5, p6, p7⟩ := box8_facts (below_box8 X.out Z4.out)))
  all_goals go_wp2_with (first | (go_at_call 22; (with_reducible refine Calls.mono (HC.out _) ?_); rintro e w5 ⟨rfl, hb5⟩; have Z5 : Hid (Below (w.alloc (.cells (instrC k rd rs1 rs2 imm x aq rl) 23)).heap.size (w.alloc (.cells (instrC k rd rs1 rs2 imm x aq rl) 23)) w5) := below_call (by repeat (first | exact Z6.out | exact Z5.out | exact Z4.out | exact Below.refl _ _ | with_reducible refine Below.drew ?_)) hb5; obtain ⟨p0, p1, p2, p3, p4, p5, p6, p7⟩ := box8_facts (below_box8 X.out Z5.out)) | (go_at_call 45; (with_reducible refine Calls.mono (HO.out _) ?_); rintro e w6 ⟨rfl, hb6⟩; have hfl := (field72 s 6 cc f3 f7 w6).1; have Z6 : Hid (Below (w.alloc (.cells (instrC k rd rs1 rs2 imm x aq rl) 23)).heap.size (w.alloc (.cells (instrC k rd rs1 rs2 imm x aq rl) 23)) w6) := below_call (by repeat (first | exact Z6.out | exact Z5.out | exact Z4.out | exact Below.refl _ _ | with_reducible refine Below.drew ?_)) hb6; obtain ⟨p0, p1, p2, p3, p4, p5, p6, p7⟩ := box8_facts (below_box8 X.out Z6.out)))
  go_ret
  exact ⟨⟨_, rfl, row_2 _  _ _  _ _ rfl HM.out.symm⟩, (below_call B.out Z6.out).alloc (below_call B.out Z6.out).size _⟩
set_option maxRecDepth 100000 in
set_option maxHeartbeats 2000000 in
theorem takes_10 (k : Nat) (rd rs1 rs2 imm : Int) (x : Nat) (aq rl : Bool) (hf : Fits rd rs1 rs2 imm x) (s : ByteArray) (cc f3 f7 : Int) (hO : OfIs k s 10 cc f3 f7) (w : World) : Calls Tryz.prog 32 #[.agg (instrC k rd rs1 rs2 imm x aq rl)] w fun e w' => (∃ v, e = .returned v ∧ RowAt w' v [regL rd, regL rs1, Lib.itoa imm]) ∧ Below w.heap.size w w' := by
  have B : Hid (Below w.heap.size w (w.alloc (.cells (instrC k rd rs1 rs2 imm x aq rl) 23))) := (Below.refl _ _).alloc (Nat.le_refl _) _
  have X : Hid ((w.alloc (.cells (instrC k rd rs1 rs2 imm x aq rl) 23)).heap[w.heap.size]? = some (.cells (instrC k rd rs1 rs2 imm x aq rl) 23 (0, 0))) := heap_alloc_new w _
  have HO : Hid (∀ w, Calls Tryz.prog 45 #[.int .i64 (k : Nat)] w fun e w' => e = .returned (.agg #[.string s, .int .i64 10, .int .i64 cc, .int .i64 f3, .int .i64 f7]) ∧ Below w.heap.size w w') := hO
  have HNB : Hid (∀ V, Calls Tryz.prog 71 #[.int .i64 (k : Nat)] V fun e w' => e = .returned (.bool true) ∧ Below V.heap.size V w') := fun V => numbered_10 k s cc f3 f7 hO V
  have HD : Hid (∀ V, Calls Tryz.prog 12 #[.int .i64 rd] V fun e w' => e = .returned (.string (mk (regL rd))) ∧ Below V.heap.size V w') := fun V => dreg_any rd (by have := hf.d; omega) (by have := hf.d; omega) V
  have HA : Hid (∀ V, Calls Tryz.prog 12 #[.int .i64 rs1] V fun e w' => e = .returned (.string (mk (regL rs1))) ∧ Below V.heap.size V w') := fun V => dreg_any rs1 (by have := hf.a; omega) (by have := hf.a; omega) V
  have HB : Hid (∀ V, Calls Tryz.prog 12 #[.int .i64 rs2] V fun e w' => e = .returned (.string (mk (regL rs2))) ∧ Below V.heap.size V w') := fun V => dreg_any rs2 (by have := hf.b; omega) (by have := hf.b; omega) V
  have HN : Hid (∀ V, Calls Tryz.prog 34 #[.int .i64 imm] V fun e w' => e = .returned (.string (mk (Lib.itoa imm))) ∧ Below V.heap.size V w') := fun V => rdec_b imm (by have := hf.n; omega) (by have := hf.n; omega) V
  have HC : Hid (∀ V, Calls Tryz.prog 22 #[.int .u64 (x : Int)] V fun e w' => e = .returned (.string (mk (hexL x))) ∧ Below V.heap.size V w') := fun V => rhex_b x (by have := hf.c; omega) V
  have lA : (mk (regL rs1)).size ≤ 31 := by rw [← regL_mk, ByteArray.size_append]; have := decS_small rs1 (by have := hf.a; omega) (by have := hf.a; omega); have : (⟨#[120]⟩ : ByteArray).size = 1 := rfl; omega
  have lN : (mk (Lib.itoa imm)).size ≤ 30 := by rw [← decS_mk]; exact decS_small imm (by have := hf.n; omega) (by have := hf.n; omega)
  have hx : x ≤ 4095 := by have := hf.c; omega
  have hn := hf.n
  clear hO hf
  have HM : Hid (mk (Lib.itoa imm ++ [40] ++ regL rs1 ++ [41]) = mk (Lib.itoa imm) ++ ⟨#[40]⟩ ++ mk (regL rs1) ++ ⟨#[41]⟩) := by show _ = _; rw [← mk_app, ← mk_app, ← mk_app]; rfl
  have HP : Hid (mk ([40] ++ regL rs1 ++ [41]) = ⟨#[40]⟩ ++ mk (regL rs1) ++ ⟨#[41]⟩) := by show _ = _; rw [← mk_app, ← mk_app]; rfl
  go_enter Tryz.func32, Tryz.ntmps32
  go_wp2_with fail
  go_region_held3 (fun V => V.cell? ⟨w.heap.size, 0, none⟩ = some (.int .i64 k) ∧ V.cell? ⟨w.heap.size, 1, none⟩ = some (.int .i64 rd) ∧ V.cell? ⟨w.heap.size, 2, none⟩ = some (.int .i64 rs1) ∧ V.cell? ⟨w.heap.size, 3, none⟩ = some (.int .i64 rs2) ∧ V.cell? ⟨w.heap.size, 4, none⟩ = some (.int .i64 imm) ∧ V.cell? ⟨w.heap.size, 5, none⟩ = some (.int .i64 x) ∧ V.cell? ⟨w.heap.size, 6, none⟩ = some (.bool aq) ∧ V.cell? ⟨w.heap.size, 7, none⟩ = some (.bool rl)) (go_keep) (first | (go_at_call 12; (with_reducible refine Calls.mono (HD.out _) ?_); rintro e w4 ⟨rfl, hb4⟩; have Z4 : Hid (Below (w.alloc (.cells (instrC k rd rs1 rs2 imm x aq rl) 23)).heap.size (w.alloc (.cells (instrC k rd rs1 rs2 imm x aq rl) 23)) w4) := below_call (by repeat (first | exact Z6.out | exact Z5.out | exact Z4.out | exact Below.refl _ _ | with_reducible refine Below.drew ?_)) hb4; obtain ⟨p0, p1, p2, p3, p4, p5, p6, p7⟩ := box8_facts (below_box8 X.out Z4.out)) | (go_at_call 12; (with_reducible refine Calls.mono (HA.out _) ?_); rintro e w4 ⟨rfl, hb4⟩; have Z4 : Hid (Below (w.alloc (.cells (instrC k rd rs1 rs2 imm x aq rl) 23)).heap.size (w.alloc (.cells (instrC k rd rs1 rs2 imm x aq rl) 23)) w4) := below_call (by repeat (first | exact Z6.out | exact Z5.out | exact Z4.out | exact Below.refl _ _ | with_reducible refine Below.drew ?_)) hb4; obtain ⟨p0, p1, p2, p3, p4, p5, p6, p7⟩ := box8_facts (below_box8 X.out Z4.out)) | (go_at_call 12; (with_reducible refine Calls.mono (HB.out _) ?_); rintro e w4 ⟨rfl, hb4⟩; have Z4 : Hid (Below (w.alloc (.cells (instrC k rd rs1 rs2 imm x aq rl) 23)).heap.size (w.alloc (.cells (instrC k rd rs1 rs2 imm x aq rl) 23)) w4) := below_call (by repeat (first | exact Z6.out | exact Z5.out | exact Z4.out | exact Below.refl _ _ | with_reducible refine Below.drew ?_)) hb4; obtain ⟨p0, p1, p2, p3, p4, p5, p6, p7⟩ := box8_facts (below_box8 X.out Z4.out)) | (go_at_call 34; (with_reducible refine Calls.mono (HN.out _) ?_); rintro e w4 ⟨rfl, hb4⟩; have Z4 : Hid (Below (w.alloc (.cells (instrC k rd rs1 rs2 imm x aq rl) 23)).heap.size (w.alloc (.cells (instrC k rd rs1 rs2 imm x aq rl) 23)) w4) := below_call (by repeat (first | exact Z6.out | exact Z5.out | exact Z4.out | exact Below.refl _ _ | with_reducible refine Below.drew ?_)) hb4; obtain ⟨p0, p1, p2, p3, p4, p5, p6, p7⟩ := box8_facts (below_box8 X.out Z4.out)))
  all_goals go_wp2_with (first | (go_at_call 22; (with_reducible refine Calls.mono (HC.out _) ?_); rintro e w5 ⟨rfl, hb5⟩; have Z5 : Hid (Below (w.alloc (.cells (instrC k rd rs1 rs2 imm x aq rl) 23)).heap.size (w.alloc (.cells (instrC k rd rs1 rs2 imm x aq rl) 23)) w5) := below_call (by repeat (first | exact Z6.out | exact Z5.out | exact Z4.out | exact Below.refl _ _ | with_reducible refine Below.drew ?_)) hb5; obtain ⟨p0, p1, p2, p3, p4, p5, p6, p7⟩ := box8_facts (below_box8 X.out Z5.out)) | (go_at_call 45; (with_reducible refine Calls.mono (HO.out _) ?_); rintro e w6 ⟨rfl, hb6⟩; have hfl := (field72 s 10 cc f3 f7 w6).1; have Z6 : Hid (Below (w.alloc (.cells (instrC k rd rs1 rs2 imm x aq rl) 23)).heap.size (w.alloc (.cells (instrC k rd rs1 rs2 imm x aq rl) 23)) w6) := below_call (by repeat (first | exact Z6.out | exact Z5.out | exact Z4.out | exact Below.refl _ _ | with_reducible refine Below.drew ?_)) hb6; obtain ⟨p0, p1, p2, p3, p4, p5, p6, p7⟩ := box8_facts (below_box8 X.out Z6.out)) | (go_at_call 71; (with_reducible refine Calls.mono (HNB.out _) ?_); rintro e w7 ⟨rfl, hb7⟩; have Z7 : Hid (Below (w.alloc (.cells (instrC k rd rs1 rs2 imm x aq rl) 23)).heap.size (w.alloc (.cells (instrC k rd rs1 rs2 imm x aq rl) 23)) w7) := below_call Z6.out hb7; obtain ⟨p0, p1, p2, p3, p4, p5, p6, p7⟩ := box8_facts (below_box8 X.out Z7.out)))
  go_ret
  exact ⟨⟨_, rfl, row_3 _  _ _ _  _ _ _ rfl rfl rfl⟩, (below_call B.out Z7.out).alloc (below_call B.out Z7.out).size _⟩
set_option maxRecDepth 100000 in
set_option maxHeartbeats 2000000 in
theorem takes_14 (k : Nat) (rd rs1 rs2 imm : Int) (x : Nat) (aq rl : Bool) (hf : Fits rd rs1 rs2 imm x) (s : ByteArray) (cc f3 f7 : Int) (hO : OfIs k s 14 cc f3 f7) (w : World) : Calls Tryz.prog 32 #[.agg (instrC k rd rs1 rs2 imm x aq rl)] w fun e w' => (∃ v, e = .returned v ∧ RowAt w' v [regL rd, [40] ++ regL rs1 ++ [41]]) ∧ Below w.heap.size w w' := by
  have B : Hid (Below w.heap.size w (w.alloc (.cells (instrC k rd rs1 rs2 imm x aq rl) 23))) := (Below.refl _ _).alloc (Nat.le_refl _) _
  have X : Hid ((w.alloc (.cells (instrC k rd rs1 rs2 imm x aq rl) 23)).heap[w.heap.size]? = some (.cells (instrC k rd rs1 rs2 imm x aq rl) 23 (0, 0))) := heap_alloc_new w _
  have HO : Hid (∀ w, Calls Tryz.prog 45 #[.int .i64 (k : Nat)] w fun e w' => e = .returned (.agg #[.string s, .int .i64 14, .int .i64 cc, .int .i64 f3, .int .i64 f7]) ∧ Below w.heap.size w w') := hO
  have HD : Hid (∀ V, Calls Tryz.prog 12 #[.int .i64 rd] V fun e w' => e = .returned (.string (mk (regL rd))) ∧ Below V.heap.size V w') := fun V => dreg_any rd (by have := hf.d; omega) (by have := hf.d; omega) V
  have HA : Hid (∀ V, Calls Tryz.prog 12 #[.int .i64 rs1] V fun e w' => e = .returned (.string (mk (regL rs1))) ∧ Below V.heap.size V w') := fun V => dreg_any rs1 (by have := hf.a; omega) (by have := hf.a; omega) V
  have HB : Hid (∀ V, Calls Tryz.prog 12 #[.int .i64 rs2] V fun e w' => e = .returned (.string (mk (regL rs2))) ∧ Below V.heap.size V w') := fun V => dreg_any rs2 (by have := hf.b; omega) (by have := hf.b; omega) V
  have HN : Hid (∀ V, Calls Tryz.prog 34 #[.int .i64 imm] V fun e w' => e = .returned (.string (mk (Lib.itoa imm))) ∧ Below V.heap.size V w') := fun V => rdec_b imm (by have := hf.n; omega) (by have := hf.n; omega) V
  have HC : Hid (∀ V, Calls Tryz.prog 22 #[.int .u64 (x : Int)] V fun e w' => e = .returned (.string (mk (hexL x))) ∧ Below V.heap.size V w') := fun V => rhex_b x (by have := hf.c; omega) V
  have lA : (mk (regL rs1)).size ≤ 31 := by rw [← regL_mk, ByteArray.size_append]; have := decS_small rs1 (by have := hf.a; omega) (by have := hf.a; omega); have : (⟨#[120]⟩ : ByteArray).size = 1 := rfl; omega
  have lN : (mk (Lib.itoa imm)).size ≤ 30 := by rw [← decS_mk]; exact decS_small imm (by have := hf.n; omega) (by have := hf.n; omega)
  have hx : x ≤ 4095 := by have := hf.c; omega
  have hn := hf.n
  clear hO hf
  have HM : Hid (mk (Lib.itoa imm ++ [40] ++ regL rs1 ++ [41]) = mk (Lib.itoa imm) ++ ⟨#[40]⟩ ++ mk (regL rs1) ++ ⟨#[41]⟩) := by show _ = _; rw [← mk_app, ← mk_app, ← mk_app]; rfl
  have HP : Hid (mk ([40] ++ regL rs1 ++ [41]) = ⟨#[40]⟩ ++ mk (regL rs1) ++ ⟨#[41]⟩) := by show _ = _; rw [← mk_app, ← mk_app]; rfl
  go_enter Tryz.func32, Tryz.ntmps32
  go_wp2_with fail
  go_region_held3 (fun V => V.cell? ⟨w.heap.size, 0, none⟩ = some (.int .i64 k) ∧ V.cell? ⟨w.heap.size, 1, none⟩ = some (.int .i64 rd) ∧ V.cell? ⟨w.heap.size, 2, none⟩ = some (.int .i64 rs1) ∧ V.cell? ⟨w.heap.size, 3, none⟩ = some (.int .i64 rs2) ∧ V.cell? ⟨w.heap.size, 4, none⟩ = some (.int .i64 imm) ∧ V.cell? ⟨w.heap.size, 5, none⟩ = some (.int .i64 x) ∧ V.cell? ⟨w.heap.size, 6, none⟩ = some (.bool aq) ∧ V.cell? ⟨w.heap.size, 7, none⟩ = some (.bool rl)) (go_keep) (first | (go_at_call 12; (with_reducible refine Calls.mono (HD.out _) ?_); rintro e w4 ⟨rfl, hb4⟩; have Z4 : Hid (Below (w.alloc (.cells (instrC k rd rs1 rs2 imm x aq rl) 23)).heap.size (w.alloc (.cells (instrC k rd rs1 rs2 imm x aq rl) 23)) w4) := below_call (by repeat (first | exact Z6.out | exact Z5.out | exact Z4.out | exact Below.refl _ _ | with_reducible refine Below.drew ?_)) hb4; obtain ⟨p0, p1, p2, p3, p4, p5, p6, p7⟩ := box8_facts (below_box8 X.out Z4.out)) | (go_at_call 12; (with_reducible refine Calls.mono (HA.out _) ?_); rintro e w4 ⟨rfl, hb4⟩; have Z4 : Hid (Below (w.alloc (.cells (instrC k rd rs1 rs2 imm x aq rl) 23)).heap.size (w.alloc (.cells (instrC k rd rs1 rs2 imm x aq rl) 23)) w4) := below_call (by repeat (first | exact Z6.out | exact Z5.out | exact Z4.out | exact Below.refl _ _ | with_reducible refine Below.drew ?_)) hb4; obtain ⟨p0, p1, p2, p3, p4, p5, p6, p7⟩ := box8_facts (below_box8 X.out Z4.out)) | (go_at_call 12; (with_reducible refine Calls.mono (HB.out _) ?_); rintro e w4 ⟨rfl, hb4⟩; have Z4 : Hid (Below (w.alloc (.cells (instrC k rd rs1 rs2 imm x aq rl) 23)).heap.size (w.alloc (.cells (instrC k rd rs1 rs2 imm x aq rl) 23)) w4) := below_call (by repeat (first | exact Z6.out | exact Z5.out | exact Z4.out | exact Below.refl _ _ | with_reducible refine Below.drew ?_)) hb4; obtain ⟨p0, p1, p2, p3, p4, p5, p6, p7⟩ := box8_facts (below_box8 X.out Z4.out)) | (go_at_call 34; (with_reducible refine Calls.mono (HN.out _) ?_); rintro e w4 ⟨rfl, hb4⟩; have Z4 : Hid (Below (w.alloc (.cells (instrC k rd rs1 rs2 imm x aq rl) 23)).heap.size (w.alloc (.cells (instrC k rd rs1 rs2 imm x aq rl) 23)) w4) := below_call (by repeat (first | exact Z6.out | exact Z5.out | exact Z4.out | exact Below.refl _ _ | with_reducible refine Below.drew ?_)) hb4; obtain ⟨p0, p1, p2, p3, p4, p5, p6, p7⟩ := box8_facts (below_box8 X.out Z4.out)))
  all_goals go_wp2_with (first | (go_at_call 22; (with_reducible refine Calls.mono (HC.out _) ?_); rintro e w5 ⟨rfl, hb5⟩; have Z5 : Hid (Below (w.alloc (.cells (instrC k rd rs1 rs2 imm x aq rl) 23)).heap.size (w.alloc (.cells (instrC k rd rs1 rs2 imm x aq rl) 23)) w5) := below_call (by repeat (first | exact Z6.out | exact Z5.out | exact Z4.out | exact Below.refl _ _ | with_reducible refine Below.drew ?_)) hb5; obtain ⟨p0, p1, p2, p3, p4, p5, p6, p7⟩ := box8_facts (below_box8 X.out Z5.out)) | (go_at_call 45; (with_reducible refine Calls.mono (HO.out _) ?_); rintro e w6 ⟨rfl, hb6⟩; have hfl := (field72 s 14 cc f3 f7 w6).1; have Z6 : Hid (Below (w.alloc (.cells (instrC k rd rs1 rs2 imm x aq rl) 23)).heap.size (w.alloc (.cells (instrC k rd rs1 rs2 imm x aq rl) 23)) w6) := below_call (by repeat (first | exact Z6.out | exact Z5.out | exact Z4.out | exact Below.refl _ _ | with_reducible refine Below.drew ?_)) hb6; obtain ⟨p0, p1, p2, p3, p4, p5, p6, p7⟩ := box8_facts (below_box8 X.out Z6.out)))
  go_ret
  exact ⟨⟨_, rfl, row_2 _  _ _  _ _ rfl HP.out.symm⟩, (below_call B.out Z6.out).alloc (below_call B.out Z6.out).size _⟩
end Go.Proofs.YtooaafbdjnlmfaaGreatDoor

namespace Go.Proofs.YtooaafbdjnlmfaaGreatDoor
open Go.RowKit
set_option linter.unusedVariables false
set_option linter.unusedSimpArgs false
set_option maxRecDepth 100000 in
set_option maxHeartbeats 2000000 in
theorem takes_3 (k : Nat) (rd rs1 rs2 imm : Int) (x : Nat) (aq rl : Bool) (hf : Fits rd rs1 rs2 imm x) (s : ByteArray) (cc f3 f7 : Int) (hO : OfIs k s 3 cc f3 f7) (w : World) : Calls Tryz.prog 32 #[.agg (instrC k rd rs1 rs2 imm x aq rl)] w fun e w' => (∃ v, e = .returned v ∧ RowAt w' v [regL rd, regL rs1, Lib.itoa imm]) ∧ Below w.heap.size w w' := by
  have B : Hid (Below w.heap.size w (w.alloc (.cells (instrC k rd rs1 rs2 imm x aq rl) 23))) := (Below.refl _ _).alloc (Nat.le_refl _) _
  have X : Hid ((w.alloc (.cells (instrC k rd rs1 rs2 imm x aq rl) 23)).heap[w.heap.size]? = some (.cells (instrC k rd rs1 rs2 imm x aq rl) 23 (0, 0))) := heap_alloc_new w _
  have HO : Hid (∀ w, Calls Tryz.prog 45 #[.int .i64 (k : Nat)] w fun e w' => e = .returned (.agg #[.string s, .int .i64 3, .int .i64 cc, .int .i64 f3, .int .i64 f7]) ∧ Below w.heap.size w w') := hO
  have HNB : Hid (∀ V, Calls Tryz.prog 71 #[.int .i64 (k : Nat)] V fun e w' => e = .returned (.bool true) ∧ Below V.heap.size V w') := fun V => numbered_3 k s cc f3 f7 hO V
  have HD : Hid (∀ V, Calls Tryz.prog 12 #[.int .i64 rd] V fun e w' => e = .returned (.string (mk (regL rd))) ∧ Below V.heap.size V w') := fun V => dreg_any rd (by have := hf.d; omega) (by have := hf.d; omega) V
  have HA : Hid (∀ V, Calls Tryz.prog 12 #[.int .i64 rs1] V fun e w' => e = .returned (.string (mk (regL rs1))) ∧ Below V.heap.size V w') := fun V => dreg_any rs1 (by have := hf.a; omega) (by have := hf.a; omega) V
  have HB : Hid (∀ V, Calls Tryz.prog 12 #[.int .i64 rs2] V fun e w' => e = .returned (.string (mk (regL rs2))) ∧ Below V.heap.size V w') := fun V => dreg_any rs2 (by have := hf.b; omega) (by have := hf.b; omega) V
  have HN : Hid (∀ V, Calls Tryz.prog 34 #[.int .i64 imm] V fun e w' => e = .returned (.string (mk (Lib.itoa imm))) ∧ Below V.heap.size V w') := fun V => rdec_b imm (by have := hf.n; omega) (by have := hf.n; omega) V
  have HC : Hid (∀ V, Calls Tryz.prog 22 #[.int .u64 (x : Int)] V fun e w' => e = .returned (.string (mk (hexL x))) ∧ Below V.heap.size V w') := fun V => rhex_b x (by have := hf.c; omega) V
  have lA : (mk (regL rs1)).size ≤ 31 := by rw [← regL_mk, ByteArray.size_append]; have := decS_small rs1 (by have := hf.a; omega) (by have := hf.a; omega); have : (⟨#[120]⟩ : ByteArray).size = 1 := rfl; omega
  have lN : (mk (Lib.itoa imm)).size ≤ 30 := by rw [← decS_mk]; exact decS_small imm (by have := hf.n; omega) (by have := hf.n; omega)
  have hx : x ≤ 4095 := by have := hf.c; omega
  have hn := hf.n
  clear hO hf
  have HM : Hid (mk (Lib.itoa imm ++ [40] ++ regL rs1 ++ [41]) = mk (Lib.itoa imm) ++ ⟨#[40]⟩ ++ mk (regL rs1) ++ ⟨#[41]⟩) := by show _ = _; rw [← mk_app, ← mk_app, ← mk_app]; rfl
  have HP : Hid (mk ([40] ++ regL rs1 ++ [41]) = ⟨#[40]⟩ ++ mk (regL rs1) ++ ⟨#[41]⟩) := by show _ = _; rw [← mk_app, ← mk_app]; rfl
  go_enter Tryz.func32, Tryz.ntmps32
  go_wp2_with fail
  go_region_held3 (fun V => V.cell? ⟨w.heap.size, 0, none⟩ = some (.int .i64 k) ∧ V.cell? ⟨w.heap.size, 1, none⟩ = some (.int .i64 rd) ∧ V.cell? ⟨w.heap.size, 2, none⟩ = some (.int .i64 rs1) ∧ V.cell? ⟨w.heap.size, 3, none⟩ = some (.int .i64 rs2) ∧ V.cell? ⟨w.heap.size, 4, none⟩ = some (.int .i64 imm) ∧ V.cell? ⟨w.heap.size, 5, none⟩ = some (.int .i64 x) ∧ V.cell? ⟨w.heap.size, 6, none⟩ = some (.bool aq) ∧ V.cell? ⟨w.heap.size, 7, none⟩ = some (.bool rl)) (go_keep) (first | (go_at_call 12; (with_reducible refine Calls.mono (HD.out _) ?_); rintro e w4 ⟨rfl, hb4⟩; have Z4 : Hid (Below (w.alloc (.cells (instrC k rd rs1 rs2 imm x aq rl) 23)).heap.size (w.alloc (.cells (instrC k rd rs1 rs2 imm x aq rl) 23)) w4) := below_call (by repeat (first | exact Z6.out | exact Z5.out | exact Z4.out | exact Below.refl _ _ | with_reducible refine Below.drew ?_)) hb4; obtain ⟨p0, p1, p2, p3, p4, p5, p6, p7⟩ := box8_facts (below_box8 X.out Z4.out)) | (go_at_call 12; (with_reducible refine Calls.mono (HA.out _) ?_); rintro e w4 ⟨rfl, hb4⟩; have Z4 : Hid (Below (w.alloc (.cells (instrC k rd rs1 rs2 imm x aq rl) 23)).heap.size (w.alloc (.cells (instrC k rd rs1 rs2 imm x aq rl) 23)) w4) := below_call (by repeat (first | exact Z6.out | exact Z5.out | exact Z4.out | exact Below.refl _ _ | with_reducible refine Below.drew ?_)) hb4; obtain ⟨p0, p1, p2, p3, p4, p5, p6, p7⟩ := box8_facts (below_box8 X.out Z4.out)) | (go_at_call 12; (with_reducible refine Calls.mono (HB.out _) ?_); rintro e w4 ⟨rfl, hb4⟩; have Z4 : Hid (Below (w.alloc (.cells (instrC k rd rs1 rs2 imm x aq rl) 23)).heap.size (w.alloc (.cells (instrC k rd rs1 rs2 imm x aq rl) 23)) w4) := below_call (by repeat (first | exact Z6.out | exact Z5.out | exact Z4.out | exact Below.refl _ _ | with_reducible refine Below.drew ?_)) hb4; obtain ⟨p0, p1, p2, p3, p4, p5, p6, p7⟩ := box8_facts (below_box8 X.out Z4.out)) | (go_at_call 34; (with_reducible refine Calls.mono (HN.out _) ?_); rintro e w4 ⟨rfl, hb4⟩; have Z4 : Hid (Below (w.alloc (.cells (instrC k rd rs1 rs2 imm x aq rl) 23)).heap.size (w.alloc (.cells (instrC k rd rs1 rs2 imm x aq rl) 23)) w4) := below_call (by repeat (first | exact Z6.out | exact Z5.out | exact Z4.out | exact Below.refl _ _ | with_reducible refine Below.drew ?_)) hb4; obtain ⟨p0, p1, p2, p3, p4, p5, p6, p7⟩ := box8_facts (below_box8 X.out Z4.out)))
  all_goals go_wp2_with (first | (go_at_call 22; (with_reducible refine Calls.mono (HC.out _) ?_); rintro e w5 ⟨rfl, hb5⟩; have Z5 : Hid (Below (w.alloc (.cells (instrC k rd rs1 rs2 imm x aq rl) 23)).heap.size (w.alloc (.cells (instrC k rd rs1 rs2 imm x aq rl) 23)) w5) := below_call (by repeat (first | exact Z6.out | exact Z5.out | exact Z4.out | exact Below.refl _ _ | with_reducible refine Below.drew ?_)) hb5; obtain ⟨p0, p1, p2, p3, p4, p5, p6, p7⟩ := box8_facts (below_box8 X.out Z5.out)) | (go_at_call 45; (with_reducible refine Calls.mono (HO.out _) ?_); rintro e w6 ⟨rfl, hb6⟩; have hfl := (field72 s 3 cc f3 f7 w6).1; have Z6 : Hid (Below (w.alloc (.cells (instrC k rd rs1 rs2 imm x aq rl) 23)).heap.size (w.alloc (.cells (instrC k rd rs1 rs2 imm x aq rl) 23)) w6) := below_call (by repeat (first | exact Z6.out | exact Z5.out | exact Z4.out | exact Below.refl _ _ | with_reducible refine Below.drew ?_)) hb6; obtain ⟨p0, p1, p2, p3, p4, p5, p6, p7⟩ := box8_facts (below_box8 X.out Z6.out)) | (go_at_call 71; (with_reducible refine Calls.mono (HNB.out _) ?_); rintro e w7 ⟨rfl, hb7⟩; have Z7 : Hid (Below (w.alloc (.cells (instrC k rd rs1 rs2 imm x aq rl) 23)).heap.size (w.alloc (.cells (instrC k rd rs1 rs2 imm x aq rl) 23)) w7) := below_call Z6.out hb7; obtain ⟨p0, p1, p2, p3, p4, p5, p6, p7⟩ := box8_facts (below_box8 X.out Z7.out)))
  go_ret
  exact ⟨⟨_, rfl, row_3 _  _ _ _  _ _ _ rfl rfl rfl⟩, (below_call B.out Z7.out).alloc (below_call B.out Z7.out).size _⟩
set_option maxRecDepth 100000 in
set_option maxHeartbeats 2000000 in
theorem takes_7 (k : Nat) (rd rs1 rs2 imm : Int) (x : Nat) (aq rl : Bool) (hf : Fits rd rs1 rs2 imm x) (s : ByteArray) (cc f3 f7 : Int) (hO : OfIs k s 7 cc f3 f7) (w : World) : Calls Tryz.prog 32 #[.agg (instrC k rd rs1 rs2 imm x aq rl)] w fun e w' => (∃ v, e = .returned v ∧ RowAt w' v [regL rd, regL rs1, Lib.itoa imm]) ∧ Below w.heap.size w w' := by
  have B : Hid (Below w.heap.size w (w.alloc (.cells (instrC k rd rs1 rs2 imm x aq rl) 23))) := (Below.refl _ _).alloc (Nat.le_refl _) _
  have X : Hid ((w.alloc (.cells (instrC k rd rs1 rs2 imm x aq rl) 23)).heap[w.heap.size]? = some (.cells (instrC k rd rs1 rs2 imm x aq rl) 23 (0, 0))) := heap_alloc_new w _
  have HO : Hid (∀ w, Calls Tryz.prog 45 #[.int .i64 (k : Nat)] w fun e w' => e = .returned (.agg #[.string s, .int .i64 7, .int .i64 cc, .int .i64 f3, .int .i64 f7]) ∧ Below w.heap.size w w') := hO
  have HNB : Hid (∀ V, Calls Tryz.prog 71 #[.int .i64 (k : Nat)] V fun e w' => e = .returned (.bool true) ∧ Below V.heap.size V w') := fun V => numbered_7 k s cc f3 f7 hO V
  have HD : Hid (∀ V, Calls Tryz.prog 12 #[.int .i64 rd] V fun e w' => e = .returned (.string (mk (regL rd))) ∧ Below V.heap.size V w') := fun V => dreg_any rd (by have := hf.d; omega) (by have := hf.d; omega) V
  have HA : Hid (∀ V, Calls Tryz.prog 12 #[.int .i64 rs1] V fun e w' => e = .returned (.string (mk (regL rs1))) ∧ Below V.heap.size V w') := fun V => dreg_any rs1 (by have := hf.a; omega) (by have := hf.a; omega) V
  have HB : Hid (∀ V, Calls Tryz.prog 12 #[.int .i64 rs2] V fun e w' => e = .returned (.string (mk (regL rs2))) ∧ Below V.heap.size V w') := fun V => dreg_any rs2 (by have := hf.b; omega) (by have := hf.b; omega) V
  have HN : Hid (∀ V, Calls Tryz.prog 34 #[.int .i64 imm] V fun e w' => e = .returned (.string (mk (Lib.itoa imm))) ∧ Below V.heap.size V w') := fun V => rdec_b imm (by have := hf.n; omega) (by have := hf.n; omega) V
  have HC : Hid (∀ V, Calls Tryz.prog 22 #[.int .u64 (x : Int)] V fun e w' => e = .returned (.string (mk (hexL x))) ∧ Below V.heap.size V w') := fun V => rhex_b x (by have := hf.c; omega) V
  have lA : (mk (regL rs1)).size ≤ 31 := by rw [← regL_mk, ByteArray.size_append]; have := decS_small rs1 (by have := hf.a; omega) (by have := hf.a; omega); have : (⟨#[120]⟩ : ByteArray).size = 1 := rfl; omega
  have lN : (mk (Lib.itoa imm)).size ≤ 30 := by rw [← decS_mk]; exact decS_small imm (by have := hf.n; omega) (by have := hf.n; omega)
  have hx : x ≤ 4095 := by have := hf.c; omega
  have hn := hf.n
  clear hO hf
  have HM : Hid (mk (Lib.itoa imm ++ [40] ++ regL rs1 ++ [41]) = mk (Lib.itoa imm) ++ ⟨#[40]⟩ ++ mk (regL rs1) ++ ⟨#[41]⟩) := by show _ = _; rw [← mk_app, ← mk_app, ← mk_app]; rfl
  have HP : Hid (mk ([40] ++ regL rs1 ++ [41]) = ⟨#[40]⟩ ++ mk (regL rs1) ++ ⟨#[41]⟩) := by show _ = _; rw [← mk_app, ← mk_app]; rfl
  go_enter Tryz.func32, Tryz.ntmps32
  go_wp2_with fail
  go_region_held3 (fun V => V.cell? ⟨w.heap.size, 0, none⟩ = some (.int .i64 k) ∧ V.cell? ⟨w.heap.size, 1, none⟩ = some (.int .i64 rd) ∧ V.cell? ⟨w.heap.size, 2, none⟩ = some (.int .i64 rs1) ∧ V.cell? ⟨w.heap.size, 3, none⟩ = some (.int .i64 rs2) ∧ V.cell? ⟨w.heap.size, 4, none⟩ = some (.int .i64 imm) ∧ V.cell? ⟨w.heap.size, 5, none⟩ = some (.int .i64 x) ∧ V.cell? ⟨w.heap.size, 6, none⟩ = some (.bool aq) ∧ V.cell? ⟨w.heap.size, 7, none⟩ = some (.bool rl)) (go_keep) (first | (go_at_call 12; (with_reducible refine Calls.mono (HD.out _) ?_); rintro e w4 ⟨rfl, hb4⟩; have Z4 : Hid (Below (w.alloc (.cells (instrC k rd rs1 rs2 imm x aq rl) 23)).heap.size (w.alloc (.cells (instrC k rd rs1 rs2 imm x aq rl) 23)) w4) := below_call (by repeat (first | exact Z6.out | exact Z5.out | exact Z4.out | exact Below.refl _ _ | with_reducible refine Below.drew ?_)) hb4; obtain ⟨p0, p1, p2, p3, p4, p5, p6, p7⟩ := box8_facts (below_box8 X.out Z4.out)) | (go_at_call 12; (with_reducible refine Calls.mono (HA.out _) ?_); rintro e w4 ⟨rfl, hb4⟩; have Z4 : Hid (Below (w.alloc (.cells (instrC k rd rs1 rs2 imm x aq rl) 23)).heap.size (w.alloc (.cells (instrC k rd rs1 rs2 imm x aq rl) 23)) w4) := below_call (by repeat (first | exact Z6.out | exact Z5.out | exact Z4.out | exact Below.refl _ _ | with_reducible refine Below.drew ?_)) hb4; obtain ⟨p0, p1, p2, p3, p4, p5, p6, p7⟩ := box8_facts (below_box8 X.out Z4.out)) | (go_at_call 12; (with_reducible refine Calls.mono (HB.out _) ?_); rintro e w4 ⟨rfl, hb4⟩; have Z4 : Hid (Below (w.alloc (.cells (instrC k rd rs1 rs2 imm x aq rl) 23)).heap.size (w.alloc (.cells (instrC k rd rs1 rs2 imm x aq rl) 23)) w4) := below_call (by repeat (first | exact Z6.out | exact Z5.out | exact Z4.out | exact Below.refl _ _ | with_reducible refine Below.drew ?_)) hb4; obtain ⟨p0, p1, p2, p3, p4, p5, p6, p7⟩ := box8_facts (below_box8 X.out Z4.out)) | (go_at_call 34; (with_reducible refine Calls.mono (HN.out _) ?_); rintro e w4 ⟨rfl, hb4⟩; have Z4 : Hid (Below (w.alloc (.cells (instrC k rd rs1 rs2 imm x aq rl) 23)).heap.size (w.alloc (.cells (instrC k rd rs1 rs2 imm x aq rl) 23)) w4) := below_call (by repeat (first | exact Z6.out | exact Z5.out | exact Z4.out | exact Below.refl _ _ | with_reducible refine Below.drew ?_)) hb4; obtain ⟨p0, p1, p2, p3, p4, p5, p6, p7⟩ := box8_facts (below_box8 X.out Z4.out)))
  all_goals go_wp2_with (first | (go_at_call 22; (with_reducible refine Calls.mono (HC.out _) ?_); rintro e w5 ⟨rfl, hb5⟩; have Z5 : Hid (Below (w.alloc (.cells (instrC k rd rs1 rs2 imm x aq rl) 23)).heap.size (w.alloc (.cells (instrC k rd rs1 rs2 imm x aq rl) 23)) w5) := below_call (by repeat (first | exact Z6.out | exact Z5.out | exact Z4.out | exact Below.refl _ _ | with_reducible refine Below.drew ?_)) hb5; obtain ⟨p0, p1, p2, p3, p4, p5, p6, p7⟩ := box8_facts (below_box8 X.out Z5.out)) | (go_at_call 45; (with_reducible refine Calls.mono (HO.out _) ?_); rintro e w6 ⟨rfl, hb6⟩; have hfl := (field72 s 7 cc f3 f7 w6).1; have Z6 : Hid (Below (w.alloc (.cells (instrC k rd rs1 rs2 imm x aq rl) 23)).heap.size (w.alloc (.cells (instrC k rd rs1 rs2 imm x aq rl) 23)) w6) := below_call (by repeat (first | exact Z6.out | exact Z5.out | exact Z4.out | exact Below.refl _ _ | with_reducible refine Below.drew ?_)) hb6; obtain ⟨p0, p1, p2, p3, p4, p5, p6, p7⟩ := box8_facts (below_box8 X.out Z6.out)) | (go_at_call 71; (with_reducible refine Calls.mono (HNB.out _) ?_); rintro e w7 ⟨rfl, hb7⟩; have Z7 : Hid (Below (w.alloc (.cells (instrC k rd rs1 rs2 imm x aq rl) 23)).heap.size (w.alloc (.cells (instrC k rd rs1 rs2 imm x aq rl) 23)) w7) := below_call Z6.out hb7; obtain ⟨p0, p1, p2, p3, p4, p5, p6, p7⟩ := box8_facts (below_box8 X.out Z7.out)))
  go_ret
  exact ⟨⟨_, rfl, row_3 _  _ _ _  _ _ _ rfl rfl rfl⟩, (below_call B.out Z7.out).alloc (below_call B.out Z7.out).size _⟩
set_option maxRecDepth 100000 in
set_option maxHeartbeats 2000000 in
theorem takes_11 (k : Nat) (rd rs1 rs2 imm : Int) (x : Nat) (aq rl : Bool) (hf : Fits rd rs1 rs2 imm x) (s : ByteArray) (cc f3 f7 : Int) (hO : OfIs k s 11 cc f3 f7) (w : World) : Calls Tryz.prog 32 #[.agg (instrC k rd rs1 rs2 imm x aq rl)] w fun e w' => (∃ v, e = .returned v ∧ RowAt w' v []) ∧ Below w.heap.size w w' := by
  have B : Hid (Below w.heap.size w (w.alloc (.cells (instrC k rd rs1 rs2 imm x aq rl) 23))) := (Below.refl _ _).alloc (Nat.le_refl _) _
  have X : Hid ((w.alloc (.cells (instrC k rd rs1 rs2 imm x aq rl) 23)).heap[w.heap.size]? = some (.cells (instrC k rd rs1 rs2 imm x aq rl) 23 (0, 0))) := heap_alloc_new w _
  have HO : Hid (∀ w, Calls Tryz.prog 45 #[.int .i64 (k : Nat)] w fun e w' => e = .returned (.agg #[.string s, .int .i64 11, .int .i64 cc, .int .i64 f3, .int .i64 f7]) ∧ Below w.heap.size w w') := hO
  have HD : Hid (∀ V, Calls Tryz.prog 12 #[.int .i64 rd] V fun e w' => e = .returned (.string (mk (regL rd))) ∧ Below V.heap.size V w') := fun V => dreg_any rd (by have := hf.d; omega) (by have := hf.d; omega) V
  have HA : Hid (∀ V, Calls Tryz.prog 12 #[.int .i64 rs1] V fun e w' => e = .returned (.string (mk (regL rs1))) ∧ Below V.heap.size V w') := fun V => dreg_any rs1 (by have := hf.a; omega) (by have := hf.a; omega) V
  have HB : Hid (∀ V, Calls Tryz.prog 12 #[.int .i64 rs2] V fun e w' => e = .returned (.string (mk (regL rs2))) ∧ Below V.heap.size V w') := fun V => dreg_any rs2 (by have := hf.b; omega) (by have := hf.b; omega) V
  have HN : Hid (∀ V, Calls Tryz.prog 34 #[.int .i64 imm] V fun e w' => e = .returned (.string (mk (Lib.itoa imm))) ∧ Below V.heap.size V w') := fun V => rdec_b imm (by have := hf.n; omega) (by have := hf.n; omega) V
  have HC : Hid (∀ V, Calls Tryz.prog 22 #[.int .u64 (x : Int)] V fun e w' => e = .returned (.string (mk (hexL x))) ∧ Below V.heap.size V w') := fun V => rhex_b x (by have := hf.c; omega) V
  have lA : (mk (regL rs1)).size ≤ 31 := by rw [← regL_mk, ByteArray.size_append]; have := decS_small rs1 (by have := hf.a; omega) (by have := hf.a; omega); have : (⟨#[120]⟩ : ByteArray).size = 1 := rfl; omega
  have lN : (mk (Lib.itoa imm)).size ≤ 30 := by rw [← decS_mk]; exact decS_small imm (by have := hf.n; omega) (by have := hf.n; omega)
  have hx : x ≤ 4095 := by have := hf.c; omega
  have hn := hf.n
  clear hO hf
  have HM : Hid (mk (Lib.itoa imm ++ [40] ++ regL rs1 ++ [41]) = mk (Lib.itoa imm) ++ ⟨#[40]⟩ ++ mk (regL rs1) ++ ⟨#[41]⟩) := by show _ = _; rw [← mk_app, ← mk_app, ← mk_app]; rfl
  have HP : Hid (mk ([40] ++ regL rs1 ++ [41]) = ⟨#[40]⟩ ++ mk (regL rs1) ++ ⟨#[41]⟩) := by show _ = _; rw [← mk_app, ← mk_app]; rfl
  go_enter Tryz.func32, Tryz.ntmps32
  go_wp2_with fail
  go_region_held3 (fun V => V.cell? ⟨w.heap.size, 0, none⟩ = some (.int .i64 k) ∧ V.cell? ⟨w.heap.size, 1, none⟩ = some (.int .i64 rd) ∧ V.cell? ⟨w.heap.size, 2, none⟩ = some (.int .i64 rs1) ∧ V.cell? ⟨w.heap.size, 3, none⟩ = some (.int .i64 rs2) ∧ V.cell? ⟨w.heap.size, 4, none⟩ = some (.int .i64 imm) ∧ V.cell? ⟨w.heap.size, 5, none⟩ = some (.int .i64 x) ∧ V.cell? ⟨w.heap.size, 6, none⟩ = some (.bool aq) ∧ V.cell? ⟨w.heap.size, 7, none⟩ = some (.bool rl)) (go_keep) (first | (go_at_call 12; (with_reducible refine Calls.mono (HD.out _) ?_); rintro e w4 ⟨rfl, hb4⟩; have Z4 : Hid (Below (w.alloc (.cells (instrC k rd rs1 rs2 imm x aq rl) 23)).heap.size (w.alloc (.cells (instrC k rd rs1 rs2 imm x aq rl) 23)) w4) := below_call (by repeat (first | exact Z6.out | exact Z5.out | exact Z4.out | exact Below.refl _ _ | with_reducible refine Below.drew ?_)) hb4; obtain ⟨p0, p1, p2, p3, p4, p5, p6, p7⟩ := box8_facts (below_box8 X.out Z4.out)) | (go_at_call 12; (with_reducible refine Calls.mono (HA.out _) ?_); rintro e w4 ⟨rfl, hb4⟩; have Z4 : Hid (Below (w.alloc (.cells (instrC k rd rs1 rs2 imm x aq rl) 23)).heap.size (w.alloc (.cells (instrC k rd rs1 rs2 imm x aq rl) 23)) w4) := below_call (by repeat (first | exact Z6.out | exact Z5.out | exact Z4.out | exact Below.refl _ _ | with_reducible refine Below.drew ?_)) hb4; obtain ⟨p0, p1, p2, p3, p4, p5, p6, p7⟩ := box8_facts (below_box8 X.out Z4.out)) | (go_at_call 12; (with_reducible refine Calls.mono (HB.out _) ?_); rintro e w4 ⟨rfl, hb4⟩; have Z4 : Hid (Below (w.alloc (.cells (instrC k rd rs1 rs2 imm x aq rl) 23)).heap.size (w.alloc (.cells (instrC k rd rs1 rs2 imm x aq rl) 23)) w4) := below_call (by repeat (first | exact Z6.out | exact Z5.out | exact Z4.out | exact Below.refl _ _ | with_reducible refine Below.drew ?_)) hb4; obtain ⟨p0, p1, p2, p3, p4, p5, p6, p7⟩ := box8_facts (below_box8 X.out Z4.out)) | (go_at_call 34; (with_reducible refine Calls.mono (HN.out _) ?_); rintro e w4 ⟨rfl, hb4⟩; have Z4 : Hid (Below (w.alloc (.cells (instrC k rd rs1 rs2 imm x aq rl) 23)).heap.size (w.alloc (.cells (instrC k rd rs1 rs2 imm x aq rl) 23)) w4) := below_call (by repeat (first | exact Z6.out | exact Z5.out | exact Z4.out | exact Below.refl _ _ | with_reducible refine Below.drew ?_)) hb4; obtain ⟨p0, p1, p2, p3, p4, p5, p6, p7⟩ := box8_facts (below_box8 X.out Z4.out)))
  all_goals go_wp2_with (first | (go_at_call 22; (with_reducible refine Calls.mono (HC.out _) ?_); rintro e w5 ⟨rfl, hb5⟩; have Z5 : Hid (Below (w.alloc (.cells (instrC k rd rs1 rs2 imm x aq rl) 23)).heap.size (w.alloc (.cells (instrC k rd rs1 rs2 imm x aq rl) 23)) w5) := below_call (by repeat (first | exact Z6.out | exact Z5.out | exact Z4.out | exact Below.refl _ _ | with_reducible refine Below.drew ?_)) hb5; obtain ⟨p0, p1, p2, p3, p4, p5, p6, p7⟩ := box8_facts (below_box8 X.out Z5.out)) | (go_at_call 45; (with_reducible refine Calls.mono (HO.out _) ?_); rintro e w6 ⟨rfl, hb6⟩; have hfl := (field72 s 11 cc f3 f7 w6).1; have Z6 : Hid (Below (w.alloc (.cells (instrC k rd rs1 rs2 imm x aq rl) 23)).heap.size (w.alloc (.cells (instrC k rd rs1 rs2 imm x aq rl) 23)) w6) := below_call (by repeat (first | exact Z6.out | exact Z5.out | exact Z4.out | exact Below.refl _ _ | with_reducible refine Below.drew ?_)) hb6; obtain ⟨p0, p1, p2, p3, p4, p5, p6, p7⟩ := box8_facts (below_box8 X.out Z6.out)))
  go_ret
  exact ⟨⟨_, rfl, .inl ⟨rfl, rfl⟩⟩, below_call B.out Z6.out⟩
set_option maxRecDepth 100000 in
set_option maxHeartbeats 2000000 in
theorem takes_15 (k : Nat) (rd rs1 rs2 imm : Int) (x : Nat) (aq rl : Bool) (hf : Fits rd rs1 rs2 imm x) (s : ByteArray) (cc f3 f7 : Int) (hO : OfIs k s 15 cc f3 f7) (w : World) : Calls Tryz.prog 32 #[.agg (instrC k rd rs1 rs2 imm x aq rl)] w fun e w' => (∃ v, e = .returned v ∧ RowAt w' v [regL rd, regL rs2, [40] ++ regL rs1 ++ [41]]) ∧ Below w.heap.size w w' := by
  have B : Hid (Below w.heap.size w (w.alloc (.cells (instrC k rd rs1 rs2 imm x aq rl) 23))) := (Below.refl _ _).alloc (Nat.le_refl _) _
  have X : Hid ((w.alloc (.cells (instrC k rd rs1 rs2 imm x aq rl) 23)).heap[w.heap.size]? = some (.cells (instrC k rd rs1 rs2 imm x aq rl) 23 (0, 0))) := heap_alloc_new w _
  have HO : Hid (∀ w, Calls Tryz.prog 45 #[.int .i64 (k : Nat)] w fun e w' => e = .returned (.agg #[.string s, .int .i64 15, .int .i64 cc, .int .i64 f3, .int .i64 f7]) ∧ Below w.heap.size w w') := hO
  have HD : Hid (∀ V, Calls Tryz.prog 12 #[.int .i64 rd] V fun e w' => e = .returned (.string (mk (regL rd))) ∧ Below V.heap.size V w') := fun V => dreg_any rd (by have := hf.d; omega) (by have := hf.d; omega) V
  have HA : Hid (∀ V, Calls Tryz.prog 12 #[.int .i64 rs1] V fun e w' => e = .returned (.string (mk (regL rs1))) ∧ Below V.heap.size V w') := fun V => dreg_any rs1 (by have := hf.a; omega) (by have := hf.a; omega) V
  have HB : Hid (∀ V, Calls Tryz.prog 12 #[.int .i64 rs2] V fun e w' => e = .returned (.string (mk (regL rs2))) ∧ Below V.heap.size V w') := fun V => dreg_any rs2 (by have := hf.b; omega) (by have := hf.b; omega) V
  have HN : Hid (∀ V, Calls Tryz.prog 34 #[.int .i64 imm] V fun e w' => e = .returned (.string (mk (Lib.itoa imm))) ∧ Below V.heap.size V w') := fun V => rdec_b imm (by have := hf.n; omega) (by have := hf.n; omega) V
  have HC : Hid (∀ V, Calls Tryz.prog 22 #[.int .u64 (x : Int)] V fun e w' => e = .returned (.string (mk (hexL x))) ∧ Below V.heap.size V w') := fun V => rhex_b x (by have := hf.c; omega) V
  have lA : (mk (regL rs1)).size ≤ 31 := by rw [← regL_mk, ByteArray.size_append]; have := decS_small rs1 (by have := hf.a; omega) (by have := hf.a; omega); have : (⟨#[120]⟩ : ByteArray).size = 1 := rfl; omega
  have lN : (mk (Lib.itoa imm)).size ≤ 30 := by rw [← decS_mk]; exact decS_small imm (by have := hf.n; omega) (by have := hf.n; omega)
  have hx : x ≤ 4095 := by have := hf.c; omega
  have hn := hf.n
  clear hO hf
  have HM : Hid (mk (Lib.itoa imm ++ [40] ++ regL rs1 ++ [41]) = mk (Lib.itoa imm) ++ ⟨#[40]⟩ ++ mk (regL rs1) ++ ⟨#[41]⟩) := by show _ = _; rw [← mk_app, ← mk_app, ← mk_app]; rfl
  have HP : Hid (mk ([40] ++ regL rs1 ++ [41]) = ⟨#[40]⟩ ++ mk (regL rs1) ++ ⟨#[41]⟩) := by show _ = _; rw [← mk_app, ← mk_app]; rfl
  go_enter Tryz.func32, Tryz.ntmps32
  go_wp2_with fail
  go_region_held3 (fun V => V.cell? ⟨w.heap.size, 0, none⟩ = some (.int .i64 k) ∧ V.cell? ⟨w.heap.size, 1, none⟩ = some (.int .i64 rd) ∧ V.cell? ⟨w.heap.size, 2, none⟩ = some (.int .i64 rs1) ∧ V.cell? ⟨w.heap.size, 3, none⟩ = some (.int .i64 rs2) ∧ V.cell? ⟨w.heap.size, 4, none⟩ = some (.int .i64 imm) ∧ V.cell? ⟨w.heap.size, 5, none⟩ = some (.int .i64 x) ∧ V.cell? ⟨w.heap.size, 6, none⟩ = some (.bool aq) ∧ V.cell? ⟨w.heap.size, 7, none⟩ = some (.bool rl)) (go_keep) (first | (go_at_call 12; (with_reducible refine Calls.mono (HD.out _) ?_); rintro e w4 ⟨rfl, hb4⟩; have Z4 : Hid (Below (w.alloc (.cells (instrC k rd rs1 rs2 imm x aq rl) 23)).heap.size (w.alloc (.cells (instrC k rd rs1 rs2 imm x aq rl) 23)) w4) := below_call (by repeat (first | exact Z6.out | exact Z5.out | exact Z4.out | exact Below.refl _ _ | with_reducible refine Below.drew ?_)) hb4; obtain ⟨p0, p1, p2, p3, p4, p5, p6, p7⟩ := box8_facts (below_box8 X.out Z4.out)) | (go_at_call 12; (with_reducible refine Calls.mono (HA.out _) ?_); rintro e w4 ⟨rfl, hb4⟩; have Z4 : Hid (Below (w.alloc (.cells (instrC k rd rs1 rs2 imm x aq rl) 23)).heap.size (w.alloc (.cells (instrC k rd rs1 rs2 imm x aq rl) 23)) w4) := below_call (by repeat (first | exact Z6.out | exact Z5.out | exact Z4.out | exact Below.refl _ _ | with_reducible refine Below.drew ?_)) hb4; obtain ⟨p0, p1, p2, p3, p4, p5, p6, p7⟩ := box8_facts (below_box8 X.out Z4.out)) | (go_at_call 12; (with_reducible refine Calls.mono (HB.out _) ?_); rintro e w4 ⟨rfl, hb4⟩; have Z4 : Hid (Below (w.alloc (.cells (instrC k rd rs1 rs2 imm x aq rl) 23)).heap.size (w.alloc (.cells (instrC k rd rs1 rs2 imm x aq rl) 23)) w4) := below_call (by repeat (first | exact Z6.out | exact Z5.out | exact Z4.out | exact Below.refl _ _ | with_reducible refine Below.drew ?_)) hb4; obtain ⟨p0, p1, p2, p3, p4, p5, p6, p7⟩ := box8_facts (below_box8 X.out Z4.out)) | (go_at_call 34; (with_reducible refine Calls.mono (HN.out _) ?_); rintro e w4 ⟨rfl, hb4⟩; have Z4 : Hid (Below (w.alloc (.cells (instrC k rd rs1 rs2 imm x aq rl) 23)).heap.size (w.alloc (.cells (instrC k rd rs1 rs2 imm x aq rl) 23)) w4) := below_call (by repeat (first | exact Z6.out | exact Z5.out | exact Z4.out | exact Below.refl _ _ | with_reducible refine Below.drew ?_)) hb4; obtain ⟨p0, p1, p2, p3, p4, p5, p6, p7⟩ := box8_facts (below_box8 X.out Z4.out)))
  all_goals go_wp2_with (first | (go_at_call 22; (with_reducible refine Calls.mono (HC.out _) ?_); rintro e w5 ⟨rfl, hb5⟩; have Z5 : Hid (Below (w.alloc (.cells (instrC k rd rs1 rs2 imm x aq rl) 23)).heap.size (w.alloc (.cells (instrC k rd rs1 rs2 imm x aq rl) 23)) w5) := below_call (by repeat (first | exact Z6.out | exact Z5.out | exact Z4.out | exact Below.refl _ _ | with_reducible refine Below.drew ?_)) hb5; obtain ⟨p0, p1, p2, p3, p4, p5, p6, p7⟩ := box8_facts (below_box8 X.out Z5.out)) | (go_at_call 45; (with_reducible refine Calls.mono (HO.out _) ?_); rintro e w6 ⟨rfl, hb6⟩; have hfl := (field72 s 15 cc f3 f7 w6).1; have Z6 : Hid (Below (w.alloc (.cells (instrC k rd rs1 rs2 imm x aq rl) 23)).heap.size (w.alloc (.cells (instrC k rd rs1 rs2 imm x aq rl) 23)) w6) := below_call (by repeat (first | exact Z6.out | exact Z5.out | exact Z4.out | exact Below.refl _ _ | with_reducible refine Below.drew ?_)) hb6; obtain ⟨p0, p1, p2, p3, p4, p5, p6, p7⟩ := box8_facts (below_box8 X.out Z6.out)))
  go_ret
  exact ⟨⟨_, rfl, row_3 _  _ _ _  _ _ _ rfl rfl HP.out.symm⟩, (below_call B.out Z6.out).alloc (below_call B.out Z6.out).size _⟩
end Go.Proofs.YtooaafbdjnlmfaaGreatDoor

namespace Go.Proofs.YtooaafbdjnlmfaaGreatDoor
open Go.RowKit
set_option linter.unusedVariables false
set_option linter.unusedSimpArgs false
set_option maxRecDepth 100000 in
set_option maxHeartbeats 2000000 in
theorem takes_4 (k : Nat) (rd rs1 rs2 imm : Int) (x : Nat) (aq rl : Bool) (hf : Fits rd rs1 rs2 imm x) (s : ByteArray) (cc f3 f7 : Int) (hO : OfIs k s 4 cc f3 f7) (w : World) : Calls Tryz.prog 32 #[.agg (instrC k rd rs1 rs2 imm x aq rl)] w fun e w' => (∃ v, e = .returned v ∧ RowAt w' v [regL rs1, regL rs2, Lib.itoa imm]) ∧ Below w.heap.size w w' := by
  have B : Hid (Below w.heap.size w (w.alloc (.cells (instrC k rd rs1 rs2 imm x aq rl) 23))) := (Below.refl _ _).alloc (Nat.le_refl _) _
  have X : Hid ((w.alloc (.cells (instrC k rd rs1 rs2 imm x aq rl) 23)).heap[w.heap.size]? = some (.cells (instrC k rd rs1 rs2 imm x aq rl) 23 (0, 0))) := heap_alloc_new w _
  have HO : Hid (∀ w, Calls Tryz.prog 45 #[.int .i64 (k : Nat)] w fun e w' => e = .returned (.agg #[.string s, .int .i64 4, .int .i64 cc, .int .i64 f3, .int .i64 f7]) ∧ Below w.heap.size w w') := hO
  have HD : Hid (∀ V, Calls Tryz.prog 12 #[.int .i64 rd] V fun e w' => e = .returned (.string (mk (regL rd))) ∧ Below V.heap.size V w') := fun V => dreg_any rd (by have := hf.d; omega) (by have := hf.d; omega) V
  have HA : Hid (∀ V, Calls Tryz.prog 12 #[.int .i64 rs1] V fun e w' => e = .returned (.string (mk (regL rs1))) ∧ Below V.heap.size V w') := fun V => dreg_any rs1 (by have := hf.a; omega) (by have := hf.a; omega) V
  have HB : Hid (∀ V, Calls Tryz.prog 12 #[.int .i64 rs2] V fun e w' => e = .returned (.string (mk (regL rs2))) ∧ Below V.heap.size V w') := fun V => dreg_any rs2 (by have := hf.b; omega) (by have := hf.b; omega) V
  have HN : Hid (∀ V, Calls Tryz.prog 34 #[.int .i64 imm] V fun e w' => e = .returned (.string (mk (Lib.itoa imm))) ∧ Below V.heap.size V w') := fun V => rdec_b imm (by have := hf.n; omega) (by have := hf.n; omega) V
  have HC : Hid (∀ V, Calls Tryz.prog 22 #[.int .u64 (x : Int)] V fun e w' => e = .returned (.string (mk (hexL x))) ∧ Below V.heap.size V w') := fun V => rhex_b x (by have := hf.c; omega) V
  have lA : (mk (regL rs1)).size ≤ 31 := by rw [← regL_mk, ByteArray.size_append]; have := decS_small rs1 (by have := hf.a; omega) (by have := hf.a; omega); have : (⟨#[120]⟩ : ByteArray).size = 1 := rfl; omega
  have lN : (mk (Lib.itoa imm)).size ≤ 30 := by rw [← decS_mk]; exact decS_small imm (by have := hf.n; omega) (by have := hf.n; omega)
  have hx : x ≤ 4095 := by have := hf.c; omega
  have hn := hf.n
  clear hO hf
  have HM : Hid (mk (Lib.itoa imm ++ [40] ++ regL rs1 ++ [41]) = mk (Lib.itoa imm) ++ ⟨#[40]⟩ ++ mk (regL rs1) ++ ⟨#[41]⟩) := by show _ = _; rw [← mk_app, ← mk_app, ← mk_app]; rfl
  have HP : Hid (mk ([40] ++ regL rs1 ++ [41]) = ⟨#[40]⟩ ++ mk (regL rs1) ++ ⟨#[41]⟩) := by show _ = _; rw [← mk_app, ← mk_app]; rfl
  go_enter Tryz.func32, Tryz.ntmps32
  go_wp2_with fail
  go_region_held3 (fun V => V.cell? ⟨w.heap.size, 0, none⟩ = some (.int .i64 k) ∧ V.cell? ⟨w.heap.size, 1, none⟩ = some (.int .i64 rd) ∧ V.cell? ⟨w.heap.size, 2, none⟩ = some (.int .i64 rs1) ∧ V.cell? ⟨w.heap.size, 3, none⟩ = some (.int .i64 rs2) ∧ V.cell? ⟨w.heap.size, 4, none⟩ = some (.int .i64 imm) ∧ V.cell? ⟨w.heap.size, 5, none⟩ = some (.int .i64 x) ∧ V.cell? ⟨w.heap.size, 6, none⟩ = some (.bool aq) ∧ V.cell? ⟨w.heap.size, 7, none⟩ = some (.bool rl)) (go_keep) (first | (go_at_call 12; (with_reducible refine Calls.mono (HD.out _) ?_); rintro e w4 ⟨rfl, hb4⟩; have Z4 : Hid (Below (w.alloc (.cells (instrC k rd rs1 rs2 imm x aq rl) 23)).heap.size (w.alloc (.cells (instrC k rd rs1 rs2 imm x aq rl) 23)) w4) := below_call (by repeat (first | exact Z6.out | exact Z5.out | exact Z4.out | exact Below.refl _ _ | with_reducible refine Below.drew ?_)) hb4; obtain ⟨p0, p1, p2, p3, p4, p5, p6, p7⟩ := box8_facts (below_box8 X.out Z4.out)) | (go_at_call 12; (with_reducible refine Calls.mono (HA.out _) ?_); rintro e w4 ⟨rfl, hb4⟩; have Z4 : Hid (Below (w.alloc (.cells (instrC k rd rs1 rs2 imm x aq rl) 23)).heap.size (w.alloc (.cells (instrC k rd rs1 rs2 imm x aq rl) 23)) w4) := below_call (by repeat (first | exact Z6.out | exact Z5.out | exact Z4.out | exact Below.refl _ _ | with_reducible refine Below.drew ?_)) hb4; obtain ⟨p0, p1, p2, p3, p4, p5, p6, p7⟩ := box8_facts (below_box8 X.out Z4.out)) | (go_at_call 12; (with_reducible refine Calls.mono (HB.out _) ?_); rintro e w4 ⟨rfl, hb4⟩; have Z4 : Hid (Below (w.alloc (.cells (instrC k rd rs1 rs2 imm x aq rl) 23)).heap.size (w.alloc (.cells (instrC k rd rs1 rs2 imm x aq rl) 23)) w4) := below_call (by repeat (first | exact Z6.out | exact Z5.out | exact Z4.out | exact Below.refl _ _ | with_reducible refine Below.drew ?_)) hb4; obtain ⟨p0, p1, p2, p3, p4, p5, p6, p7⟩ := box8_facts (below_box8 X.out Z4.out)) | (go_at_call 34; (with_reducible refine Calls.mono (HN.out _) ?_); rintro e w4 ⟨rfl, hb4⟩; have Z4 : Hid (Below (w.alloc (.cells (instrC k rd rs1 rs2 imm x aq rl) 23)).heap.size (w.alloc (.cells (instrC k rd rs1 rs2 imm x aq rl) 23)) w4) := below_call (by repeat (first | exact Z6.out | exact Z5.out | exact Z4.out | exact Below.refl _ _ | with_reducible refine Below.drew ?_)) hb4; obtain ⟨p0, p1, p2, p3, p4, p5, p6, p7⟩ := box8_facts (below_box8 X.out Z4.out)))
  all_goals go_wp2_with (first | (go_at_call 22; (with_reducible refine Calls.mono (HC.out _) ?_); rintro e w5 ⟨rfl, hb5⟩; have Z5 : Hid (Below (w.alloc (.cells (instrC k rd rs1 rs2 imm x aq rl) 23)).heap.size (w.alloc (.cells (instrC k rd rs1 rs2 imm x aq rl) 23)) w5) := below_call (by repeat (first | exact Z6.out | exact Z5.out | exact Z4.out | exact Below.refl _ _ | with_reducible refine Below.drew ?_)) hb5; obtain ⟨p0, p1, p2, p3, p4, p5, p6, p7⟩ := box8_facts (below_box8 X.out Z5.out)) | (go_at_call 45; (with_reducible refine Calls.mono (HO.out _) ?_); rintro e w6 ⟨rfl, hb6⟩; have hfl := (field72 s 4 cc f3 f7 w6).1; have Z6 : Hid (Below (w.alloc (.cells (instrC k rd rs1 rs2 imm x aq rl) 23)).heap.size (w.alloc (.cells (instrC k rd rs1 rs2 imm x aq rl) 23)) w6) := below_call (by repeat (first | exact Z6.out | exact Z5.out | exact Z4.out | exact Below.refl _ _ | with_reducible refine Below.drew ?_)) hb6; obtain ⟨p0, p1, p2, p3, p4, p5, p6, p7⟩ := box8_facts (below_box8 X.out Z6.out)))
  go_ret
  exact ⟨⟨_, rfl, row_3 _  _ _ _  _ _ _ rfl rfl rfl⟩, (below_call B.out Z6.out).alloc (below_call B.out Z6.out).size _⟩
set_option maxRecDepth 100000 in
set_option maxHeartbeats 2000000 in
theorem takes_8 (k : Nat) (rd rs1 rs2 imm : Int) (x : Nat) (aq rl : Bool) (hf : Fits rd rs1 rs2 imm x) (s : ByteArray) (cc f3 f7 : Int) (hO : OfIs k s 8 cc f3 f7) (w : World) : Calls Tryz.prog 32 #[.agg (instrC k rd rs1 rs2 imm x aq rl)] w fun e w' => (∃ v, e = .returned v ∧ RowAt w' v [regL rd, regL rs1, Lib.itoa imm]) ∧ Below w.heap.size w w' := by
  have B : Hid (Below w.heap.size w (w.alloc (.cells (instrC k rd rs1 rs2 imm x aq rl) 23))) := (Below.refl _ _).alloc (Nat.le_refl _) _
  have X : Hid ((w.alloc (.cells (instrC k rd rs1 rs2 imm x aq rl) 23)).heap[w.heap.size]? = some (.cells (instrC k rd rs1 rs2 imm x aq rl) 23 (0, 0))) := heap_alloc_new w _
  have HO : Hid (∀ w, Calls Tryz.prog 45 #[.int .i64 (k : Nat)] w fun e w' => e = .returned (.agg #[.string s, .int .i64 8, .int .i64 cc, .int .i64 f3, .int .i64 f7]) ∧ Below w.heap.size w w') := hO
  have HNB : Hid (∀ V, Calls Tryz.prog 71 #[.int .i64 (k : Nat)] V fun e w' => e = .returned (.bool true) ∧ Below V.heap.size V w') := fun V => numbered_8 k s cc f3 f7 hO V
  have HD : Hid (∀ V, Calls Tryz.prog 12 #[.int .i64 rd] V fun e w' => e = .returned (.string (mk (regL rd))) ∧ Below V.heap.size V w') := fun V => dreg_any rd (by have := hf.d; omega) (by have := hf.d; omega) V
  have HA : Hid (∀ V, Calls Tryz.prog 12 #[.int .i64 rs1] V fun e w' => e = .returned (.string (mk (regL rs1))) ∧ Below V.heap.size V w') := fun V => dreg_any rs1 (by have := hf.a; omega) (by have := hf.a; omega) V
  have HB : Hid (∀ V, Calls Tryz.prog 12 #[.int .i64 rs2] V fun e w' => e = .returned (.string (mk (regL rs2))) ∧ Below V.heap.size V w') := fun V => dreg_any rs2 (by have := hf.b; omega) (by have := hf.b; omega) V
  have HN : Hid (∀ V, Calls Tryz.prog 34 #[.int .i64 imm] V fun e w' => e = .returned (.string (mk (Lib.itoa imm))) ∧ Below V.heap.size V w') := fun V => rdec_b imm (by have := hf.n; omega) (by have := hf.n; omega) V
  have HC : Hid (∀ V, Calls Tryz.prog 22 #[.int .u64 (x : Int)] V fun e w' => e = .returned (.string (mk (hexL x))) ∧ Below V.heap.size V w') := fun V => rhex_b x (by have := hf.c; omega) V
  have lA : (mk (regL rs1)).size ≤ 31 := by rw [← regL_mk, ByteArray.size_append]; have := decS_small rs1 (by have := hf.a; omega) (by have := hf.a; omega); have : (⟨#[120]⟩ : ByteArray).size = 1 := rfl; omega
  have lN : (mk (Lib.itoa imm)).size ≤ 30 := by rw [← decS_mk]; exact decS_small imm (by have := hf.n; omega) (by have := hf.n; omega)
  have hx : x ≤ 4095 := by have := hf.c; omega
  have hn := hf.n
  clear hO hf
  have HM : Hid (mk (Lib.itoa imm ++ [40] ++ regL rs1 ++ [41]) = mk (Lib.itoa imm) ++ ⟨#[40]⟩ ++ mk (regL rs1) ++ ⟨#[41]⟩) := by show _ = _; rw [← mk_app, ← mk_app, ← mk_app]; rfl
  have HP : Hid (mk ([40] ++ regL rs1 ++ [41]) = ⟨#[40]⟩ ++ mk (regL rs1) ++ ⟨#[41]⟩) := by show _ = _; rw [← mk_app, ← mk_app]; rfl
  go_enter Tryz.func32, Tryz.ntmps32
  go_wp2_with fail
  go_region_held3 (fun V => V.cell? ⟨w.heap.size, 0, none⟩ = some (.int .i64 k) ∧ V.cell? ⟨w.heap.size, 1, none⟩ = some (.int .i64 rd) ∧ V.cell? ⟨w.heap.size, 2, none⟩ = some (.int .i64 rs1) ∧ V.cell? ⟨w.heap.size, 3, none⟩ = some (.int .i64 rs2) ∧ V.cell? ⟨w.heap.size, 4, none⟩ = some (.int .i64 imm) ∧ V.cell? ⟨w.heap.size, 5, none⟩ = some (.int .i64 x) ∧ V.cell? ⟨w.heap.size, 6, none⟩ = some (.bool aq) ∧ V.cell? ⟨w.heap.size, 7, none⟩ = some (.bool rl)) (go_keep) (first | (go_at_call 12; (with_reducible refine Calls.mono (HD.out _) ?_); rintro e w4 ⟨rfl, hb4⟩; have Z4 : Hid (Below (w.alloc (.cells (instrC k rd rs1 rs2 imm x aq rl) 23)).heap.size (w.alloc (.cells (instrC k rd rs1 rs2 imm x aq rl) 23)) w4) := below_call (by repeat (first | exact Z6.out | exact Z5.out | exact Z4.out | exact Below.refl _ _ | with_reducible refine Below.drew ?_)) hb4; obtain ⟨p0, p1, p2, p3, p4, p5, p6, p7⟩ := box8_facts (below_box8 X.out Z4.out)) | (go_at_call 12; (with_reducible refine Calls.mono (HA.out _) ?_); rintro e w4 ⟨rfl, hb4⟩; have Z4 : Hid (Below (w.alloc (.cells (instrC k rd rs1 rs2 imm x aq rl) 23)).heap.size (w.alloc (.cells (instrC k rd rs1 rs2 imm x aq rl) 23)) w4) := below_call (by repeat (first | exact Z6.out | exact Z5.out | exact Z4.out | exact Below.refl _ _ | with_reducible refine Below.drew ?_)) hb4; obtain ⟨p0, p1, p2, p3, p4, p5, p6, p7⟩ := box8_facts (below_box8 X.out Z4.out)) | (go_at_call 12; (with_reducible refine Calls.mono (HB.out _) ?_); rintro e w4 ⟨rfl, hb4⟩; have Z4 : Hid (Below (w.alloc (.cells (instrC k rd rs1 rs2 imm x aq rl) 23)).heap.size (w.alloc (.cells (instrC k rd rs1 rs2 imm x aq rl) 23)) w4) := below_call (by repeat (first | exact Z6.out | exact Z5.out | exact Z4.out | exact Below.refl _ _ | with_reducible refine Below.drew ?_)) hb4; obtain ⟨p0, p1, p2, p3, p4, p5, p6, p7⟩ := box8_facts (below_box8 X.out Z4.out)) | (go_at_call 34; (with_reducible refine Calls.mono (HN.out _) ?_); rintro e w4 ⟨rfl, hb4⟩; have Z4 : Hid (Below (w.alloc (.cells (instrC k rd rs1 rs2 imm x aq rl) 23)).heap.size (w.alloc (.cells (instrC k rd rs1 rs2 imm x aq rl) 23)) w4) := below_call (by repeat (first | exact Z6.out | exact Z5.out | exact Z4.out | exact Below.refl _ _ | with_reducible refine Below.drew ?_)) hb4; obtain ⟨p0, p1, p2, p3, p4, p5, p6, p7⟩ := box8_facts (below_box8 X.out Z4.out)))
  all_goals go_wp2_with (first | (go_at_call 22; (with_reducible refine Calls.mono (HC.out _) ?_); rintro e w5 ⟨rfl, hb5⟩; have Z5 : Hid (Below (w.alloc (.cells (instrC k rd rs1 rs2 imm x aq rl) 23)).heap.size (w.alloc (.cells (instrC k rd rs1 rs2 imm x aq rl) 23)) w5) := below_call (by repeat (first | exact Z6.out | exact Z5.out | exact Z4.out | exact Below.refl _ _ | with_reducible refine Below.drew ?_)) hb5; obtain ⟨p0, p1, p2, p3, p4, p5, p6, p7⟩ := box8_facts (below_box8 X.out Z5.out)) | (go_at_call 45; (with_reducible refine Calls.mono (HO.out _) ?_); rintro e w6 ⟨rfl, hb6⟩; have hfl := (field72 s 8 cc f3 f7 w6).1; have Z6 : Hid (Below (w.alloc (.cells (instrC k rd rs1 rs2 imm x aq rl) 23)).heap.size (w.alloc (.cells (instrC k rd rs1 rs2 imm x aq rl) 23)) w6) := below_call (by repeat (first | exact Z6.out | exact Z5.out | exact Z4.out | exact Below.refl _ _ | with_reducible refine Below.drew ?_)) hb6; obtain ⟨p0, p1, p2, p3, p4, p5, p6, p7⟩ := box8_facts (below_box8 X.out Z6.out)) | (go_at_call 71; (with_reducible refine Calls.mono (HNB.out _) ?_); rintro e w7 ⟨rfl, hb7⟩; have Z7 : Hid (Below (w.alloc (.cells (instrC k rd rs1 rs2 imm x aq rl) 23)).heap.size (w.alloc (.cells (instrC k rd rs1 rs2 imm x aq rl) 23)) w7) := below_call Z6.out hb7; obtain ⟨p0, p1, p2, p3, p4, p5, p6, p7⟩ := box8_facts (below_box8 X.out Z7.out)))
  go_ret
  exact ⟨⟨_, rfl, row_3 _  _ _ _  _ _ _ rfl rfl rfl⟩, (below_call B.out Z7.out).alloc (below_call B.out Z7.out).size _⟩
set_option maxRecDepth 100000 in
set_option maxHeartbeats 2000000 in
theorem takes_12 (k : Nat) (rd rs1 rs2 imm : Int) (x : Nat) (aq rl : Bool) (hf : Fits rd rs1 rs2 imm x) (s : ByteArray) (cc f3 f7 : Int) (hO : OfIs k s 12 cc f3 f7) (w : World) : Calls Tryz.prog 32 #[.agg (instrC k rd rs1 rs2 imm x aq rl)] w fun e w' => (∃ v, e = .returned v ∧ RowAt w' v [regL rd, hexL x, regL rs1]) ∧ Below w.heap.size w w' := by
  have B : Hid (Below w.heap.size w (w.alloc (.cells (instrC k rd rs1 rs2 imm x aq rl) 23))) := (Below.refl _ _).alloc (Nat.le_refl _) _
  have X : Hid ((w.alloc (.cells (instrC k rd rs1 rs2 imm x aq rl) 23)).heap[w.heap.size]? = some (.cells (instrC k rd rs1 rs2 imm x aq rl) 23 (0, 0))) := heap_alloc_new w _
  have HO : Hid (∀ w, Calls Tryz.prog 45 #[.int .i64 (k : Nat)] w fun e w' => e = .returned (.agg #[.string s, .int .i64 12, .int .i64 cc, .int .i64 f3, .int .i64 f7]) ∧ Below w.heap.size w w') := hO
  have HD : Hid (∀ V, Calls Tryz.prog 12 #[.int .i64 rd] V fun e w' => e = .returned (.string (mk (regL rd))) ∧ Below V.heap.size V w') := fun V => dreg_any rd (by have := hf.d; omega) (by have := hf.d; omega) V
  have HA : Hid (∀ V, Calls Tryz.prog 12 #[.int .i64 rs1] V fun e w' => e = .returned (.string (mk (regL rs1))) ∧ Below V.heap.size V w') := fun V => dreg_any rs1 (by have := hf.a; omega) (by have := hf.a; omega) V
  have HB : Hid (∀ V, Calls Tryz.prog 12 #[.int .i64 rs2] V fun e w' => e = .returned (.string (mk (regL rs2))) ∧ Below V.heap.size V w') := fun V => dreg_any rs2 (by have := hf.b; omega) (by have := hf.b; omega) V
  have HN : Hid (∀ V, Calls Tryz.prog 34 #[.int .i64 imm] V fun e w' => e = .returned (.string (mk (Lib.itoa imm))) ∧ Below V.heap.size V w') := fun V => rdec_b imm (by have := hf.n; omega) (by have := hf.n; omega) V
  have HC : Hid (∀ V, Calls Tryz.prog 22 #[.int .u64 (x : Int)] V fun e w' => e = .returned (.string (mk (hexL x))) ∧ Below V.heap.size V w') := fun V => rhex_b x (by have := hf.c; omega) V
  have lA : (mk (regL rs1)).size ≤ 31 := by rw [← regL_mk, ByteArray.size_append]; have := decS_small rs1 (by have := hf.a; omega) (by have := hf.a; omega); have : (⟨#[120]⟩ : ByteArray).size = 1 := rfl; omega
  have lN : (mk (Lib.itoa imm)).size ≤ 30 := by rw [← decS_mk]; exact decS_small imm (by have := hf.n; omega) (by have := hf.n; omega)
  have hx : x ≤ 4095 := by have := hf.c; omega
  have hn := hf.n
  clear hO hf
  have HM : Hid (mk (Lib.itoa imm ++ [40] ++ regL rs1 ++ [41]) = mk (Lib.itoa imm) ++ ⟨#[40]⟩ ++ mk (regL rs1) ++ ⟨#[41]⟩) := by show _ = _; rw [← mk_app, ← mk_app, ← mk_app]; rfl
  have HP : Hid (mk ([40] ++ regL rs1 ++ [41]) = ⟨#[40]⟩ ++ mk (regL rs1) ++ ⟨#[41]⟩) := by show _ = _; rw [← mk_app, ← mk_app]; rfl
  go_enter Tryz.func32, Tryz.ntmps32
  go_wp2_with fail
  go_region_held3 (fun V => V.cell? ⟨w.heap.size, 0, none⟩ = some (.int .i64 k) ∧ V.cell? ⟨w.heap.size, 1, none⟩ = some (.int .i64 rd) ∧ V.cell? ⟨w.heap.size, 2, none⟩ = some (.int .i64 rs1) ∧ V.cell? ⟨w.heap.size, 3, none⟩ = some (.int .i64 rs2) ∧ V.cell? ⟨w.heap.size, 4, none⟩ = some (.int .i64 imm) ∧ V.cell? ⟨w.heap.size, 5, none⟩ = some (.int .i64 x) ∧ V.cell? ⟨w.heap.size, 6, none⟩ = some (.bool aq) ∧ V.cell? ⟨w.heap.size, 7, none⟩ = some (.bool rl)) (go_keep) (first | (go_at_call 12; (with_reducible refine Calls.mono (HD.out _) ?_); rintro e w4 ⟨rfl, hb4⟩; have Z4 : Hid (Below (w.alloc (.cells (instrC k rd rs1 rs2 imm x aq rl) 23)).heap.size (w.alloc (.cells (instrC k rd rs1 rs2 imm x aq rl) 23)) w4) := below_call (by repeat (first | exact Z6.out | exact Z5.out | exact Z4.out | exact Below.refl _ _ | with_reducible refine Below.drew ?_)) hb4; obtain ⟨p0, p1, p2, p3, p4, p5, p6, p7⟩ := box8_facts (below_box8 X.out Z4.out)) | (go_at_call 12; (with_reducible refine Calls.mono (HA.out _) ?_); rintro e w4 ⟨rfl, hb4⟩; have Z4 : Hid (Below (w.alloc (.cells (instrC k rd rs1 rs2 imm x aq rl) 23)).heap.size (w.alloc (.cells (instrC k rd rs1 rs2 imm x aq rl) 23)) w4) := below_call (by repeat (first | exact Z6.out | exact Z5.out | exact Z4.out | exact Below.refl _ _ | with_reducible refine Below.drew ?_)) hb4; obtain ⟨p0, p1, p2, p3, p4, p5, p6, p7⟩ := box8_facts (below_box8 X.out Z4.out)) | (go_at_call 12; (with_reducible refine Calls.mono (HB.out _) ?_); rintro e w4 ⟨rfl, hb4⟩; have Z4 : Hid (Below (w.alloc (.cells (instrC k rd rs1 rs2 imm x aq rl) 23)).heap.size (w.alloc (.cells (instrC k rd rs1 rs2 imm x aq rl) 23)) w4) := below_call (by repeat (first | exact Z6.out | exact Z5.out | exact Z4.out | exact Below.refl _ _ | with_reducible refine Below.drew ?_)) hb4; obtain ⟨p0, p1, p2, p3, p4, p5, p6, p7⟩ := box8_facts (below_box8 X.out Z4.out)) | (go_at_call 34; (with_reducible refine Calls.mono (HN.out _) ?_); rintro e w4 ⟨rfl, hb4⟩; have Z4 : Hid (Below (w.alloc (.cells (instrC k rd rs1 rs2 imm x aq rl) 23)).heap.size (w.alloc (.cells (instrC k rd rs1 rs2 imm x aq rl) 23)) w4) := below_call (by repeat (first | exact Z6.out | exact Z5.out | exact Z4.out | exact Below.refl _ _ | with_reducible refine Below.drew ?_)) hb4; obtain ⟨p0, p1, p2, p3, p4, p5, p6, p7⟩ := box8_facts (below_box8 X.out Z4.out)))
  all_goals go_wp2_with (first | (go_at_call 22; (with_reducible refine Calls.mono (HC.out _) ?_); rintro e w5 ⟨rfl, hb5⟩; have Z5 : Hid (Below (w.alloc (.cells (instrC k rd rs1 rs2 imm x aq rl) 23)).heap.size (w.alloc (.cells (instrC k rd rs1 rs2 imm x aq rl) 23)) w5) := below_call (by repeat (first | exact Z6.out | exact Z5.out | exact Z4.out | exact Below.refl _ _ | with_reducible refine Below.drew ?_)) hb5; obtain ⟨p0, p1, p2, p3, p4, p5, p6, p7⟩ := box8_facts (below_box8 X.out Z5.out)) | (go_at_call 45; (with_reducible refine Calls.mono (HO.out _) ?_); rintro e w6 ⟨rfl, hb6⟩; have hfl := (field72 s 12 cc f3 f7 w6).1; have Z6 : Hid (Below (w.alloc (.cells (instrC k rd rs1 rs2 imm x aq rl) 23)).heap.size (w.alloc (.cells (instrC k rd rs1 rs2 imm x aq rl) 23)) w6) := below_call (by repeat (first | exact Z6.out | exact Z5.out | exact Z4.out | exact Below.refl _ _ | with_reducible refine Below.drew ?_)) hb6; obtain ⟨p0, p1, p2, p3, p4, p5, p6, p7⟩ := box8_facts (below_box8 X.out Z6.out)))
  go_ret
  exact ⟨⟨_, rfl, row_3 _  _ _ _  _ _ _ rfl rfl rfl⟩, (below_call B.out Z6.out).alloc (below_call B.out Z6.out).size _⟩
set_option maxRecDepth 100000 in
set_option maxHeartbeats 2000000 in
theorem takes_16 (k : Nat) (rd rs1 rs2 imm : Int) (x : Nat) (aq rl : Bool) (hf : Fits rd rs1 rs2 imm x) (s : ByteArray) (cc f3 f7 : Int) (hO : OfIs k s 16 cc f3 f7) (w : World) : Calls Tryz.prog 32 #[.agg (instrC k rd rs1 rs2 imm x aq rl)] w fun e w' => (∃ v, e = .returned v ∧ RowAt w' v [regL rs1, regL rs2]) ∧ Below w.heap.size w w' := by
  have B : Hid (Below w.heap.size w (w.alloc (.cells (instrC k rd rs1 rs2 imm x aq rl) 23))) := (Below.refl _ _).alloc (Nat.le_refl _) _
  have X : Hid ((w.alloc (.cells (instrC k rd rs1 rs2 imm x aq rl) 23)).heap[w.heap.size]? = some (.cells (instrC k rd rs1 rs2 imm x aq rl) 23 (0, 0))) := heap_alloc_new w _
  have HO : Hid (∀ w, Calls Tryz.prog 45 #[.int .i64 (k : Nat)] w fun e w' => e = .returned (.agg #[.string s, .int .i64 16, .int .i64 cc, .int .i64 f3, .int .i64 f7]) ∧ Below w.heap.size w w') := hO
  have HD : Hid (∀ V, Calls Tryz.prog 12 #[.int .i64 rd] V fun e w' => e = .returned (.string (mk (regL rd))) ∧ Below V.heap.size V w') := fun V => dreg_any rd (by have := hf.d; omega) (by have := hf.d; omega) V
  have HA : Hid (∀ V, Calls Tryz.prog 12 #[.int .i64 rs1] V fun e w' => e = .returned (.string (mk (regL rs1))) ∧ Below V.heap.size V w') := fun V => dreg_any rs1 (by have := hf.a; omega) (by have := hf.a; omega) V
  have HB : Hid (∀ V, Calls Tryz.prog 12 #[.int .i64 rs2] V fun e w' => e = .returned (.string (mk (regL rs2))) ∧ Below V.heap.size V w') := fun V => dreg_any rs2 (by have := hf.b; omega) (by have := hf.b; omega) V
  have HN : Hid (∀ V, Calls Tryz.prog 34 #[.int .i64 imm] V fun e w' => e = .returned (.string (mk (Lib.itoa imm))) ∧ Below V.heap.size V w') := fun V => rdec_b imm (by have := hf.n; omega) (by have := hf.n; omega) V
  have HC : Hid (∀ V, Calls Tryz.prog 22 #[.int .u64 (x : Int)] V fun e w' => e = .returned (.string (mk (hexL x))) ∧ Below V.heap.size V w') := fun V => rhex_b x (by have := hf.c; omega) V
  have lA : (mk (regL rs1)).size ≤ 31 := by rw [← regL_mk, ByteArray.size_append]; have := decS_small rs1 (by have := hf.a; omega) (by have := hf.a; omega); have : (⟨#[120]⟩ : ByteArray).size = 1 := rfl; omega
  have lN : (mk (Lib.itoa imm)).size ≤ 30 := by rw [← decS_mk]; exact decS_small imm (by have := hf.n; omega) (by have := hf.n; omega)
  have hx : x ≤ 4095 := by have := hf.c; omega
  have hn := hf.n
  clear hO hf
  have HM : Hid (mk (Lib.itoa imm ++ [40] ++ regL rs1 ++ [41]) = mk (Lib.itoa imm) ++ ⟨#[40]⟩ ++ mk (regL rs1) ++ ⟨#[41]⟩) := by show _ = _; rw [← mk_app, ← mk_app, ← mk_app]; rfl
  have HP : Hid (mk ([40] ++ regL rs1 ++ [41]) = ⟨#[40]⟩ ++ mk (regL rs1) ++ ⟨#[41]⟩) := by show _ = _; rw [← mk_app, ← mk_app]; rfl
  go_enter Tryz.func32, Tryz.ntmps32
  go_wp2_with fail
  go_region_held3 (fun V => V.cell? ⟨w.heap.size, 0, none⟩ = some (.int .i64 k) ∧ V.cell? ⟨w.heap.size, 1, none⟩ = some (.int .i64 rd) ∧ V.cell? ⟨w.heap.size, 2, none⟩ = some (.int .i64 rs1) ∧ V.cell? ⟨w.heap.size, 3, none⟩ = some (.int .i64 rs2) ∧ V.cell? ⟨w.heap.size, 4, none⟩ = some (.int .i64 imm) ∧ V.cell? ⟨w.heap.size, 5, none⟩ = some (.int .i64 x) ∧ V.cell? ⟨w.heap.size, 6, none⟩ = some (.bool aq) ∧ V.cell? ⟨w.heap.size, 7, none⟩ = some (.bool rl)) (go_keep) (first | (go_at_call 12; (with_reducible refine Calls.mono (HD.out _) ?_); rintro e w4 ⟨rfl, hb4⟩; have Z4 : Hid (Below (w.alloc (.cells (instrC k rd rs1 rs2 imm x aq rl) 23)).heap.size (w.alloc (.cells (instrC k rd rs1 rs2 imm x aq rl) 23)) w4) := below_call (by repeat (first | exact Z6.out | exact Z5.out | exact Z4.out | exact Below.refl _ _ | with_reducible refine Below.drew ?_)) hb4; obtain ⟨p0, p1, p2, p3, p4, p5, p6, p7⟩ := box8_facts (below_box8 X.out Z4.out)) | (go_at_call 12; (with_reducible refine Calls.mono (HA.out _) ?_); rintro e w4 ⟨rfl, hb4⟩; have Z4 : Hid (Below (w.alloc (.cells (instrC k rd rs1 rs2 imm x aq rl) 23)).heap.size (w.alloc (.cells (instrC k rd rs1 rs2 imm x aq rl) 23)) w4) := below_call (by repeat (first | exact Z6.out | exact Z5.out | exact Z4.out | exact Below.refl _ _ | with_reducible refine Below.drew ?_)) hb4; obtain ⟨p0, p1, p2, p3, p4, p5, p6, p7⟩ := box8_facts (below_box8 X.out Z4.out)) | (go_at_call 12; (with_reducible refine Calls.mono (HB.out _) ?_); rintro e w4 ⟨rfl, hb4⟩; have Z4 : Hid (Below (w.alloc (.cells (instrC k rd rs1 rs2 imm x aq rl) 23)).heap.size (w.alloc (.cells (instrC k rd rs1 rs2 imm x aq rl) 23)) w4) := below_call (by repeat (first | exact Z6.out | exact Z5.out | exact Z4.out | exact Below.refl _ _ | with_reducible refine Below.drew ?_)) hb4; obtain ⟨p0, p1, p2, p3, p4, p5, p6, p7⟩ := box8_facts (below_box8 X.out Z4.out)) | (go_at_call 34; (with_reducible refine Calls.mono (HN.out _) ?_); rintro e w4 ⟨rfl, hb4⟩; have Z4 : Hid (Below (w.alloc (.cells (instrC k rd rs1 rs2 imm x aq rl) 23)).heap.size (w.alloc (.cells (instrC k rd rs1 rs2 imm x aq rl) 23)) w4) := below_call (by repeat (first | exact Z6.out | exact Z5.out | exact Z4.out | exact Below.refl _ _ | with_reducible refine Below.drew ?_)) hb4; obtain ⟨p0, p1, p2, p3, p4, p5, p6, p7⟩ := box8_facts (below_box8 X.out Z4.out)))
  all_goals go_wp2_with (first | (go_at_call 22; (with_reducible refine Calls.mono (HC.out _) ?_); rintro e w5 ⟨rfl, hb5⟩; have Z5 : Hid (Below (w.alloc (.cells (instrC k rd rs1 rs2 imm x aq rl) 23)).heap.size (w.alloc (.cells (instrC k rd rs1 rs2 imm x aq rl) 23)) w5) := below_call (by repeat (first | exact Z6.out | exact Z5.out | exact Z4.out | exact Below.refl _ _ | with_reducible refine Below.drew ?_)) hb5; obtain ⟨p0, p1, p2, p3, p4, p5, p6, p7⟩ := box8_facts (below_box8 X.out Z5.out)) | (go_at_call 45; (with_reducible refine Calls.mono (HO.out _) ?_); rintro e w6 ⟨rfl, hb6⟩; have hfl := (field72 s 16 cc f3 f7 w6).1; have Z6 : Hid (Below (w.alloc (.cells (instrC k rd rs1 rs2 imm x aq rl) 23)).heap.size (w.alloc (.cells (instrC k rd rs1 rs2 imm x aq rl) 23)) w6) := below_call (by repeat (first | exact Z6.out | exact Z5.out | exact Z4.out | exact Below.refl _ _ | with_reducible refine Below.drew ?_)) hb6; obtain ⟨p0, p1, p2, p3, p4, p5, p6, p7⟩ := box8_facts (below_box8 X.out Z6.out)))
  go_ret
  exact ⟨⟨_, rfl, row_2 _  _ _  _ _ rfl rfl⟩, (below_call B.out Z6.out).alloc (below_call B.out Z6.out).size _⟩
end Go.Proofs.YtooaafbdjnlmfaaGreatDoor

namespace Go.Proofs.YtooaafbdjnlmfaaGreatDoor
open Go.RowKit
set_option linter.unusedVariables false
set_option linter.unusedSimpArgs false
set_option maxRecDepth 100000 in
set_option maxHeartbeats 2000000 in
theorem dprint_none (k : Nat) (rd rs1 rs2 imm : Int) (x : Nat) (aq rl : Bool) (T : Nat → ByteArray) (HR : Hid (∀ V, Calls Tryz.prog 30 #[.agg (instrC k rd rs1 rs2 imm x aq rl)] V fun e w' => e = .returned (.bool true) ∧ Below V.heap.size V w')) (HNM : Hid (∀ V, Calls Tryz.prog 31 #[.agg (instrC k rd rs1 rs2 imm x aq rl)] V fun e w' => e = .returned (.string (T 0)) ∧ Below V.heap.size V w')) (HT : Hid (∀ V, Calls Tryz.prog 32 #[.agg (instrC k rd rs1 rs2 imm x aq rl)] V fun e w' => (∃ v, e = .returned v ∧ v = .slice none 0 0) ∧ Below V.heap.size V w')) (w : World) :
    Calls Tryz.prog 10 #[.agg (instrC k rd rs1 rs2 imm x aq rl)] w fun e w' => e = .returned (.string (T 0)) ∧ Below w.heap.size w w' := by
  have B : Hid (Below w.heap.size w (w.alloc (.cells (instrC k rd rs1 rs2 imm x aq rl) 23))) := (Below.refl _ _).alloc (Nat.le_refl _) _
  have X : Hid ((w.alloc (.cells (instrC k rd rs1 rs2 imm x aq rl) 23)).heap[w.heap.size]? = some (.cells (instrC k rd rs1 rs2 imm x aq rl) 23 (0, 0))) := heap_alloc_new w _
  generalize T 0 = T0 at *
  go_enter Tryz.func10, Tryz.ntmps10
  go_wp2_with (first | (go_at_call 30; (with_reducible refine Calls.mono (HR.out _) ?_); rintro e w3 ⟨rfl, hb3⟩; have Z3 : Hid (Below (w.alloc (.cells (instrC k rd rs1 rs2 imm x aq rl) 23)).heap.size (w.alloc (.cells (instrC k rd rs1 rs2 imm x aq rl) 23)) w3) := hb3; obtain ⟨p0, p1, p2, p3, p4, p5, p6, p7⟩ := box8_facts (below_box8 X.out Z3.out)) | (go_at_call 31; (with_reducible refine Calls.mono (HNM.out _) ?_); rintro e w4 ⟨rfl, hb4⟩; have Z4 : Hid (Below (w.alloc (.cells (instrC k rd rs1 rs2 imm x aq rl) 23)).heap.size (w.alloc (.cells (instrC k rd rs1 rs2 imm x aq rl) 23)) w4) := below_call Z3.out hb4; obtain ⟨p0, p1, p2, p3, p4, p5, p6, p7⟩ := box8_facts (below_box8 X.out Z4.out)) | (go_at_call 32; (with_reducible refine Calls.mono (HT.out _) ?_); rintro e w5 ⟨⟨v5, rfl, hv5⟩, hb5⟩; have Z5 : Hid (Below (w.alloc (.cells (instrC k rd rs1 rs2 imm x aq rl) 23)).heap.size (w.alloc (.cells (instrC k rd rs1 rs2 imm x aq rl) 23)) w5) := below_call Z4.out hb5; subst hv5))
  go_loopw [3, 5] (fun tv iv wr => tv = .string T0 ∧ iv = .int .i64 0 ∧ wr = w5) (fun _ _ _ => 1)
  case atStart => exact ⟨rfl, rfl, rfl⟩
  case round =>
    obtain ⟨rfl, rfl, rfl⟩ := hrel
    go_wp2_with fail
    go_ret
    exact ⟨rfl, below_call B.out Z5.out⟩
set_option maxRecDepth 100000 in
set_option maxHeartbeats 2000000 in
theorem dprint_row (k : Nat) (rd rs1 rs2 imm : Int) (x : Nat) (aq rl : Bool) (T E : Nat → ByteArray) (n : Nat) (hn : n ≤ 3) (H1 : Hid (T 1 = T 0 ++ ⟨#[32]⟩ ++ E 0)) (HS : Hid (∀ k, 1 ≤ k → k < n → T (k + 1) = T k ++ ⟨#[44]⟩ ++ E k)) (HZ : Hid (∀ k, k ≤ n → (T k).size ≤ 400)) (HE : Hid (∀ k, k < n → (E k).size ≤ 100)) (HR : Hid (∀ V, Calls Tryz.prog 30 #[.agg (instrC k rd rs1 rs2 imm x aq rl)] V fun e w' => e = .returned (.bool true) ∧ Below V.heap.size V w')) (HNM : Hid (∀ V, Calls Tryz.prog 31 #[.agg (instrC k rd rs1 rs2 imm x aq rl)] V fun e w' => e = .returned (.string (T 0)) ∧ Below V.heap.size V w')) (HT : Hid (∀ V, Calls Tryz.prog 32 #[.agg (instrC k rd rs1 rs2 imm x aq rl)] V fun e w' => (∃ v, e = .returned v ∧ ∃ b, v = .slice (some ⟨b, 0, none⟩) n n ∧ ∀ i, i < n → w'.cell? ⟨b, i, none⟩ = some (.string (E i))) ∧ Below V.heap.size V w')) (w : World) :
    Calls Tryz.prog 10 #[.agg (instrC k rd rs1 rs2 imm x aq rl)] w fun e w' => e = .returned (.string (T n)) ∧ Below w.heap.size w w' := by
  have B : Hid (Below w.heap.size w (w.alloc (.cells (instrC k rd rs1 rs2 imm x aq rl) 23))) := (Below.refl _ _).alloc (Nat.le_refl _) _
  have X : Hid ((w.alloc (.cells (instrC k rd rs1 rs2 imm x aq rl) 23)).heap[w.heap.size]? = some (.cells (instrC k rd rs1 rs2 imm x aq rl) 23 (0, 0))) := heap_alloc_new w _
  go_enter Tryz.func10, Tryz.ntmps10
  go_wp2_with (first | (go_at_call 30; (with_reducible refine Calls.mono (HR.out _) ?_); rintro e w3 ⟨rfl, hb3⟩; have Z3 : Hid (Below (w.alloc (.cells (instrC k rd rs1 rs2 imm x aq rl) 23)).heap.size (w.alloc (.cells (instrC k rd rs1 rs2 imm x aq rl) 23)) w3) := hb3; obtain ⟨p0, p1, p2, p3, p4, p5, p6, p7⟩ := box8_facts (below_box8 X.out Z3.out)) | (go_at_call 31; (with_reducible refine Calls.mono (HNM.out _) ?_); rintro e w4 ⟨rfl, hb4⟩; have Z4 : Hid (Below (w.alloc (.cells (instrC k rd rs1 rs2 imm x aq rl) 23)).heap.size (w.alloc (.cells (instrC k rd rs1 rs2 imm x aq rl) 23)) w4) := below_call Z3.out hb4; obtain ⟨p0, p1, p2, p3, p4, p5, p6, p7⟩ := box8_facts (below_box8 X.out Z4.out)) | (go_at_call 32; (with_reducible refine Calls.mono (HT.out _) ?_); rintro e w5 ⟨⟨v5, rfl, hv5⟩, hb5⟩; have Z5 : Hid (Below (w.alloc (.cells (instrC k rd rs1 rs2 imm x aq rl) 23)).heap.size (w.alloc (.cells (instrC k rd rs1 rs2 imm x aq rl) 23)) w5) := below_call Z4.out hb5; obtain ⟨b5, rfl, hc5⟩ := hv5; have C5 : Hid (∀ i, i < n → w5.cell? ⟨b5, i, none⟩ = some (.string (E i))) := hc5; clear hc5))
  go_loopw [3, 5] (fun tv iv wr => ∃ j : Nat, j ≤ n ∧ tv = .string (T j) ∧ iv = .int .i64 j ∧ wr = w5) (fun _ iv _ => 20 - (intOf iv).toNat)
  case atStart => exact ⟨0, by omega, rfl, rfl, rfl⟩
  case round =>
    obtain ⟨j, hj, rfl, rfl, rfl⟩ := hrel
    by_cases hlt : j < n
    · have hcj := C5.out j hlt
      have l1 := HZ.out j hj
      have l2 := HE.out j hlt
      have hji : (j : Int) < n := by omega
      have hj0 : (0 : Int) ≤ j := by omega
      have hj9 : (j : Int) ≤ 10 := by omega
      by_cases hz : j = 0
      · subst hz
        have e1 := H1.out
        go_wp2_with fail
        go_roundw
        case rel => exact ⟨1, by omega, by rw [e1], by go_num, trivial⟩
        case measure => simp [intOf]
      · have e1 := HS.out j (by omega) hlt
        have hzi : ((j : Int) == 0) = false := by simpa using hz
        have hzi2 : ¬ (j : Int) = 0 := by omega
        go_wp2_with fail
        go_roundw
        case rel => exact ⟨j + 1, by omega, by rw [e1], by go_num, trivial⟩
        case measure => simp [intOf]; omega
    · obtain rfl : j = n := by omega
      go_wp2_with fail
      go_ret
      exact ⟨rfl, below_call B.out Z5.out⟩
/-- the document's texts of an instruction's parts, by its form -/
def takesL (rd rs1 rs2 imm : Int) (x : Nat) : Nat → List (List UInt8)
  | 1 => [regL rd, Lib.itoa (imm.tdiv 4096)]
  | 2 => [regL rd, Lib.itoa imm]
  | 3 => [regL rd, regL rs1, Lib.itoa imm]
  | 4 => [regL rs1, regL rs2, Lib.itoa imm]
  | 5 => [regL rd, Lib.itoa imm ++ [40] ++ regL rs1 ++ [41]]
  | 6 => [regL rs2, Lib.itoa imm ++ [40] ++ regL rs1 ++ [41]]
  | 7 => [regL rd, regL rs1, Lib.itoa imm]
  | 8 => [regL rd, regL rs1, Lib.itoa imm]
  | 9 => [regL rd, regL rs1, regL rs2]
  | 10 => [regL rd, regL rs1, Lib.itoa imm]
  | 11 => []
  | 12 => [regL rd, hexL x, regL rs1]
  | 13 => [regL rd, hexL x, Lib.itoa imm]
  | 14 => [regL rd, [40] ++ regL rs1 ++ [41]]
  | 15 => [regL rd, regL rs2, [40] ++ regL rs1 ++ [41]]
  | 16 => [regL rs1, regL rs2]
  | _ => []
/-- a form's shape -/
def shapeF : Nat → List UInt8
  | 1 => [100, 44, 117]
  | 2 => [100, 44, 110]
  | 3 => [100, 44, 97, 44, 110]
  | 4 => [97, 44, 98, 44, 110]
  | 5 => [100, 44, 110, 40, 97, 41]
  | 6 => [98, 44, 110, 40, 97, 41]
  | 7 => [100, 44, 97, 44, 110]
  | 8 => [100, 44, 97, 44, 110]
  | 9 => [100, 44, 97, 44, 98]
  | 10 => [100, 44, 97, 44, 110]
  | 11 => []
  | 12 => [100, 44, 99, 44, 97]
  | 13 => [100, 44, 99, 44, 110]
  | 14 => [100, 44, 40, 97, 41]
  | 15 => [100, 44, 98, 44, 40, 97, 41]
  | 16 => [97, 44, 98]
  | _ => []
theorem shape_form : ∀ k, k < 99 → 1 ≤ k → shapesT.getD k [] = shapeF (dForm k) ∧ 1 ≤ dForm k ∧ dForm k ≤ 16 := by decide +kernel
theorem getD_in {l : List (List UInt8)} {i : Nat} (h : i < l.length) : l.getD i [] = l[i] := by simp [List.getD_eq_getElem?_getD, h]
theorem getD_out {l : List (List UInt8)} {i : Nat} (h : ¬ i < l.length) : l.getD i [] = [] := by simp [List.getD_eq_getElem?_getD, Nat.le_of_not_lt h]
theorem dforms_pos : ∀ o, o < 99 → 1 ≤ o → formsT.getD o 0 ≠ 0 := by decide +kernel
def joinT (L : List (List UInt8)) : Nat → List UInt8
  | 0 => []
  | j + 1 => joinT L j ++ (if j = 0 then 32 else 44) :: L.getD j []
def bodyL (rd rs1 rs2 imm : Int) (x : Nat) (g : Nat) : List UInt8 := if shapeF g = [] then [] else 32 :: (shapeF g).flatMap (partL rd rs1 rs2 imm x)
theorem body_join (rd rs1 rs2 imm : Int) (x g : Nat) (h0 : 1 ≤ g) (h1 : g ≤ 16) : bodyL rd rs1 rs2 imm x g = joinT (takesL rd rs1 rs2 imm x g) (takesL rd rs1 rs2 imm x g).length := by
  match g, h0, h1 with
  | 1, _, _ => simp [bodyL, shapeF, takesL, joinT, partL, List.flatMap_cons]
  | 2, _, _ => simp [bodyL, shapeF, takesL, joinT, partL, List.flatMap_cons]
  | 3, _, _ => simp [bodyL, shapeF, takesL, joinT, partL, List.flatMap_cons]
  | 4, _, _ => simp [bodyL, shapeF, takesL, joinT, partL, List.flatMap_cons]
  | 5, _, _ => simp [bodyL, shapeF, takesL, joinT, partL, List.flatMap_cons]
  | 6, _, _ => simp [bodyL, shapeF, takesL, joinT, partL, List.flatMap_cons]
  | 7, _, _ => simp [bodyL, shapeF, takesL, joinT, partL, List.flatMap_cons]
  | 8, _, _ => simp [bodyL, shapeF, takesL, joinT, partL, List.flatMap_cons]
  | 9, _, _ => simp [bodyL, shapeF, takesL, joinT, partL, List.flatMap_cons]
  | 10, _, _ => simp [bodyL, shapeF, takesL, joinT, partL, List.flatMap_cons]
  | 11, _, _ => simp [bodyL, shapeF, takesL, joinT, partL, List.flatMap_cons]
  | 12, _, _ => simp [bodyL, shapeF, takesL, joinT, partL, List.flatMap_cons]
  | 13, _, _ => simp [bodyL, shapeF, takesL, joinT, partL, List.flatMap_cons]
  | 14, _, _ => simp [bodyL, shapeF, takesL, joinT, partL, List.flatMap_cons]
  | 15, _, _ => simp [bodyL, shapeF, takesL, joinT, partL, List.flatMap_cons]
  | 16, _, _ => simp [bodyL, shapeF, takesL, joinT, partL, List.flatMap_cons]
  | n + 17, _, h => omega
theorem takes_len (rd rs1 rs2 imm : Int) (x g : Nat) (hf : Fits rd rs1 rs2 imm x) : (takesL rd rs1 rs2 imm x g).length ≤ 3 ∧ ∀ l ∈ takesL rd rs1 rs2 imm x g, l.length ≤ 70 := by
  have d1 := Lib.itoa_length_le rd (by have := hf.d; omega) (by have := hf.d; omega)
  have d2 := Lib.itoa_length_le rs1 (by have := hf.a; omega) (by have := hf.a; omega)
  have d3 := Lib.itoa_length_le rs2 (by have := hf.b; omega) (by have := hf.b; omega)
  have d4 := Lib.itoa_length_le imm (by have := hf.n; omega) (by have := hf.n; omega)
  have hq := tdiv_bounds imm hf.n
  have d5 := Lib.itoa_length_le (imm.tdiv 4096) hq.1 hq.2
  have d6 := dtext_len 16 16 x
  unfold takesL
  split <;> refine ⟨by simp, ?_⟩ <;> simp [regL, hexL] <;> omega
theorem join_len (L : List (List UInt8)) (h : ∀ l ∈ L, l.length ≤ 70) (j : Nat) : (joinT L j).length ≤ 71 * j := by
  induction j with
  | zero => simp [joinT]
  | succ j ih =>
    have : (L.getD j []).length ≤ 70 := by
      by_cases hj : j < L.length
      · rw [getD_in hj]; exact h _ (List.getElem_mem hj)
      · rw [getD_out hj]; simp
    simp only [joinT, List.length_append, List.length_cons]
    omega
theorem takes_all (k : Nat) (rd rs1 rs2 imm : Int) (x : Nat) (aq rl : Bool) (hf : Fits rd rs1 rs2 imm x) (s : ByteArray) (g : Nat) (cc f3 f7 : Int) (h0 : 1 ≤ g) (h1 : g ≤ 16) (hO : OfIs k s (g : Nat) cc f3 f7) (w : World) : Calls Tryz.prog 32 #[.agg (instrC k rd rs1 rs2 imm x aq rl)] w fun e w' => (∃ v, e = .returned v ∧ RowAt w' v (takesL rd rs1 rs2 imm x g)) ∧ Below w.heap.size w w' := by
  match g, h0, h1 with
  | 1, _, _ => exact takes_1 k rd rs1 rs2 imm x aq rl hf s cc f3 f7 hO w
  | 2, _, _ => exact takes_2 k rd rs1 rs2 imm x aq rl hf s cc f3 f7 hO w
  | 3, _, _ => exact takes_3 k rd rs1 rs2 imm x aq rl hf s cc f3 f7 hO w
  | 4, _, _ => exact takes_4 k rd rs1 rs2 imm x aq rl hf s cc f3 f7 hO w
  | 5, _, _ => exact takes_5 k rd rs1 rs2 imm x aq rl hf s cc f3 f7 hO w
  | 6, _, _ => exact takes_6 k rd rs1 rs2 imm x aq rl hf s cc f3 f7 hO w
  | 7, _, _ => exact takes_7 k rd rs1 rs2 imm x aq rl hf s cc f3 f7 hO w
  | 8, _, _ => exact takes_8 k rd rs1 rs2 imm x aq rl hf s cc f3 f7 hO w
  | 9, _, _ => exact takes_9 k rd rs1 rs2 imm x aq rl hf s cc f3 f7 hO w
  | 10, _, _ => exact takes_10 k rd rs1 rs2 imm x aq rl hf s cc f3 f7 hO w
  | 11, _, _ => exact takes_11 k rd rs1 rs2 imm x aq rl hf s cc f3 f7 hO w
  | 12, _, _ => exact takes_12 k rd rs1 rs2 imm x aq rl hf s cc f3 f7 hO w
  | 13, _, _ => exact takes_13 k rd rs1 rs2 imm x aq rl hf s cc f3 f7 hO w
  | 14, _, _ => exact takes_14 k rd rs1 rs2 imm x aq rl hf s cc f3 f7 hO w
  | 15, _, _ => exact takes_15 k rd rs1 rs2 imm x aq rl hf s cc f3 f7 hO w
  | 16, _, _ => exact takes_16 k rd rs1 rs2 imm x aq rl hf s cc f3 f7 hO w
  | n + 17, _, h => omega
/-- the document's Right is the program's -/
theorem dright_any (op rd rs1 rs2 imm csr : Int) (aq rl : Bool) (w : World) :
    Calls Tryz.prog 30 #[.agg (instrC op rd rs1 rs2 imm csr aq rl)] w fun e w' => e = .returned (.bool (rightB op rd rs1 rs2 imm csr aq rl)) ∧ Below w.heap.size w w' := by
  by_cases h : 1 ≤ op ∧ op ≤ 98
  · obtain ⟨o, rfl⟩ : ∃ o : Nat, op = o := ⟨op.toNat, by omega⟩
    have ho1 : 1 ≤ o := by omega
    have ho2 : o < 99 := by omega
    have hf := forms_lt o ho2
    have hz := dforms_pos o ho2 ho1
    have hfo : formI (o : Nat) = formsT.getD o 0 := by unfold formI; rw [if_pos h, Int.toNat_natCast]
    refine dright_raw (o : Nat) rd rs1 rs2 imm csr (dForm o) aq rl (dName (o - 1)) (dCode o : Nat) (dF3 o : Nat) (dF7 o : Nat) h.1 h.2 (rows_small o ho2).1 w (fun w => of_op o ho1 ho2 w) _ ?_
    unfold rightB
    rw [hfo, rows_forms o ho2 ho1, decide_eq_true hz, parts_eq _ hf hz, ← r4_eq _ hf]
    simp only [Bool.true_and, Bool.and_assoc]
  · have hfo : formI op = 0 := by unfold formI; rw [if_neg h]
    have hr : rightB op rd rs1 rs2 imm csr aq rl = false := by unfold rightB; rw [hfo]; rfl
    rw [hr]
    exact dright_none op rd rs1 rs2 imm csr aq rl h w
set_option maxRecDepth 100000 in
theorem dprint_no (op rd rs1 rs2 imm csr : Int) (aq rl : Bool) (h : rightB op rd rs1 rs2 imm csr aq rl = false) (w : World) : Calls Tryz.prog 10 #[.agg (instrC op rd rs1 rs2 imm csr aq rl)] w fun e w' => e = .returned (.string (mk [])) ∧ Below w.heap.size w w' := by
  have B : Hid (Below w.heap.size w (w.alloc (.cells (instrC op rd rs1 rs2 imm csr aq rl) 23))) := (Below.refl _ _).alloc (Nat.le_refl _) _
  have HR : Hid (∀ V, Calls Tryz.prog 30 #[.agg (instrC op rd rs1 rs2 imm csr aq rl)] V fun e w' => e = .returned (.bool false) ∧ Below V.heap.size V w') := fun V => by
    have h2 := dright_any op rd rs1 rs2 imm csr aq rl V
    rw [h] at h2
    exact h2
  clear h
  go_enter Tryz.func10, Tryz.ntmps10
  go_wp2_with (go_at_call 30; (with_reducible refine Calls.mono (HR.out _) ?_); rintro e w' ⟨rfl, hb⟩)
  go_ret
  exact ⟨rfl, below_call B.out hb⟩
theorem dprint_yes (op rd rs1 rs2 imm csr : Int) (aq rl : Bool) (h : rightB op rd rs1 rs2 imm csr aq rl = true) (w : World) : Calls Tryz.prog 10 #[.agg (instrC op rd rs1 rs2 imm csr aq rl)] w fun e w' => e = .returned (.string (mk (printL op rd rs1 rs2 imm csr aq rl))) ∧ Below w.heap.size w w' := by
  obtain ⟨hf, ho1, ho2⟩ := fits_of op rd rs1 rs2 imm csr aq rl h
  obtain ⟨k, rfl⟩ : ∃ k : Nat, op = k := ⟨op.toNat, by omega⟩
  obtain ⟨x, rfl⟩ : ∃ x : Nat, csr = x := ⟨csr.toNat, by have := hf.c; omega⟩
  have hk1 : 1 ≤ k := by omega
  have hk2 : k < 99 := by omega
  obtain ⟨hs, hg1, hg2⟩ := shape_form k hk2 hk1
  have hO : OfIs k (dName (k - 1)) (dForm k : Nat) (dCode k : Nat) (dF3 k : Nat) (dF7 k : Nat) := fun w => of_op k hk1 hk2 w
  obtain ⟨ht3, htl⟩ := takes_len rd rs1 rs2 imm x (dForm k) hf
  have hnl : (dName (k - 1)).size ≤ 20 := by
    show (mk (dNames.getD (k - 1) [])).size ≤ 20
    rw [mk_size]; simpa using List.all_eq_true.1 name_len (k - 1) (List.mem_range.2 (by omega))
  have hml := mark_len aq rl
  have HR : Hid (∀ V, Calls Tryz.prog 30 #[.agg (instrC k rd rs1 rs2 imm x aq rl)] V fun e w' => e = .returned (.bool true) ∧ Below V.heap.size V w') := fun V => by
    have h2 := dright_any k rd rs1 rs2 imm x aq rl V
    rw [h] at h2
    exact h2
  have hTk := fun V => takes_all k rd rs1 rs2 imm x aq rl hf (dName (k - 1)) (dForm k) (dCode k : Nat) (dF3 k : Nat) (dF7 k : Nat) hg1 hg2 hO V
  have hNm := fun V => dname_any k rd rs1 rs2 imm x aq rl (dName (k - 1)) (dForm k : Nat) (dCode k : Nat) (dF3 k : Nat) (dF7 k : Nat) hnl hO V
  have hP : mk (printL k rd rs1 rs2 imm x aq rl) = dName (k - 1) ++ mk (markL aq rl) ++ mk (joinT (takesL rd rs1 rs2 imm x (dForm k)) (takesL rd rs1 rs2 imm x (dForm k)).length) := by
    rw [← body_join rd rs1 rs2 imm x _ hg1 hg2]
    show _ = mk (dNames.getD (k - 1) []) ++ _ ++ _
    rw [mk_app, mk_app]
    unfold printL bodyL
    rw [Int.toNat_natCast, hs]
  rw [hP]
  generalize takesL rd rs1 rs2 imm x (dForm k) = L at *
  have hbase : dName (k - 1) ++ mk (markL aq rl) = dName (k - 1) ++ mk (markL aq rl) ++ mk (joinT L 0) := by
    show _ = _ ++ ByteArray.empty
    rw [ByteArray.append_empty]
  have HNM : Hid (∀ V, Calls Tryz.prog 31 #[.agg (instrC k rd rs1 rs2 imm x aq rl)] V fun e w' => e = .returned (.string ((fun j => dName (k - 1) ++ mk (markL aq rl) ++ mk (joinT L j)) 0)) ∧ Below V.heap.size V w') := fun V => by
    show Calls Tryz.prog 31 _ V fun e w' => e = .returned (.string (dName (k - 1) ++ mk (markL aq rl) ++ mk (joinT L 0))) ∧ Below V.heap.size V w'
    rw [← hbase]
    exact hNm V
  by_cases hL : L = []
  · subst hL
    exact dprint_none k rd rs1 rs2 imm x aq rl (fun j => dName (k - 1) ++ mk (markL aq rl) ++ mk (joinT [] j)) HR HNM (fun V => (hTk V).mono (by
      rintro e w' ⟨⟨v, rfl, hv⟩, hb⟩
      refine ⟨⟨v, rfl, ?_⟩, hb⟩
      rcases hv with ⟨_, hv⟩ | ⟨hz, _⟩
      · exact hv
      · exact absurd rfl hz)) w
  · exact dprint_row k rd rs1 rs2 imm x aq rl (fun j => dName (k - 1) ++ mk (markL aq rl) ++ mk (joinT L j)) (fun j => mk (L.getD j [])) L.length ht3
      (by
        show dName (k - 1) ++ mk (markL aq rl) ++ mk (joinT L 1) = dName (k - 1) ++ mk (markL aq rl) ++ mk (joinT L 0) ++ mk [32] ++ mk (L.getD 0 [])
        rw [← hbase, show joinT L 1 = [32] ++ L.getD 0 [] from rfl, ← mk_app]
        simp only [ByteArray.append_assoc])
      (fun j hj _ => by
        show dName (k - 1) ++ mk (markL aq rl) ++ mk (joinT L (j + 1)) = dName (k - 1) ++ mk (markL aq rl) ++ mk (joinT L j) ++ mk [44] ++ mk (L.getD j [])
        rw [show joinT L (j + 1) = joinT L j ++ ([44] ++ L.getD j []) from by simp only [joinT]; rw [if_neg (by omega)]; rfl, ← mk_app, ← mk_app]
        simp only [ByteArray.append_assoc])
      (fun j hj => by
        have := join_len L htl j
        show (dName (k - 1) ++ mk (markL aq rl) ++ mk (joinT L j)).size ≤ 400
        rw [ByteArray.size_append, ByteArray.size_append, mk_size, mk_size]; omega)
      (fun j hj => by
        show (mk (L.getD j [])).size ≤ 100
        rw [mk_size, getD_in hj]
        have := htl _ (List.getElem_mem hj); omega)
      HR HNM (fun V => (hTk V).mono (by
        rintro e w' ⟨⟨v, rfl, hv⟩, hb⟩
        refine ⟨⟨v, rfl, ?_⟩, hb⟩
        rcases hv with ⟨h0, _⟩ | ⟨_, b, hv, hc⟩
        · exact absurd h0 hL
        · exact ⟨b, hv, fun i hi => by rw [hc i hi, getD_in hi]⟩)) w
end Go.Proofs.YtooaafbdjnlmfaaGreatDoor
