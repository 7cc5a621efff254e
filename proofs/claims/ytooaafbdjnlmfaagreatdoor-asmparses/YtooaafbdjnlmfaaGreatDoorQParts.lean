/- The call readParts of layer 4. -/
import Derived.Test.YtooaafbdjnlmfaaGreatDoorQRead
import Derived.Deep.RegionHeld3
import Derived.Deep.RegionWith
namespace Go.Proofs.YtooaafbdjnlmfaaGreatDoor
open Go.RowKit
set_option linter.unusedVariables false
set_option linter.unusedSimpArgs false
def Ins.zero : Ins := ⟨0, 0, 0, 0, 0, 0, false, false⟩
/-- the first piece behind blanks, and what follows it -/
def bare (l : List UInt8) : List UInt8 := Lib.trimLeftS l [32, 9]
/-- what readParts tells -/
def partsR : List UInt8 → List UInt8 → Ins → Ins × Bool
  | [], l, x => (x, l.isEmpty)
  | c :: sh, l, x => if (readS c (mk (pieceL (bare l))) x).2 = true then partsR sh ((bare l).drop (pieceL (bare l)).length) (readS c (mk (pieceL (bare l))) x).1 else (Ins.zero, false)
theorem bare_ok (l : List UInt8) (hl : l.length ≤ 1000) (ha : Ascii l) : (bare l).length ≤ 1000 ∧ Ascii (bare l) := by
  have hs : (bare l).Sublist l := List.dropWhile_sublist _
  exact ⟨Nat.le_trans hs.length_le hl, fun b hb => ha b (hs.subset hb)⟩
theorem drop_ok (l : List UInt8) (n : Nat) (hl : l.length ≤ 1000) (ha : Ascii l) : (l.drop n).length ≤ 1000 ∧ Ascii (l.drop n) := by
  have hs := List.drop_sublist n l
  exact ⟨Nat.le_trans hs.length_le hl, fun b hb => ha b (hs.subset hb)⟩
theorem piece_len (l : List UInt8) : (pieceL l).length ≤ l.length := by
  unfold pieceL; split
  · rw [List.length_take]; omega
  · exact (List.takeWhile_sublist _).length_le
theorem Two.set0 {w w1 : World} {a0 a1 a2 a3 a4 a5 a6 a7 : Value} {b : Array Value} (h : Two w w1 #[a0, a1, a2, a3, a4, a5, a6, a7] b) (x : Value) : Two w (w1.setCell ⟨w.heap.size, 0, none⟩ x) #[x, a1, a2, a3, a4, a5, a6, a7] b :=
  ⟨heap_setCell_same w1 w.heap.size 0 _ 23 x h.1, (heap_setCell_other w1 ⟨w.heap.size, 0, none⟩ (w.heap.size + 1) x (by show w.heap.size + 1 ≠ w.heap.size; omega)).trans h.2.1, h.2.2.setCell (Nat.le_refl _) x⟩
theorem Two.set1 {w w1 : World} {a0 a1 a2 a3 a4 a5 a6 a7 : Value} {b : Array Value} (h : Two w w1 #[a0, a1, a2, a3, a4, a5, a6, a7] b) (x : Value) : Two w (w1.setCell ⟨w.heap.size, 1, none⟩ x) #[a0, x, a2, a3, a4, a5, a6, a7] b :=
  ⟨heap_setCell_same w1 w.heap.size 1 _ 23 x h.1, (heap_setCell_other w1 ⟨w.heap.size, 1, none⟩ (w.heap.size + 1) x (by show w.heap.size + 1 ≠ w.heap.size; omega)).trans h.2.1, h.2.2.setCell (Nat.le_refl _) x⟩
theorem Two.set2 {w w1 : World} {a0 a1 a2 a3 a4 a5 a6 a7 : Value} {b : Array Value} (h : Two w w1 #[a0, a1, a2, a3, a4, a5, a6, a7] b) (x : Value) : Two w (w1.setCell ⟨w.heap.size, 2, none⟩ x) #[a0, a1, x, a3, a4, a5, a6, a7] b :=
  ⟨heap_setCell_same w1 w.heap.size 2 _ 23 x h.1, (heap_setCell_other w1 ⟨w.heap.size, 2, none⟩ (w.heap.size + 1) x (by show w.heap.size + 1 ≠ w.heap.size; omega)).trans h.2.1, h.2.2.setCell (Nat.le_refl _) x⟩
theorem Two.set3 {w w1 : World} {a0 a1 a2 a3 a4 a5 a6 a7 : Value} {b : Array Value} (h : Two w w1 #[a0, a1, a2, a3, a4, a5, a6, a7] b) (x : Value) : Two w (w1.setCell ⟨w.heap.size, 3, none⟩ x) #[a0, a1, a2, x, a4, a5, a6, a7] b :=
  ⟨heap_setCell_same w1 w.heap.size 3 _ 23 x h.1, (heap_setCell_other w1 ⟨w.heap.size, 3, none⟩ (w.heap.size + 1) x (by show w.heap.size + 1 ≠ w.heap.size; omega)).trans h.2.1, h.2.2.setCell (Nat.le_refl _) x⟩
theorem Two.set4 {w w1 : World} {a0 a1 a2 a3 a4 a5 a6 a7 : Value} {b : Array Value} (h : Two w w1 #[a0, a1, a2, a3, a4, a5, a6, a7] b) (x : Value) : Two w (w1.setCell ⟨w.heap.size, 4, none⟩ x) #[a0, a1, a2, a3, x, a5, a6, a7] b :=
  ⟨heap_setCell_same w1 w.heap.size 4 _ 23 x h.1, (heap_setCell_other w1 ⟨w.heap.size, 4, none⟩ (w.heap.size + 1) x (by show w.heap.size + 1 ≠ w.heap.size; omega)).trans h.2.1, h.2.2.setCell (Nat.le_refl _) x⟩
theorem Two.set5 {w w1 : World} {a0 a1 a2 a3 a4 a5 a6 a7 : Value} {b : Array Value} (h : Two w w1 #[a0, a1, a2, a3, a4, a5, a6, a7] b) (x : Value) : Two w (w1.setCell ⟨w.heap.size, 5, none⟩ x) #[a0, a1, a2, a3, a4, x, a6, a7] b :=
  ⟨heap_setCell_same w1 w.heap.size 5 _ 23 x h.1, (heap_setCell_other w1 ⟨w.heap.size, 5, none⟩ (w.heap.size + 1) x (by show w.heap.size + 1 ≠ w.heap.size; omega)).trans h.2.1, h.2.2.setCell (Nat.le_refl _) x⟩
theorem Two.set6 {w w1 : World} {a0 a1 a2 a3 a4 a5 a6 a7 : Value} {b : Array Value} (h : Two w w1 #[a0, a1, a2, a3, a4, a5, a6, a7] b) (x : Value) : Two w (w1.setCell ⟨w.heap.size, 6, none⟩ x) #[a0, a1, a2, a3, a4, a5, x, a7] b :=
  ⟨heap_setCell_same w1 w.heap.size 6 _ 23 x h.1, (heap_setCell_other w1 ⟨w.heap.size, 6, none⟩ (w.heap.size + 1) x (by show w.heap.size + 1 ≠ w.heap.size; omega)).trans h.2.1, h.2.2.setCell (Nat.le_refl _) x⟩
theorem Two.set7 {w w1 : World} {a0 a1 a2 a3 a4 a5 a6 a7 : Value} {b : Array Value} (h : Two w w1 #[a0, a1, a2, a3, a4, a5, a6, a7] b) (x : Value) : Two w (w1.setCell ⟨w.heap.size, 7, none⟩ x) #[a0, a1, a2, a3, a4, a5, a6, x] b :=
  ⟨heap_setCell_same w1 w.heap.size 7 _ 23 x h.1, (heap_setCell_other w1 ⟨w.heap.size, 7, none⟩ (w.heap.size + 1) x (by show w.heap.size + 1 ≠ w.heap.size; omega)).trans h.2.1, h.2.2.setCell (Nat.le_refl _) x⟩
theorem Two.store {w w1 : World} {a0 a1 a2 a3 a4 a5 a6 a7 : Value} {b : Array Value} (h : Two w w1 #[a0, a1, a2, a3, a4, a5, a6, a7] b) (x0 x1 x2 x3 x4 x5 x6 x7 : Value) :
    Two w ((((((((w1.setCell ⟨w.heap.size, 0, none⟩ x0).setCell ⟨w.heap.size, 1, none⟩ x1).setCell ⟨w.heap.size, 2, none⟩ x2).setCell ⟨w.heap.size, 3, none⟩ x3).setCell ⟨w.heap.size, 4, none⟩ x4).setCell ⟨w.heap.size, 5, none⟩ x5).setCell ⟨w.heap.size, 6, none⟩ x6).setCell ⟨w.heap.size, 7, none⟩ x7) #[x0, x1, x2, x3, x4, x5, x6, x7] b :=
  (((((((h.set0 x0).set1 x1).set2 x2).set3 x3).set4 x4).set5 x5).set6 x6).set7 x7
set_option maxRecDepth 100000 in
set_option maxHeartbeats 2000000 in
theorem parts_core (s0 : ByteArray) (sh l : List UInt8) (hsz : s0.size = sh.length) (hg : ∀ k (h : k < s0.size) (h2 : k < sh.length), s0[k] = sh[k]) (hsh : ∀ c ∈ sh, c ∈ letters) (hlen : sh.length ≤ 10) (hl : l.length ≤ 1000) (ha : Ascii l) (x : Ins) (w : World) (ht : TabsLie w) :
    Calls Tryz.prog 38 #[.string s0, .string (mk l), .agg x.c] w fun e w' => e = .returned (.tuple #[.agg (partsR sh l x).1.c, .bool (partsR sh l x).2]) ∧ Below w.heap.size w w' := by
  have S : Hid (Two w ((w.alloc (.cells x.c 23)).alloc (.cells #[.int .i64 0, .int .i64 0, .int .i64 0, .int .i64 0, .int .i64 0, .int .i64 0, .bool false, .bool false] 23)) x.c #[.int .i64 0, .int .i64 0, .int .i64 0, .int .i64 0, .int .i64 0, .int .i64 0, .bool false, .bool false]) := Two.new w _ _
  have HT : Hid (TabsLie w) := ht
  have HA : Hid (Ascii l) := ha
  have HG : Hid (∀ k (h : k < s0.size) (h2 : k < sh.length), s0[k] = sh[k]) := hg
  clear ht ha hg
  have hl10 : (s0.size : Int) ≤ 10 := by omega
  go_enter Tryz.func38, Tryz.ntmps38
  go_wp2_with fail
  go_loopw [1, 13] (fun sv iv wr => ∃ (k : Nat) (m : List UInt8) (y : Ins), k ≤ sh.length ∧ iv = .int .i64 k ∧ sv = .string (mk m) ∧ m.length ≤ 1000 ∧ Ascii m ∧ Two w wr y.c #[.int .i64 0, .int .i64 0, .int .i64 0, .int .i64 0, .int .i64 0, .int .i64 0, .bool false, .bool false] ∧ partsR (sh.drop k) m y = partsR sh l x) (fun _ iv _ => 20 - (intOf iv).toNat)
  case atStart => exact ⟨0, l, x, by omega, rfl, rfl, hl, HA.out, S.out, rfl⟩
  case round =>
    obtain ⟨k, m, y, hk, rfl, rfl, hm, hma, htw, hpr⟩ := hrel
    clear S HA
    have X : Hid (Two w wr y.c #[.int .i64 0, .int .i64 0, .int .i64 0, .int .i64 0, .int .i64 0, .int .i64 0, .bool false, .bool false]) := htw
    have MA : Hid (Ascii m) := hma
    have PR : Hid (partsR (sh.drop k) m y = partsR sh l x) := hpr
    clear htw hma hpr
    have hne : w.heap.size ≠ w.heap.size + 1 := by omega
    have hne' : w.heap.size + 1 ≠ w.heap.size := by omega
    by_cases hlt : k < sh.length
    · have hks : k < s0.size := by omega
      have hki : (k : Int) < s0.size := by omega
      have hk0 : (0 : Int) ≤ k := by omega
      have hsk := HG.out k hks hlt
      have hmem : sh[k] ∈ letters := hsh _ (List.getElem_mem hlt)
      have bo := bare_ok m hm MA.out
      have pl := piece_len (bare m)
      have dn := drop_ok (bare m) (pieceL (bare m)).length bo.1 bo.2
      have HTL : Hid (∀ V, Calls Tryz.prog 83 #[.string (mk m), .string ⟨#[32, 9]⟩] V fun e w' => e = .returned (.string (mk (bare m))) ∧ Below V.heap.size V w') := fun V => Tryz.strings_TrimLeft_blanks (mk m) V
      have HPC : Hid (∀ V, Calls Tryz.prog 84 #[.string (mk (bare m))] V fun e w' => e = .returned (.string (mk (pieceL (bare m)))) ∧ Below V.heap.size V w') := fun V => piece_any (bare m) bo.1 bo.2 V
      have HRP : Hid (∀ V, Below w.heap.size w V → Calls Tryz.prog 85 #[.int .u8 (s0[k].toNat : Int), .string (mk (pieceL (bare m))), .agg #[.int .i64 y.op, .int .i64 y.rd, .int .i64 y.rs1, .int .i64 y.rs2, .int .i64 y.imm, .int .i64 y.csr, .bool y.aq, .bool y.rl]] V fun e w' => e = .returned (.tuple #[.agg #[.int .i64 (readS sh[k] (mk (pieceL (bare m))) y).1.op, .int .i64 (readS sh[k] (mk (pieceL (bare m))) y).1.rd, .int .i64 (readS sh[k] (mk (pieceL (bare m))) y).1.rs1, .int .i64 (readS sh[k] (mk (pieceL (bare m))) y).1.rs2, .int .i64 (readS sh[k] (mk (pieceL (bare m))) y).1.imm, .int .i64 (readS sh[k] (mk (pieceL (bare m))) y).1.csr, .bool (readS sh[k] (mk (pieceL (bare m))) y).1.aq, .bool (readS sh[k] (mk (pieceL (bare m))) y).1.rl], .bool (readS sh[k] (mk (pieceL (bare m))) y).2]) ∧ Below V.heap.size V w') := fun V hV => by rw [hsk]; exact rpart_all sh[k] hmem _ (by rw [mk_size]; omega) y V (tabs_below HT.out hV)
      have EX : Hid ((mk (bare m)).extract (mk (pieceL (bare m))).size (mk (bare m)).size = mk ((bare m).drop (pieceL (bare m)).length)) := by
        show _ = _
        rw [mk_size (pieceL (bare m))]
        exact ext_drop _ _ _ (mk_size _).symm
      have hz1 : (mk (bare m)).size ≤ 1000 := by rw [mk_size]; exact bo.1
      have hz2 : (mk (pieceL (bare m))).size ≤ (mk (bare m)).size := by rw [mk_size, mk_size]; exact pl
      have hz3 : ((mk (pieceL (bare m))).size : Int) ≤ (mk (bare m)).size := by omega
      have hst : sh.drop k = sh[k] :: sh.drop (k + 1) := List.drop_eq_getElem_cons hlt
      have DN : Hid _ := dn
      have PR2 : Hid ((if (readS sh[k] (mk (pieceL (bare m))) y).2 = true then partsR (sh.drop (k + 1)) ((bare m).drop (pieceL (bare m)).length) (readS sh[k] (mk (pieceL (bare m))) y).1 else (Ins.zero, false)) = partsR sh l x) := by
        have h := PR.out
        rw [hst] at h
        exact h
      clear bo pl dn hmem hsk hst PR
      generalize (bare m).drop (pieceL (bare m)).length = m2 at *
      generalize readS sh[k] (mk (pieceL (bare m))) y = rr at *
      obtain ⟨z, ok⟩ := rr
      generalize mk (pieceL (bare m)) = pt at *
      generalize mk (bare m) = bt at *
      cases ok
      · go_wp2_with (first | (go_at_call 83; (with_reducible refine Calls.mono (HTL.out _) ?_); rintro e w3 ⟨rfl, hb3⟩; have X3 : Hid (Two w w3 y.c #[.int .i64 0, .int .i64 0, .int .i64 0, .int .i64 0, .int .i64 0, .int .i64 0, .bool false, .bool false]) := X.out.step hb3) | (go_at_call 84; (with_reducible refine Calls.mono (HPC.out _) ?_); rintro e w4 ⟨rfl, hb4⟩; have X4 : Hid (Two w w4 y.c #[.int .i64 0, .int .i64 0, .int .i64 0, .int .i64 0, .int .i64 0, .int .i64 0, .bool false, .bool false]) := X3.out.step hb4; have BW4 : Hid (Below w.heap.size w w4) := X4.out.2.2; obtain ⟨q0, q1, q2, q3, q4, q5, q6, q7⟩ := box8_facts X4.out.1; clear hb4))
        go_region_with (first | (go_at_call 85; (with_reducible refine Calls.mono (HRP.out _ (by repeat (first | exact BW4.out | with_reducible refine Below.drew ?_))) ?_); rintro e w5 ⟨rfl, hb5⟩; have X5 : Hid (Two w w5 y.c #[.int .i64 0, .int .i64 0, .int .i64 0, .int .i64 0, .int .i64 0, .int .i64 0, .bool false, .bool false]) := X4.out.step (below_call (by repeat (first | exact Below.refl _ _ | with_reducible refine Below.drew ?_)) hb5); obtain ⟨p0, p1, p2, p3, p4, p5, p6, p7⟩ := box8_facts X5.out.1; have y0 := box8_frozen X5.out.1 0; have y1 := box8_frozen X5.out.1 1; have y2 := box8_frozen X5.out.1 2; have y3 := box8_frozen X5.out.1 3; have y4 := box8_frozen X5.out.1 4; have y5 := box8_frozen X5.out.1 5; have y6 := box8_frozen X5.out.1 6; have y7 := box8_frozen X5.out.1 7; clear hb5))
        all_goals have X6 : Hid (Two w ((((((((w5.setCell ⟨w.heap.size, 0, none⟩ (.int .i64 z.op)).setCell ⟨w.heap.size, 1, none⟩ (.int .i64 z.rd)).setCell ⟨w.heap.size, 2, none⟩ (.int .i64 z.rs1)).setCell ⟨w.heap.size, 3, none⟩ (.int .i64 z.rs2)).setCell ⟨w.heap.size, 4, none⟩ (.int .i64 z.imm)).setCell ⟨w.heap.size, 5, none⟩ (.int .i64 z.csr)).setCell ⟨w.heap.size, 6, none⟩ (.bool z.aq)).setCell ⟨w.heap.size, 7, none⟩ (.bool z.rl)) z.c #[.int .i64 0, .int .i64 0, .int .i64 0, .int .i64 0, .int .i64 0, .int .i64 0, .bool false, .bool false]) := X5.out.store _ _ _ _ _ _ _ _
        all_goals clear p0 p1 p2 p3 p4 p5 p6 p7 y0 y1 y2 y3 y4 y5 y6 y7
        all_goals generalize ((((((((w5.setCell ⟨w.heap.size, 0, none⟩ (.int .i64 z.op)).setCell ⟨w.heap.size, 1, none⟩ (.int .i64 z.rd)).setCell ⟨w.heap.size, 2, none⟩ (.int .i64 z.rs1)).setCell ⟨w.heap.size, 3, none⟩ (.int .i64 z.rs2)).setCell ⟨w.heap.size, 4, none⟩ (.int .i64 z.imm)).setCell ⟨w.heap.size, 5, none⟩ (.int .i64 z.csr)).setCell ⟨w.heap.size, 6, none⟩ (.bool z.aq)).setCell ⟨w.heap.size, 7, none⟩ (.bool z.rl)) = w6 at *
        all_goals obtain ⟨r0, r1, r2, r3, r4, r5, r6, r7⟩ := box8_facts X6.out.2.1
        all_goals (have z0 := box8_frozen X6.out.2.1 0; have z1 := box8_frozen X6.out.2.1 1; have z2 := box8_frozen X6.out.2.1 2; have z3 := box8_frozen X6.out.2.1 3; have z4 := box8_frozen X6.out.2.1 4; have z5 := box8_frozen X6.out.2.1 5; have z6 := box8_frozen X6.out.2.1 6; have z7 := box8_frozen X6.out.2.1 7)
        all_goals go_wp2_with fail
        all_goals refine bodyPost_ret (v := .tuple #[.agg #[.int .i64 0, .int .i64 0, .int .i64 0, .int .i64 0, .int .i64 0, .int .i64 0, .bool false, .bool false], .bool false]) (by simp [results, Tryz.results38, go_sem, r0, r1, r2, r3, r4, r5, r6, r7]) rfl ⟨by (have h := PR2.out; rw [if_neg (by decide)] at h; rw [← h]; try rfl), by (iterate 8 (refine Below.setCell ?_ (Nat.le_succ _) _)); exact X6.out.2.2⟩
      · go_wp2_with (first | (go_at_call 83; (with_reducible refine Calls.mono (HTL.out _) ?_); rintro e w3 ⟨rfl, hb3⟩; have X3 : Hid (Two w w3 y.c #[.int .i64 0, .int .i64 0, .int .i64 0, .int .i64 0, .int .i64 0, .int .i64 0, .bool false, .bool false]) := X.out.step hb3) | (go_at_call 84; (with_reducible refine Calls.mono (HPC.out _) ?_); rintro e w4 ⟨rfl, hb4⟩; have X4 : Hid (Two w w4 y.c #[.int .i64 0, .int .i64 0, .int .i64 0, .int .i64 0, .int .i64 0, .int .i64 0, .bool false, .bool false]) := X3.out.step hb4; have BW4 : Hid (Below w.heap.size w w4) := X4.out.2.2; obtain ⟨q0, q1, q2, q3, q4, q5, q6, q7⟩ := box8_facts X4.out.1; clear hb4))
        go_region_with (first | (go_at_call 85; (with_reducible refine Calls.mono (HRP.out _ (by repeat (first | exact BW4.out | with_reducible refine Below.drew ?_))) ?_); rintro e w5 ⟨rfl, hb5⟩; have X5 : Hid (Two w w5 y.c #[.int .i64 0, .int .i64 0, .int .i64 0, .int .i64 0, .int .i64 0, .int .i64 0, .bool false, .bool false]) := X4.out.step (below_call (by repeat (first | exact Below.refl _ _ | with_reducible refine Below.drew ?_)) hb5); obtain ⟨p0, p1, p2, p3, p4, p5, p6, p7⟩ := box8_facts X5.out.1; have y0 := box8_frozen X5.out.1 0; have y1 := box8_frozen X5.out.1 1; have y2 := box8_frozen X5.out.1 2; have y3 := box8_frozen X5.out.1 3; have y4 := box8_frozen X5.out.1 4; have y5 := box8_frozen X5.out.1 5; have y6 := box8_frozen X5.out.1 6; have y7 := box8_frozen X5.out.1 7; clear hb5))
        all_goals have X6 : Hid (Two w ((((((((w5.setCell ⟨w.heap.size, 0, none⟩ (.int .i64 z.op)).setCell ⟨w.heap.size, 1, none⟩ (.int .i64 z.rd)).setCell ⟨w.heap.size, 2, none⟩ (.int .i64 z.rs1)).setCell ⟨w.heap.size, 3, none⟩ (.int .i64 z.rs2)).setCell ⟨w.heap.size, 4, none⟩ (.int .i64 z.imm)).setCell ⟨w.heap.size, 5, none⟩ (.int .i64 z.csr)).setCell ⟨w.heap.size, 6, none⟩ (.bool z.aq)).setCell ⟨w.heap.size, 7, none⟩ (.bool z.rl)) z.c #[.int .i64 0, .int .i64 0, .int .i64 0, .int .i64 0, .int .i64 0, .int .i64 0, .bool false, .bool false]) := X5.out.store _ _ _ _ _ _ _ _
        all_goals clear p0 p1 p2 p3 p4 p5 p6 p7 y0 y1 y2 y3 y4 y5 y6 y7
        all_goals generalize ((((((((w5.setCell ⟨w.heap.size, 0, none⟩ (.int .i64 z.op)).setCell ⟨w.heap.size, 1, none⟩ (.int .i64 z.rd)).setCell ⟨w.heap.size, 2, none⟩ (.int .i64 z.rs1)).setCell ⟨w.heap.size, 3, none⟩ (.int .i64 z.rs2)).setCell ⟨w.heap.size, 4, none⟩ (.int .i64 z.imm)).setCell ⟨w.heap.size, 5, none⟩ (.int .i64 z.csr)).setCell ⟨w.heap.size, 6, none⟩ (.bool z.aq)).setCell ⟨w.heap.size, 7, none⟩ (.bool z.rl)) = w6 at *
        all_goals obtain ⟨r0, r1, r2, r3, r4, r5, r6, r7⟩ := box8_facts X6.out.2.1
        all_goals (have z0 := box8_frozen X6.out.2.1 0; have z1 := box8_frozen X6.out.2.1 1; have z2 := box8_frozen X6.out.2.1 2; have z3 := box8_frozen X6.out.2.1 3; have z4 := box8_frozen X6.out.2.1 4; have z5 := box8_frozen X6.out.2.1 5; have z6 := box8_frozen X6.out.2.1 6; have z7 := box8_frozen X6.out.2.1 7)
        all_goals go_wp2_with fail
        all_goals go_roundw
        all_goals (first | exact ⟨k + 1, m2, z, by omega, by go_num, by rw [EX.out], DN.out.1, DN.out.2, X6.out, PR2.out⟩ | (simp [intOf]; omega))
    · obtain rfl : k = sh.length := by omega
      have hfin : partsR sh l x = (y, m.isEmpty) := by
        rw [← PR.out, List.drop_length]; rfl
      have HE : Hid ((mk m).toList.isEmpty = m.isEmpty) := mk_empty m
      have HF : Hid (partsR sh l x = (y, m.isEmpty)) := hfin
      clear hfin PR
      generalize mk m = ms at *
      obtain ⟨q0, q1, q2, q3, q4, q5, q6, q7⟩ := box8_facts X.out.1
      obtain ⟨r0, r1, r2, r3, r4, r5, r6, r7⟩ := box8_facts X.out.2.1
      have z0 := box8_frozen X.out.2.1 0; have z1 := box8_frozen X.out.2.1 1; have z2 := box8_frozen X.out.2.1 2; have z3 := box8_frozen X.out.2.1 3; have z4 := box8_frozen X.out.2.1 4; have z5 := box8_frozen X.out.2.1 5; have z6 := box8_frozen X.out.2.1 6; have z7 := box8_frozen X.out.2.1 7
      go_wp2_with fail
      refine bodyPost_ret (v := .tuple #[.agg #[.int .i64 y.op, .int .i64 y.rd, .int .i64 y.rs1, .int .i64 y.rs2, .int .i64 y.imm, .int .i64 y.csr, .bool y.aq, .bool y.rl], .bool ms.toList.isEmpty]) (by simp [results, Tryz.results38, go_sem, r0, r1, r2, r3, r4, r5, r6, r7, hne, hne']) rfl ⟨?_, ?_⟩
      · rw [HE.out, HF.out]; rfl
      · iterate 8 (refine Below.setCell ?_ (Nat.le_succ _) _)
        exact X.out.2.2
theorem parts_any (sh l : List UInt8) (hsh : ∀ c ∈ sh, c ∈ letters) (hlen : sh.length ≤ 10) (hl : l.length ≤ 1000) (ha : Ascii l) (x : Ins) (w : World) (ht : TabsLie w) :
    Calls Tryz.prog 38 #[.string (mk sh), .string (mk l), .agg x.c] w fun e w' => e = .returned (.tuple #[.agg (partsR sh l x).1.c, .bool (partsR sh l x).2]) ∧ Below w.heap.size w w' :=
  parts_core (mk sh) sh l (mk_size sh) (fun k h h2 => rfl) hsh hlen hl ha x w ht
end Go.Proofs.YtooaafbdjnlmfaaGreatDoor
