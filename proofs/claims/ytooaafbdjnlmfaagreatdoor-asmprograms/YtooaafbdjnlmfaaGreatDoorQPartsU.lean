/- The calls cutName, firstPiece and readParts of layer 4 of any bytes. -/
import Derived.Test.YtooaafbdjnlmfaaGreatDoorQRune
import Derived.Test.YtooaafbdjnlmfaaGreatDoorQParts
import Derived.Deep.RegionHeld3
import Derived.Deep.RegionWith
import Derived.BigQuiet
import Derived.Test.YtooaafbdjnlmfaaGreatDoorQParseB
namespace Go.Proofs.YtooaafbdjnlmfaaGreatDoor
open Go.RowKit
set_option linter.unusedVariables false
set_option linter.unusedSimpArgs false
/-- any bytes -/
def Asc (_ : List UInt8) : Prop := True
set_option maxRecDepth 100000 in
theorem cutname_any_u (l : List UInt8) (hl : l.length ≤ 1000) (ha : Asc l) (w : World) : Calls Tryz.prog 35 #[.string (mk l)] w fun e w' => e = .returned (.tuple #[.string (mk (headW [32, 9] l)), .string (mk (tailW [32, 9] l))]) ∧ Below w.heap.size w w' := by
  have HI : Hid (Calls Tryz.prog 73 #[.string (mk l), .string ⟨#[32, 9]⟩] w fun e w' => e = .returned (.int .i64 (Lib.indexAny l [32, 9])) ∧ Below w.heap.size w w') := index_all l [32, 9] hl (by simp) (by simp) (by decide) w
  rcases index_spec [32, 9] l with ⟨h1, h2, h3⟩ | ⟨i, h1, h2, h3, h4⟩
  · rw [h2, h3]
    rw [h1] at HI
    clear h1 h2 h3 ha hl
    generalize mk l = s at *
    go_enter Tryz.func35, Tryz.ntmps35
    go_wp2_with (go_at_call 73; (with_reducible refine Calls.mono HI.out ?_); rintro e w9 ⟨rfl, hb9⟩)
    go_ret2
    exact ⟨rfl, hb9⟩
  · rw [h3, h4]
    rw [h1] at HI
    have E1 : Hid ((mk l).extract 0 i = mk (l.take i)) := ext_take l i
    have E2 : Hid ((mk l).extract i (mk l).size = mk (l.drop i)) := ext_drop l i _ (mk_size l).symm
    have hs : (mk l).size ≤ 1000 := by rw [mk_size]; exact hl
    have hi : i < (mk l).size := by rw [mk_size]; exact h2
    have hii : (i : Int) ≤ (mk l).size := by omega
    have hi0 : (0 : Int) ≤ i := by omega
    clear h1 h2 h3 h4 ha hl
    generalize mk (l.take i) = s1 at *
    generalize mk (l.drop i) = s2 at *
    generalize mk l = s at *
    go_enter Tryz.func35, Tryz.ntmps35
    go_wp2_with (go_at_call 73; (with_reducible refine Calls.mono HI.out ?_); rintro e w9 ⟨rfl, hb9⟩)
    go_quiet (fail)
    all_goals go_wp2_with fail
    go_ret2
    exact ⟨by rw [← E1.out, ← E2.out]; rfl, below_drewN hb9 _⟩
set_option maxRecDepth 100000 in
theorem piece_any_u (l : List UInt8) (hl : l.length ≤ 1000) (ha : Asc l) (w : World) : Calls Tryz.prog 84 #[.string (mk l)] w fun e w' => e = .returned (.string (mk (pieceL l))) ∧ Below w.heap.size w w' := by
  have HI : Hid (Calls Tryz.prog 73 #[.string (mk l), .string ⟨#[44, 40, 41, 32, 9]⟩] w fun e w' => e = .returned (.int .i64 (Lib.indexAny l [44, 40, 41, 32, 9])) ∧ Below w.heap.size w w') := index_all l [44, 40, 41, 32, 9] hl (by simp) (by simp) (by decide) w
  unfold pieceL
  rcases index_spec [44, 40, 41, 32, 9] l with ⟨h1, h2, h3⟩ | ⟨i, h1, h2, h3, h4⟩
  · rw [h2]
    have hp : (if l = [] then l.take 1 else l) = l := by split <;> simp_all
    rw [hp]
    rw [h1] at HI
    clear h1 h2 h3 ha hl hp
    generalize mk l = s at *
    go_enter Tryz.func84, Tryz.ntmps84
    go_wp2_with (go_at_call 73; (with_reducible refine Calls.mono HI.out ?_); rintro e w9 ⟨rfl, hb9⟩)
    go_ret
    exact ⟨rfl, hb9⟩
  · rw [h1] at HI
    have hs : (mk l).size ≤ 1000 := by rw [mk_size]; exact hl
    by_cases hz : i = 0
    · subst hz
      rw [h3]
      have E1 : Hid ((mk l).extract 0 1 = mk (l.take 1)) := ext_take l 1
      have hi : 1 ≤ (mk l).size := by rw [mk_size]; exact h2
      have hii : (1 : Int) ≤ (mk l).size := by omega
      rw [if_pos (by simp)]
      clear h1 h2 h3 h4 ha hl
      generalize mk (l.take 1) = s1 at *
      generalize mk l = s at *
      go_enter Tryz.func84, Tryz.ntmps84
      go_wp2_with (go_at_call 73; (with_reducible refine Calls.mono HI.out ?_); rintro e w9 ⟨rfl, hb9⟩)
      go_ret
      exact ⟨by rw [← E1.out]; rfl, hb9⟩
    · have hne : l.take i ≠ [] := by
        rw [Ne, List.take_eq_nil_iff]
        rintro (h | h)
        · exact hz h
        · subst h; simp at h2
      rw [h3, if_neg hne]
      have E1 : Hid ((mk l).extract 0 i = mk (l.take i)) := ext_take l i
      have hi : i < (mk l).size := by rw [mk_size]; exact h2
      have hii : (i : Int) ≤ (mk l).size := by omega
      have hi0 : (0 : Int) ≤ i := by omega
      have hz1 : ((i : Int) == 0) = false := by simpa using hz
      have hz2 : ((i : Int) == -1) = false := by simp
      clear h1 h2 h3 h4 ha hl hne
      generalize mk (l.take i) = s1 at *
      generalize mk l = s at *
      go_enter Tryz.func84, Tryz.ntmps84
      go_wp2_with (go_at_call 73; (with_reducible refine Calls.mono HI.out ?_); rintro e w9 ⟨rfl, hb9⟩)
      go_ret
      exact ⟨by rw [← E1.out]; rfl, hb9⟩
theorem bare_ok_u (l : List UInt8) (hl : l.length ≤ 1000) (ha : Asc l) : (bare l).length ≤ 1000 ∧ Asc (bare l) := by
  have hs : (bare l).Sublist l := List.dropWhile_sublist _
  exact ⟨Nat.le_trans hs.length_le hl, trivial⟩
theorem drop_ok_u (l : List UInt8) (n : Nat) (hl : l.length ≤ 1000) (ha : Asc l) : (l.drop n).length ≤ 1000 ∧ Asc (l.drop n) := by
  have hs := List.drop_sublist n l
  exact ⟨Nat.le_trans hs.length_le hl, trivial⟩
set_option maxRecDepth 100000 in
set_option maxHeartbeats 2000000 in
theorem parts_core_u (s0 : ByteArray) (sh l : List UInt8) (hsz : s0.size = sh.length) (hg : ∀ k (h : k < s0.size) (h2 : k < sh.length), s0[k] = sh[k]) (hsh : ∀ c ∈ sh, c ∈ letters) (hlen : sh.length ≤ 10) (hl : l.length ≤ 1000) (ha : Asc l) (x : Ins) (w : World) (ht : TabsLie w) :
    Calls Tryz.prog 38 #[.string s0, .string (mk l), .agg x.c] w fun e w' => e = .returned (.tuple #[.agg (partsR sh l x).1.c, .bool (partsR sh l x).2]) ∧ Below w.heap.size w w' := by
  have S : Hid (Two w ((w.alloc (.cells x.c 23)).alloc (.cells #[.int .i64 0, .int .i64 0, .int .i64 0, .int .i64 0, .int .i64 0, .int .i64 0, .bool false, .bool false] 23)) x.c #[.int .i64 0, .int .i64 0, .int .i64 0, .int .i64 0, .int .i64 0, .int .i64 0, .bool false, .bool false]) := Two.new w _ _
  have HT : Hid (TabsLie w) := ht
  have HA : Hid (Asc l) := ha
  have HG : Hid (∀ k (h : k < s0.size) (h2 : k < sh.length), s0[k] = sh[k]) := hg
  clear ht ha hg
  have hl10 : (s0.size : Int) ≤ 10 := by omega
  go_enter Tryz.func38, Tryz.ntmps38
  go_wp2_with fail
  go_loopw [1, 13] (fun sv iv wr => ∃ (k : Nat) (m : List UInt8) (y : Ins), k ≤ sh.length ∧ iv = .int .i64 k ∧ sv = .string (mk m) ∧ m.length ≤ 1000 ∧ Asc m ∧ Two w wr y.c #[.int .i64 0, .int .i64 0, .int .i64 0, .int .i64 0, .int .i64 0, .int .i64 0, .bool false, .bool false] ∧ partsR (sh.drop k) m y = partsR sh l x) (fun _ iv _ => 20 - (intOf iv).toNat)
  case atStart => exact ⟨0, l, x, by omega, rfl, rfl, hl, HA.out, S.out, rfl⟩
  case round =>
    obtain ⟨k, m, y, hk, rfl, rfl, hm, hma, htw, hpr⟩ := hrel
    clear S HA
    have X : Hid (Two w wr y.c #[.int .i64 0, .int .i64 0, .int .i64 0, .int .i64 0, .int .i64 0, .int .i64 0, .bool false, .bool false]) := htw
    have MA : Hid (Asc m) := hma
    have PR : Hid (partsR (sh.drop k) m y = partsR sh l x) := hpr
    clear htw hma hpr
    have hne : w.heap.size ≠ w.heap.size + 1 := by omega
    have hne' : w.heap.size + 1 ≠ w.heap.size := by omega
    by_cases hlt : k < sh.length
    · have hks : k < s0.size := by omega
      have hki : (k : Int) < s0.size := by omega
      have hk0 : (0 : Int) ≤ k := by omega
      have hsk := HG.out k hks hlt
      have hmem : sh[k] ∈ letters := hsh _ (List.getElem_mem hlt)
      have bo := bare_ok_u m hm MA.out
      have pl := piece_len (bare m)
      have dn := drop_ok_u (bare m) (pieceL (bare m)).length bo.1 bo.2
      have HTL : Hid (∀ V, Calls Tryz.prog 83 #[.string (mk m), .string ⟨#[32, 9]⟩] V fun e w' => e = .returned (.string (mk (bare m))) ∧ Below V.heap.size V w') := fun V => Tryz.strings_TrimLeft_blanks (mk m) V
      have HPC : Hid (∀ V, Calls Tryz.prog 84 #[.string (mk (bare m))] V fun e w' => e = .returned (.string (mk (pieceL (bare m)))) ∧ Below V.heap.size V w') := fun V => piece_any_u (bare m) bo.1 bo.2 V
      have HRP : Hid (∀ V, Below w.heap.size w V → Calls Tryz.prog 85 #[.int .u8 (s0[k].toNat : Int), .string (mk (pieceL (bare m))), .agg #[.int .i64 y.op, .int .i64 y.rd, .int .i64 y.rs1, .int .i64 y.rs2, .int .i64 y.imm, .int .i64 y.csr, .bool y.aq, .bool y.rl]] V fun e w' => e = .returned (.tuple #[.agg #[.int .i64 (readS sh[k] (mk (pieceL (bare m))) y).1.op, .int .i64 (readS sh[k] (mk (pieceL (bare m))) y).1.rd, .int .i64 (readS sh[k] (mk (pieceL (bare m))) y).1.rs1, .int .i64 (readS sh[k] (mk (pieceL (bare m))) y).1.rs2, .int .i64 (readS sh[k] (mk (pieceL (bare m))) y).1.imm, .int .i64 (readS sh[k] (mk (pieceL (bare m))) y).1.csr, .bool (readS sh[k] (mk (pieceL (bare m))) y).1.aq, .bool (readS sh[k] (mk (pieceL (bare m))) y).1.rl], .bool (readS sh[k] (mk (pieceL (bare m))) y).2]) ∧ Below V.heap.size V w') := fun V hV => by rw [hsk]; exact rpart_all sh[k] hmem _ (by rw [mk_size]; omega) y V (tabs_below HT.out hV)
      have EX : Hid ((mk (bare m)).extract (mk (pieceL (bare m))).size (mk (bare m)).size = mk ((bare m).drop (pieceL (bare m)).length)) := by
        show _ = _
        rw [mk_size (pieceL (bare m))]
        exact ext_drop _ _ _ (mk_size _).symm
      have hz1 : (mk (bare m)).size ≤ 1000 := by rw [mk_size]; exact bo.1
      have hz2 : (mk (pieceL (bare m))).size ≤ (mk (bare m)).size := by rw [mk_size, mk_size]; exact pl
      have hz3 : ((mk (pieceL (bare m))).size : Int) ≤ (mk (bare m)).size := by omega
      have hst : sh.drop k = sh[k] :: sh.drop (k + 1) := List.drop_eq_getElem_cons hlt
      have DN : Hid _ := dn
      have PR2 : Hid ((if (readS sh[k] (mk (pieceL (bare m))) y).2 = true then partsR (sh.drop (k + 1)) ((bare m).drop (pieceL (bare m)).length) (readS sh[k] (mk (pieceL (bare m))) y).1 else (Ins.zero, false)) = partsR sh l x) := by
        have h := PR.out
        rw [hst] at h
        exact h
      clear bo pl dn hmem hsk hst PR
      generalize (bare m).drop (pieceL (bare m)).length = m2 at *
      generalize readS sh[k] (mk (pieceL (bare m))) y = rr at *
      obtain ⟨z, ok⟩ := rr
      generalize mk (pieceL (bare m)) = pt at *
      generalize mk (bare m) = bt at *
      cases ok
      · go_wp2_with (first | (go_at_call 83; (with_reducible refine Calls.mono (HTL.out _) ?_); rintro e w3 ⟨rfl, hb3⟩; have X3 : Hid (Two w w3 y.c #[.int .i64 0, .int .i64 0, .int .i64 0, .int .i64 0, .int .i64 0, .int .i64 0, .bool false, .bool false]) := X.out.step hb3) | (go_at_call 84; (with_reducible refine Calls.mono (HPC.out _) ?_); rintro e w4 ⟨rfl, hb4⟩; have X4 : Hid (Two w w4 y.c #[.int .i64 0, .int .i64 0, .int .i64 0, .int .i64 0, .int .i64 0, .int .i64 0, .bool false, .bool false]) := X3.out.step hb4; have BW4 : Hid (Below w.heap.size w w4) := X4.out.2.2; obtain ⟨q0, q1, q2, q3, q4, q5, q6, q7⟩ := box8_facts X4.out.1; clear hb4))
        go_region_with (first | (go_at_call 85; (with_reducible refine Calls.mono (HRP.out _ (by repeat (first | exact BW4.out | with_reducible refine Below.drew ?_))) ?_); rintro e w5 ⟨rfl, hb5⟩; have X5 : Hid (Two w w5 y.c #[.int .i64 0, .int .i64 0, .int .i64 0, .int .i64 0, .int .i64 0, .int .i64 0, .bool false, .bool false]) := X4.out.step (below_call (by repeat (first | exact Below.refl _ _ | with_reducible refine Below.drew ?_)) hb5); obtain ⟨p0, p1, p2, p3, p4, p5, p6, p7⟩ := box8_facts X5.out.1; have y0 := box8_frozen X5.out.1 0; have y1 := box8_frozen X5.out.1 1; have y2 := box8_frozen X5.out.1 2; have y3 := box8_frozen X5.out.1 3; have y4 := box8_frozen X5.out.1 4; have y5 := box8_frozen X5.out.1 5; have y6 := box8_frozen X5.out.1 6; have y7 := box8_frozen X5.out.1 7; clear hb5))
        all_goals have X6 : Hid (Two w ((((((((w5.setCell ⟨w.heap.size, 0, none⟩ (.int .i64 z.op)).setCell ⟨w.heap.size, 1, none⟩ (.int .i64 z.rd)).setCell ⟨w.heap.size, 2, none⟩ (.int .i64 z.rs1)).setCell ⟨w.heap.size, 3, none⟩ (.int .i64 z.rs2)).setCell ⟨w.heap.size, 4, none⟩ (.int .i64 z.imm)).setCell ⟨w.heap.size, 5, none⟩ (.int .i64 z.csr)).setCell ⟨w.heap.size, 6, none⟩ (.bool z.aq)).setCell ⟨w.heap.size, 7, none⟩ (.bool z.rl)) z.c #[.int .i64 0, .int .i64 0, .int .i64 0, .int .i64 0, .int .i64 0, .int .i64 0, .bool false, .bool false]) := X5.out.store _ _ _ _ _ _ _ _
        all_goals clear p0 p1 p2 p3 p4 p5 p6 p7 y0 y1 y2 y3 y4 y5 y6 y7
        all_goals generalize ((((((((w5.setCell ⟨w.heap.size, 0, none⟩ (.int .i64 z.op)).setCell ⟨w.heap.size, 1, none⟩ (.int .i64 z.rd)).setCell ⟨w.heap.size, 2, none⟩ (.int .i64 z.rs1)).setCell ⟨w.heap.size, 3, none⟩ (.int .i64 z.rs2)).setCell ⟨w.heap.size, 4, none⟩ (.int .i64 z.imm)).setCell ⟨w.heap.size, 5, none⟩ (.int .i64 z.csr)).setCell ⟨w.heap.size, 6, none⟩ (.bool z.aq)).setCell ⟨w.heap.size, 7, none⟩ (.bool z.rl)) = w6 at *
        all_goals obtain ⟨r0, r1, r2, r3, r4, r5, r6, r7⟩ := box8_facts X6.out.2.1
        all_goals (have z0 := box8_frozen X6.out.2.1 0; have z1 := box8_frozen X6.out.2.1 1; have z2 := box8_frozen X6.out.2.1 2; have z3 := box8_frozen X6.out.2.1 3; have z4 := box8_frozen X6.out.2.1 4; have z5 := box8_frozen X6.out.2.1 5; have z6 := box8_frozen X6.out.2.1 6; have z7 := box8_frozen X6.out.2.1 7)
        all_goals go_wp2_with fail
        all_goals refine bodyPost_ret (v := .tuple #[.agg #[.int .i64 0, .int .i64 0, .int .i64 0, .int .i64 0, .int .i64 0, .int .i64 0, .bool false, .bool false], .bool false]) (by simp [results, Tryz.results38, go_sem, r0, r1, r2, r3, r4, r5, r6, r7]) rfl ⟨by (have h := PR2.out; rw [if_neg (by decide)] at h; rw [← h]; try rfl), by (iterate 8 (refine Below.setCell ?_ (Nat.le_succ _) _)); exact X6.out.2.2⟩
      · go_wp2_with (first | (go_at_call 83; (with_reducible refine Calls.mono (HTL.out _) ?_); rintro e w3 ⟨rfl, hb3⟩; have X3 : Hid (Two w w3 y.c #[.int .i64 0, .int .i64 0, .int .i64 0, .int .i64 0, .int .i64 0, .int .i64 0, .bool false, .bool false]) := X.out.step hb3) | (go_at_call 84; (with_reducible refine Calls.mono (HPC.out _) ?_); rintro e w4 ⟨rfl, hb4⟩; have X4 : Hid (Two w w4 y.c #[.int .i64 0, .int .i64 0, .int .i64 0, .int .i64 0, .int .i64 0, .int .i64 0, .bool false, .bool false]) := X3.out.step hb4; have BW4 : Hid (Below w.heap.size w w4) := X4.out.2.2; obtain ⟨q0, q1, q2, q3, q4, q5, q6, q7⟩ := box8_facts X4.out.1; clear hb4))
        go_region_with (first | (go_at_call 85; (with_reducible refine Calls.mono (HRP.out _ (by repeat (first | exact BW4.out | with_reducible refine Below.drew ?_))) ?_); rintro e w5 ⟨rfl, hb5⟩; have X5 : Hid (Two w w5 y.c #[.int .i64 0, .int .i64 0, .int .i64 0, .int .i64 0, .int .i64 0, .int .i64 0, .bool false, .bool false]) := X4.out.step (below_call (by repeat (first | exact Below.refl _ _ | with_reducible refine Below.drew ?_)) hb5); obtain ⟨p0, p1, p2, p3, p4, p5, p6, p7⟩ := box8_facts X5.out.1; have y0 := box8_frozen X5.out.1 0; have y1 := box8_frozen X5.out.1 1; have y2 := box8_frozen X5.out.1 2; have y3 := box8_frozen X5.out.1 3; have y4 := box8_frozen X5.out.1 4; have y5 := box8_frozen X5.out.1 5; have y6 := box8_frozen X5.out.1 6; have y7 := box8_frozen X5.out.1 7; clear hb5))
        all_goals have X6 : Hid (Two w ((((((((w5.setCell ⟨w.heap.size, 0, none⟩ (.int .i64 z.op)).setCell ⟨w.heap.size, 1, none⟩ (.int .i64 z.rd)).setCell ⟨w.heap.size, 2, none⟩ (.int .i64 z.rs1)).setCell ⟨w.heap.size, 3, none⟩ (.int .i64 z.rs2)).setCell ⟨w.heap.size, 4, none⟩ (.int .i64 z.imm)).setCell ⟨w.heap.size, 5, none⟩ (.int .i64 z.csr)).setCell ⟨w.heap.size, 6, none⟩ (.bool z.aq)).setCell ⟨w.heap.size, 7, none⟩ (.bool z.rl)) z.c #[.int .i64 0, .int .i64 0, .int .i64 0, .int .i64 0, .int .i64 0, .int .i64 0, .bool false, .bool false]) := X5.out.store _ _ _ _ _ _ _ _
        all_goals clear p0 p1 p2 p3 p4 p5 p6 p7 y0 y1 y2 y3 y4 y5 y6 y7
        all_goals generalize ((((((((w5.setCell ⟨w.heap.size, 0, none⟩ (.int .i64 z.op)).setCell ⟨w.heap.size, 1, none⟩ (.int .i64 z.rd)).setCell ⟨w.heap.size, 2, none⟩ (.int .i64 z.rs1)).setCell ⟨w.heap.size, 3, none⟩ (.int .i64 z.rs2)).setCell ⟨w.heap.size, 4, none⟩ (.int .i64 z.imm)).setCell ⟨w.heap.size, 5, none⟩ (.int .i64 z.csr)).setCell ⟨w.heap.size, 6, none⟩ (.bool z.aq)).setCell ⟨w.heap.size, 7, none⟩ (.bool z.rl)) = w6 at *
        all_goals obtain ⟨r0, r1, r2, r3, r4, r5, r6, r7⟩ := box8_facts X6.out.2.1
        all_goals (have z0 := box8_frozen X6.out.2.1 0; have z1 := box8_frozen X6.out.2.1 1; have z2 := box8_frozen X6.out.2.1 2; have z3 := box8_frozen X6.out.2.1 3; have z4 := box8_frozen X6.out.2.1 4; have z5 := box8_frozen X6.out.2.1 5; have z6 := box8_frozen X6.out.2.1 6; have z7 := box8_frozen X6.out.2.1 7)
        all_goals go_wp2_with fail
        all_goals go_roundw
        all_goals (first | exact ⟨k + 1, m2, z, by omega, by go_num, by rw [EX.out], DN.out.1, DN.out.2, X6.out, PR2.out⟩ | (simp [intOf]; omega))
    · obtain rfl : k = sh.length := by omega
      have hfin : partsR sh l x = (y, m.isEmpty) := by
        rw [← PR.out, List.drop_length]; rfl
      have HE : Hid ((mk m).toList.isEmpty = m.isEmpty) := mk_empty m
      have HF : Hid (partsR sh l x = (y, m.isEmpty)) := hfin
      clear hfin PR
      generalize mk m = ms at *
      obtain ⟨q0, q1, q2, q3, q4, q5, q6, q7⟩ := box8_facts X.out.1
      obtain ⟨r0, r1, r2, r3, r4, r5, r6, r7⟩ := box8_facts X.out.2.1
      have z0 := box8_frozen X.out.2.1 0; have z1 := box8_frozen X.out.2.1 1; have z2 := box8_frozen X.out.2.1 2; have z3 := box8_frozen X.out.2.1 3; have z4 := box8_frozen X.out.2.1 4; have z5 := box8_frozen X.out.2.1 5; have z6 := box8_frozen X.out.2.1 6; have z7 := box8_frozen X.out.2.1 7
      go_wp2_with fail
      refine bodyPost_ret (v := .tuple #[.agg #[.int .i64 y.op, .int .i64 y.rd, .int .i64 y.rs1, .int .i64 y.rs2, .int .i64 y.imm, .int .i64 y.csr, .bool y.aq, .bool y.rl], .bool ms.toList.isEmpty]) (by simp [results, Tryz.results38, go_sem, r0, r1, r2, r3, r4, r5, r6, r7, hne, hne']) rfl ⟨?_, ?_⟩
      · rw [HE.out, HF.out]; rfl
      · iterate 8 (refine Below.setCell ?_ (Nat.le_succ _) _)
        exact X.out.2.2
theorem parts_any_u (sh l : List UInt8) (hsh : ∀ c ∈ sh, c ∈ letters) (hlen : sh.length ≤ 10) (hl : l.length ≤ 1000) (ha : Asc l) (x : Ins) (w : World) (ht : TabsLie w) :
    Calls Tryz.prog 38 #[.string (mk sh), .string (mk l), .agg x.c] w fun e w' => e = .returned (.tuple #[.agg (partsR sh l x).1.c, .bool (partsR sh l x).2]) ∧ Below w.heap.size w w' :=
  parts_core_u (mk sh) sh l (mk_size sh) (fun k h h2 => rfl) hsh hlen hl ha x w ht
end Go.Proofs.YtooaafbdjnlmfaaGreatDoor

namespace Go.Proofs.YtooaafbdjnlmfaaGreatDoor
open Go.RowKit
set_option linter.unusedVariables false
set_option linter.unusedSimpArgs false
theorem trim_ok_u (l : List UInt8) (hl : l.length ≤ 1000) (ha : Asc l) : (Lib.trimS l [32, 9]).length ≤ 1000 ∧ Asc (Lib.trimS l [32, 9]) := by
  have h1 : (Lib.trimS l [32, 9]).Sublist (Lib.trimRightS l [32, 9]) := List.dropWhile_sublist _
  have h2 : (Lib.trimRightS l [32, 9]).Sublist l := by
    have := (List.dropWhile_sublist (fun b => ([32, 9] : List UInt8).contains b) (l := l.reverse)).reverse
    rw [List.reverse_reverse] at this
    exact this
  have hs := h1.trans h2
  exact ⟨Nat.le_trans hs.length_le hl, trivial⟩
theorem head_ok_u (cs l : List UInt8) (hl : l.length ≤ 1000) (ha : Asc l) : ((headW cs l).length ≤ 1000 ∧ Asc (headW cs l)) ∧ (tailW cs l).length ≤ 1000 ∧ Asc (tailW cs l) := by
  have h1 : (headW cs l).Sublist l := List.takeWhile_sublist _
  have h2 : (tailW cs l).Sublist l := List.dropWhile_sublist _
  exact ⟨⟨Nat.le_trans h1.length_le hl, trivial⟩, Nat.le_trans h2.length_le hl, trivial⟩
set_option maxRecDepth 100000 in
set_option maxHeartbeats 1000000 in
theorem parse_unknown_u (l t hd tl : List UInt8) (y : Ins) (hl : l.length ≤ 1000) (ha : Asc l) (ht : Lib.trimS l [32, 9] = t) (hh : headW [32, 9] t = hd) (htl : tailW [32, 9] t = tl) (hn : nameR hd = (y, false)) (w : World) (nm : ∀ V, Below w.heap.size w V → NamesAt V) :
    Calls Tryz.prog 13 #[.string (mk l)] w fun e w' => e = .returned (.tuple #[.agg Ins.zero.c, .int .i64 40]) ∧ Below w.heap.size w w' := by
  have B0 : Hid (Below w.heap.size w (w.alloc (.cells #[.int .i64 0, .int .i64 0, .int .i64 0, .int .i64 0, .int .i64 0, .int .i64 0, .bool false, .bool false] 23))) := (Below.refl _ _).alloc (Nat.le_refl _) _
  have X0 : Hid ((w.alloc (.cells #[.int .i64 0, .int .i64 0, .int .i64 0, .int .i64 0, .int .i64 0, .int .i64 0, .bool false, .bool false] 23)).heap[w.heap.size]? = some (.cells #[.int .i64 0, .int .i64 0, .int .i64 0, .int .i64 0, .int .i64 0, .int .i64 0, .bool false, .bool false] 23 (0, 0))) := heap_alloc_new w _
  obtain ⟨t1, t2⟩ := trim_ok_u l hl ha
  rw [ht] at t1 t2
  have hk := head_ok_u [32, 9] _ t1 t2
  rw [hh, htl] at hk
  have HTR : Hid (∀ V, Calls Tryz.prog 36 #[.string (mk l), .string ⟨#[32, 9]⟩] V fun e w' => e = .returned (.string (mk t)) ∧ Below V.heap.size V w') := fun V => by
    have h := Tryz.strings_Trim_blanks (mk l) V (by rw [mk_size]; omega)
    rw [show (mk l).data.toList = l from rfl, ht] at h
    exact h
  have HCN : Hid (∀ V, Calls Tryz.prog 35 #[.string (mk t)] V fun e w' => e = .returned (.tuple #[.string (mk hd), .string (mk tl)]) ∧ Below V.heap.size V w') := fun V => by
    have h := cutname_any_u _ t1 t2 V
    rw [hh, htl] at h
    exact h
  have HRN : Hid (∀ V, Below w.heap.size w V → Calls Tryz.prog 37 #[.string (mk hd)] V fun e w' => e = .returned (.tuple #[.agg #[.int .i64 y.op, .int .i64 y.rd, .int .i64 y.rs1, .int .i64 y.rs2, .int .i64 y.imm, .int .i64 y.csr, .bool y.aq, .bool y.rl], .bool false]) ∧ Below V.heap.size V w') := fun V hV => name_row hd hk.1.1 y false hn V (fun V2 h2 => nm V2 (below_call hV h2))
  clear nm ha hl t1 t2 hk ht hh htl hn
  generalize mk tl = st at *
  generalize mk hd = sh at *
  generalize mk t = sl at *
  generalize mk l = s0 at *
  go_enter Tryz.func13, Tryz.ntmps13
  go_wp2_with fail
  refine (HTR.out _).mono ?_
  rintro e w3 ⟨rfl, hb3⟩
  have Z3 : Hid (Below (w.alloc (.cells #[.int .i64 0, .int .i64 0, .int .i64 0, .int .i64 0, .int .i64 0, .int .i64 0, .bool false, .bool false] 23)).heap.size (w.alloc (.cells #[.int .i64 0, .int .i64 0, .int .i64 0, .int .i64 0, .int .i64 0, .int .i64 0, .bool false, .bool false] 23)) w3) := hb3
  clear hb3
  go_wp2_with fail
  refine (HCN.out _).mono ?_
  rintro e w4 ⟨rfl, hb4⟩
  have Z4 : Hid (Below (w.alloc (.cells #[.int .i64 0, .int .i64 0, .int .i64 0, .int .i64 0, .int .i64 0, .int .i64 0, .bool false, .bool false] 23)).heap.size (w.alloc (.cells #[.int .i64 0, .int .i64 0, .int .i64 0, .int .i64 0, .int .i64 0, .int .i64 0, .bool false, .bool false] 23)) w4) := below_call Z3.out hb4
  have B4 : Hid (Below w.heap.size w w4) := below_call B0.out Z4.out
  clear hb4
  go_wp2_with fail
  refine (HRN.out _ B4.out).mono ?_
  rintro e w5 ⟨rfl, hb5⟩
  have B5 : Hid (Below w.heap.size w w5) := below_call B4.out hb5
  have X5 : Hid (w5.heap[w.heap.size]? = some (.cells #[.int .i64 0, .int .i64 0, .int .i64 0, .int .i64 0, .int .i64 0, .int .i64 0, .bool false, .bool false] 23 (0, 0))) := below_box8 X0.out (below_call Z4.out hb5)
  have l5 : w.heap.size < w5.heap.size := (Array.getElem?_eq_some_iff.1 X5.out).1
  clear hb5
  go_upto_region 3 with fail
  have X6 : Hid ((w5.alloc (.cells #[.int .i64 y.op, .int .i64 y.rd, .int .i64 y.rs1, .int .i64 y.rs2, .int .i64 y.imm, .int .i64 y.csr, .bool y.aq, .bool y.rl] 23)).heap[w.heap.size]? = some (.cells #[.int .i64 0, .int .i64 0, .int .i64 0, .int .i64 0, .int .i64 0, .int .i64 0, .bool false, .bool false] 23 (0, 0))) := below_box8 X5.out ((Below.refl _ _).alloc (Nat.le_refl _) _)
  have Y6 : Hid ((w5.alloc (.cells #[.int .i64 y.op, .int .i64 y.rd, .int .i64 y.rs1, .int .i64 y.rs2, .int .i64 y.imm, .int .i64 y.csr, .bool y.aq, .bool y.rl] 23)).heap[w5.heap.size]? = some (.cells #[.int .i64 y.op, .int .i64 y.rd, .int .i64 y.rs1, .int .i64 y.rs2, .int .i64 y.imm, .int .i64 y.csr, .bool y.aq, .bool y.rl] 23 (0, 0))) := heap_alloc_new w5 _
  have B6 : Hid (Below w.heap.size w (w5.alloc (.cells #[.int .i64 y.op, .int .i64 y.rd, .int .i64 y.rs1, .int .i64 y.rs2, .int .i64 y.imm, .int .i64 y.csr, .bool y.aq, .bool y.rl] 23))) := B5.out.alloc B5.out.size _
  generalize w5.alloc (.cells #[.int .i64 y.op, .int .i64 y.rd, .int .i64 y.rs1, .int .i64 y.rs2, .int .i64 y.imm, .int .i64 y.csr, .bool y.aq, .bool y.rl] 23) = V at *
  generalize w5.heap.size = g6 at *
  clear X0 Z3 Z4 B4 B5 X5 HTR HCN HRN B0
  obtain ⟨r0, r1, r2, r3, r4, r5, r6, r7⟩ := box8_facts X6.out
  have z0 := box8_frozen X6.out 0; have z1 := box8_frozen X6.out 1; have z2 := box8_frozen X6.out 2; have z3 := box8_frozen X6.out 3; have z4 := box8_frozen X6.out 4; have z5 := box8_frozen X6.out 5; have z6 := box8_frozen X6.out 6; have z7 := box8_frozen X6.out 7
  go_wp2_with fail
  have X7 : Hid _ := box8_put X6.out (.int .i64 0) (.int .i64 0) (.int .i64 0) (.int .i64 0) (.int .i64 0) (.int .i64 0) (.bool false) (.bool false)
  clear r0 r1 r2 r3 r4 r5 r6 r7 z0 z1 z2 z3 z4 z5 z6 z7
  obtain ⟨r0, r1, r2, r3, r4, r5, r6, r7⟩ := box8_facts X7.out
  exact bodyPost_ret (v := .tuple #[.agg #[.int .i64 0, .int .i64 0, .int .i64 0, .int .i64 0, .int .i64 0, .int .i64 0, .bool false, .bool false], .int .i64 40]) (by simp [results, Tryz.results13, go_sem, r0, r1, r2, r3, r4, r5, r6, r7]) rfl ⟨rfl, set8_below B6.out (Nat.le_refl _) (.int .i64 0) (.int .i64 0) (.int .i64 0) (.int .i64 0) (.int .i64 0) (.int .i64 0) (.bool false) (.bool false)⟩
set_option maxRecDepth 100000 in
set_option maxHeartbeats 2000000 in
theorem parse_known_u (l t hd tl : List UInt8) (y z : Ins) (ok : Bool) (E : Int) (hE : rightE z.op z.rd z.rs1 z.rs2 z.imm z.csr z.aq z.rl = E) (hl : l.length ≤ 1000) (ha : Asc l) (ht : Lib.trimS l [32, 9] = t) (hh : headW [32, 9] t = hd) (htl : tailW [32, 9] t = tl) (hn : nameR hd = (y, true)) (hp : partsR (shapesT.getD y.op.toNat []) tl y = (z, ok)) (w : World) (tb : Tabs w) (tl0 : TabsLie w) (nm : ∀ V, Below w.heap.size w V → NamesAt V) (zz : Ins) (ee : Int) (hz : (if ok = true ∧ E = 0 then (z, 0) else (Ins.zero, 40)) = (zz, ee)) :
    Calls Tryz.prog 13 #[.string (mk l)] w fun e w' => e = .returned (.tuple #[.agg zz.c, .int .i64 ee]) ∧ Below w.heap.size w w' := by
  have B0 : Hid (Below w.heap.size w (w.alloc (.cells #[.int .i64 0, .int .i64 0, .int .i64 0, .int .i64 0, .int .i64 0, .int .i64 0, .bool false, .bool false] 23))) := (Below.refl _ _).alloc (Nat.le_refl _) _
  have X0 : Hid ((w.alloc (.cells #[.int .i64 0, .int .i64 0, .int .i64 0, .int .i64 0, .int .i64 0, .int .i64 0, .bool false, .bool false] 23)).heap[w.heap.size]? = some (.cells #[.int .i64 0, .int .i64 0, .int .i64 0, .int .i64 0, .int .i64 0, .int .i64 0, .bool false, .bool false] 23 (0, 0))) := heap_alloc_new w _
  obtain ⟨t1, t2⟩ := trim_ok_u l hl ha
  rw [ht] at t1 t2
  have hk := head_ok_u [32, 9] _ t1 t2
  rw [hh, htl] at hk
  have HTR : Hid (∀ V, Calls Tryz.prog 36 #[.string (mk l), .string ⟨#[32, 9]⟩] V fun e w' => e = .returned (.string (mk t)) ∧ Below V.heap.size V w') := fun V => by
    have h := Tryz.strings_Trim_blanks (mk l) V (by rw [mk_size]; omega)
    rw [show (mk l).data.toList = l from rfl, ht] at h
    exact h
  have HCN : Hid (∀ V, Calls Tryz.prog 35 #[.string (mk t)] V fun e w' => e = .returned (.tuple #[.string (mk hd), .string (mk tl)]) ∧ Below V.heap.size V w') := fun V => by
    have h := cutname_any_u _ t1 t2 V
    rw [hh, htl] at h
    exact h
  have HRN : Hid (∀ V, Below w.heap.size w V → Calls Tryz.prog 37 #[.string (mk hd)] V fun e w' => e = .returned (.tuple #[.agg #[.int .i64 y.op, .int .i64 y.rd, .int .i64 y.rs1, .int .i64 y.rs2, .int .i64 y.imm, .int .i64 y.csr, .bool y.aq, .bool y.rl], .bool true]) ∧ Below V.heap.size V w') := fun V hV => name_row hd hk.1.1 y true hn V (fun V2 h2 => nm V2 (below_call hV h2))
  have hr := name_range hd (by rw [hn])
  rw [hn] at hr
  have ho : y.op = ((y.op.toNat : Nat) : Int) := by have := hr.1; simp at this; omega
  have so := shape_ok y.op.toNat (by have := hr.2; simp at this; omega)
  have HSH : Hid (∀ V, Below w.heap.size w V → Calls Tryz.prog 28 #[.int .i64 y.op] V fun e w' => e = .returned (.string (mk (shapesT.getD y.op.toNat []))) ∧ w' = V) := fun V hV => by
    have h := shape_any y.op.toNat (by have := hr.1; simp at this; omega) (by have := hr.2; simp at this; omega) V (tb.below hV)
    rw [← ho] at h
    exact h
  have HPT : Hid (∀ V, Below w.heap.size w V → Calls Tryz.prog 38 #[.string (mk (shapesT.getD y.op.toNat [])), .string (mk tl), .agg #[.int .i64 y.op, .int .i64 y.rd, .int .i64 y.rs1, .int .i64 y.rs2, .int .i64 y.imm, .int .i64 y.csr, .bool y.aq, .bool y.rl]] V fun e w' => e = .returned (.tuple #[.agg #[.int .i64 z.op, .int .i64 z.rd, .int .i64 z.rs1, .int .i64 z.rs2, .int .i64 z.imm, .int .i64 z.csr, .bool z.aq, .bool z.rl], .bool ok]) ∧ Below V.heap.size V w') := fun V hV => by
    have h := parts_any_u (shapesT.getD y.op.toNat []) tl so.1 so.2 hk.2.1 hk.2.2 y V (tabs_below tl0 hV)
    rw [hp] at h
    exact h
  have HRG : Hid (∀ V, Below w.heap.size w V → Calls Tryz.prog 24 #[.agg #[.int .i64 z.op, .int .i64 z.rd, .int .i64 z.rs1, .int .i64 z.rs2, .int .i64 z.imm, .int .i64 z.csr, .bool z.aq, .bool z.rl]] V fun e w' => e = .returned (.int .i64 E) ∧ Below V.heap.size V w') := fun V hV => right_row z E hE V (tb.below hV)
  have HZ : Hid _ := hz
  clear nm ha hl t1 t2 hk ht hh htl hn hp tb tl0 hr ho so hE hz
  generalize mk (shapesT.getD y.op.toNat []) = sp at *
  generalize mk tl = st at *
  generalize mk hd = sh at *
  generalize mk t = sl at *
  generalize mk l = s0 at *
  go_enter Tryz.func13, Tryz.ntmps13
  go_wp2_with fail
  refine (HTR.out _).mono ?_
  rintro e w3 ⟨rfl, hb3⟩
  have Z3 : Hid (Below (w.alloc (.cells #[.int .i64 0, .int .i64 0, .int .i64 0, .int .i64 0, .int .i64 0, .int .i64 0, .bool false, .bool false] 23)).heap.size (w.alloc (.cells #[.int .i64 0, .int .i64 0, .int .i64 0, .int .i64 0, .int .i64 0, .int .i64 0, .bool false, .bool false] 23)) w3) := hb3
  clear hb3
  go_wp2_with fail
  refine (HCN.out _).mono ?_
  rintro e w4 ⟨rfl, hb4⟩
  have Z4 : Hid (Below (w.alloc (.cells #[.int .i64 0, .int .i64 0, .int .i64 0, .int .i64 0, .int .i64 0, .int .i64 0, .bool false, .bool false] 23)).heap.size (w.alloc (.cells #[.int .i64 0, .int .i64 0, .int .i64 0, .int .i64 0, .int .i64 0, .int .i64 0, .bool false, .bool false] 23)) w4) := below_call Z3.out hb4
  have B4 : Hid (Below w.heap.size w w4) := below_call B0.out Z4.out
  clear hb4
  go_wp2_with fail
  refine (HRN.out _ B4.out).mono ?_
  rintro e w5 ⟨rfl, hb5⟩
  have B5 : Hid (Below w.heap.size w w5) := below_call B4.out hb5
  have X5 : Hid (w5.heap[w.heap.size]? = some (.cells #[.int .i64 0, .int .i64 0, .int .i64 0, .int .i64 0, .int .i64 0, .int .i64 0, .bool false, .bool false] 23 (0, 0))) := below_box8 X0.out (below_call Z4.out hb5)
  have l5 : w.heap.size < w5.heap.size := (Array.getElem?_eq_some_iff.1 X5.out).1
  clear hb5
  go_upto_region 3 with fail
  have X6 : Hid ((w5.alloc (.cells #[.int .i64 y.op, .int .i64 y.rd, .int .i64 y.rs1, .int .i64 y.rs2, .int .i64 y.imm, .int .i64 y.csr, .bool y.aq, .bool y.rl] 23)).heap[w.heap.size]? = some (.cells #[.int .i64 0, .int .i64 0, .int .i64 0, .int .i64 0, .int .i64 0, .int .i64 0, .bool false, .bool false] 23 (0, 0))) := below_box8 X5.out ((Below.refl _ _).alloc (Nat.le_refl _) _)
  have Y6 : Hid ((w5.alloc (.cells #[.int .i64 y.op, .int .i64 y.rd, .int .i64 y.rs1, .int .i64 y.rs2, .int .i64 y.imm, .int .i64 y.csr, .bool y.aq, .bool y.rl] 23)).heap[w5.heap.size]? = some (.cells #[.int .i64 y.op, .int .i64 y.rd, .int .i64 y.rs1, .int .i64 y.rs2, .int .i64 y.imm, .int .i64 y.csr, .bool y.aq, .bool y.rl] 23 (0, 0))) := heap_alloc_new w5 _
  have B6 : Hid (Below w.heap.size w (w5.alloc (.cells #[.int .i64 y.op, .int .i64 y.rd, .int .i64 y.rs1, .int .i64 y.rs2, .int .i64 y.imm, .int .i64 y.csr, .bool y.aq, .bool y.rl] 23))) := B5.out.alloc B5.out.size _
  generalize w5.alloc (.cells #[.int .i64 y.op, .int .i64 y.rd, .int .i64 y.rs1, .int .i64 y.rs2, .int .i64 y.imm, .int .i64 y.csr, .bool y.aq, .bool y.rl] 23) = V at *
  generalize w5.heap.size = g6 at *
  clear X0 Z3 Z4 B4 B5 X5 HTR HCN HRN B0
  have n6 : g6 ≠ w.heap.size := Nat.ne_of_gt l5
  have n7 : w.heap.size ≠ g6 := Nat.ne_of_lt l5
  obtain ⟨q0, q1, q2, q3, q4, q5, q6, q7⟩ := box8_facts Y6.out
  go_upto_region 5 with fail
  go_cut [8] (fun c wx => c = .bool ok ∧ wx.heap[w.heap.size]? = some (.cells #[.int .i64 0, .int .i64 0, .int .i64 0, .int .i64 0, .int .i64 0, .int .i64 0, .bool false, .bool false] 23 (0, 0)) ∧ wx.heap[g6]? = some (.cells #[.int .i64 z.op, .int .i64 z.rd, .int .i64 z.rs1, .int .i64 z.rs2, .int .i64 z.imm, .int .i64 z.csr, .bool z.aq, .bool z.rl] 23 (0, 0)) ∧ Below w.heap.size w wx)
  case first =>
    go_region_with (first | (go_at_call 28; (with_reducible refine Calls.mono (HSH.out _ (by repeat (first | exact B6.out | with_reducible refine Below.drew ?_))) ?_); rintro e w7 ⟨rfl, hw7⟩; rw [hw7]; clear hw7) | (go_at_call 38; (with_reducible refine Calls.mono (HPT.out _ (by repeat (first | exact B6.out | with_reducible refine Below.drew ?_))) ?_); rintro e w8 ⟨rfl, hb8⟩; have X8 : Hid (w8.heap[w.heap.size]? = some (.cells #[.int .i64 0, .int .i64 0, .int .i64 0, .int .i64 0, .int .i64 0, .int .i64 0, .bool false, .bool false] 23 (0, 0))) := below_box8 X6.out (below_call (by repeat (first | exact Below.refl _ _ | with_reducible refine Below.drew ?_)) hb8); have Y8 : Hid (w8.heap[g6]? = some (.cells #[.int .i64 y.op, .int .i64 y.rd, .int .i64 y.rs1, .int .i64 y.rs2, .int .i64 y.imm, .int .i64 y.csr, .bool y.aq, .bool y.rl] 23 (0, 0))) := below_box8 Y6.out (below_call (by repeat (first | exact Below.refl _ _ | with_reducible refine Below.drew ?_)) hb8); have B8 : Hid (Below w.heap.size w w8) := below_call B6.out (below_call (by repeat (first | exact Below.refl _ _ | with_reducible refine Below.drew ?_)) hb8); obtain ⟨p0, p1, p2, p3, p4, p5, p6, p7⟩ := box8_facts Y8.out; have y0 := box8_frozen Y8.out 0; have y1 := box8_frozen Y8.out 1; have y2 := box8_frozen Y8.out 2; have y3 := box8_frozen Y8.out 3; have y4 := box8_frozen Y8.out 4; have y5 := box8_frozen Y8.out 5; have y6 := box8_frozen Y8.out 6; have y7 := box8_frozen Y8.out 7; clear hb8))
    all_goals go_wp2_with fail
    all_goals go_meet
    all_goals exact ⟨rfl, (box8_stay n7 (.int .i64 z.op) (.int .i64 z.rd) (.int .i64 z.rs1) (.int .i64 z.rs2) (.int .i64 z.imm) (.int .i64 z.csr) (.bool z.aq) (.bool z.rl)).trans X8.out, box8_put Y8.out (.int .i64 z.op) (.int .i64 z.rd) (.int .i64 z.rs1) (.int .i64 z.rs2) (.int .i64 z.imm) (.int .i64 z.csr) (.bool z.aq) (.bool z.rl), set8_below B8.out (Nat.le_of_lt l5) (.int .i64 z.op) (.int .i64 z.rd) (.int .i64 z.rs1) (.int .i64 z.rs2) (.int .i64 z.imm) (.int .i64 z.csr) (.bool z.aq) (.bool z.rl)⟩
  case rest =>
    obtain ⟨rfl, hX, hY, hB⟩ := hcut
    have XC : Hid (wc.heap[w.heap.size]? = some (.cells #[.int .i64 0, .int .i64 0, .int .i64 0, .int .i64 0, .int .i64 0, .int .i64 0, .bool false, .bool false] 23 (0, 0))) := hX
    have YC : Hid (wc.heap[g6]? = some (.cells #[.int .i64 z.op, .int .i64 z.rd, .int .i64 z.rs1, .int .i64 z.rs2, .int .i64 z.imm, .int .i64 z.csr, .bool z.aq, .bool z.rl] 23 (0, 0))) := hY
    have BC : Hid (Below w.heap.size w wc) := hB
    clear hX hY hB X6 Y6 B6 HSH HPT q0 q1 q2 q3 q4 q5 q6 q7
    cases ok
    · obtain ⟨r0, r1, r2, r3, r4, r5, r6, r7⟩ := box8_facts XC.out
      have z0 := box8_frozen XC.out 0; have z1 := box8_frozen XC.out 1; have z2 := box8_frozen XC.out 2; have z3 := box8_frozen XC.out 3; have z4 := box8_frozen XC.out 4; have z5 := box8_frozen XC.out 5; have z6 := box8_frozen XC.out 6; have z7 := box8_frozen XC.out 7
      go_wp2_with fail
      have X9 : Hid _ := box8_put XC.out (.int .i64 0) (.int .i64 0) (.int .i64 0) (.int .i64 0) (.int .i64 0) (.int .i64 0) (.bool false) (.bool false)
      clear r0 r1 r2 r3 r4 r5 r6 r7 z0 z1 z2 z3 z4 z5 z6 z7
      obtain ⟨r0, r1, r2, r3, r4, r5, r6, r7⟩ := box8_facts X9.out
      have hz := HZ.out
      rw [if_neg (by simp)] at hz
      obtain ⟨rfl, rfl⟩ := Prod.mk.inj hz
      exact bodyPost_ret (v := .tuple #[.agg #[.int .i64 0, .int .i64 0, .int .i64 0, .int .i64 0, .int .i64 0, .int .i64 0, .bool false, .bool false], .int .i64 40]) (by simp [results, Tryz.results13, go_sem, r0, r1, r2, r3, r4, r5, r6, r7]) rfl ⟨rfl, set8_below BC.out (Nat.le_refl _) (.int .i64 0) (.int .i64 0) (.int .i64 0) (.int .i64 0) (.int .i64 0) (.int .i64 0) (.bool false) (.bool false)⟩
    · obtain ⟨q0, q1, q2, q3, q4, q5, q6, q7⟩ := box8_facts YC.out
      go_wp2_with fail
      refine (HRG.out _ BC.out).mono ?_
      rintro e w9 ⟨rfl, hb9⟩
      have XD : Hid (w9.heap[w.heap.size]? = some (.cells #[.int .i64 0, .int .i64 0, .int .i64 0, .int .i64 0, .int .i64 0, .int .i64 0, .bool false, .bool false] 23 (0, 0))) := below_box8 XC.out hb9
      have YD : Hid (w9.heap[g6]? = some (.cells #[.int .i64 z.op, .int .i64 z.rd, .int .i64 z.rs1, .int .i64 z.rs2, .int .i64 z.imm, .int .i64 z.csr, .bool z.aq, .bool z.rl] 23 (0, 0))) := below_box8 YC.out hb9
      have BD : Hid (Below w.heap.size w w9) := below_call BC.out hb9
      clear hb9 q0 q1 q2 q3 q4 q5 q6 q7 XC YC BC
      obtain ⟨q0, q1, q2, q3, q4, q5, q6, q7⟩ := box8_facts YD.out
      obtain ⟨r0, r1, r2, r3, r4, r5, r6, r7⟩ := box8_facts XD.out
      have z0 := box8_frozen XD.out 0; have z1 := box8_frozen XD.out 1; have z2 := box8_frozen XD.out 2; have z3 := box8_frozen XD.out 3; have z4 := box8_frozen XD.out 4; have z5 := box8_frozen XD.out 5; have z6 := box8_frozen XD.out 6; have z7 := box8_frozen XD.out 7
      by_cases hE0 : E = 0
      · subst hE0
        go_wp2_with fail
        have X9 : Hid _ := box8_put XD.out (.int .i64 z.op) (.int .i64 z.rd) (.int .i64 z.rs1) (.int .i64 z.rs2) (.int .i64 z.imm) (.int .i64 z.csr) (.bool z.aq) (.bool z.rl)
        clear r0 r1 r2 r3 r4 r5 r6 r7 z0 z1 z2 z3 z4 z5 z6 z7
        obtain ⟨r0, r1, r2, r3, r4, r5, r6, r7⟩ := box8_facts X9.out
        have hz := HZ.out
        rw [if_pos (by simp)] at hz
        obtain ⟨rfl, rfl⟩ := Prod.mk.inj hz
        exact bodyPost_ret (v := .tuple #[.agg #[.int .i64 z.op, .int .i64 z.rd, .int .i64 z.rs1, .int .i64 z.rs2, .int .i64 z.imm, .int .i64 z.csr, .bool z.aq, .bool z.rl], .int .i64 0]) (by simp [results, Tryz.results13, go_sem, r0, r1, r2, r3, r4, r5, r6, r7]) rfl ⟨rfl, set8_below BD.out (Nat.le_refl _) (.int .i64 z.op) (.int .i64 z.rd) (.int .i64 z.rs1) (.int .i64 z.rs2) (.int .i64 z.imm) (.int .i64 z.csr) (.bool z.aq) (.bool z.rl)⟩
      · have hE1 : (E != 0) = true := by simp [hE0]
        go_wp2_with fail
        have X9 : Hid _ := box8_put XD.out (.int .i64 0) (.int .i64 0) (.int .i64 0) (.int .i64 0) (.int .i64 0) (.int .i64 0) (.bool false) (.bool false)
        clear r0 r1 r2 r3 r4 r5 r6 r7 z0 z1 z2 z3 z4 z5 z6 z7
        obtain ⟨r0, r1, r2, r3, r4, r5, r6, r7⟩ := box8_facts X9.out
        have hz := HZ.out
        rw [if_neg (fun h => hE0 h.2)] at hz
        obtain ⟨rfl, rfl⟩ := Prod.mk.inj hz
        exact bodyPost_ret (v := .tuple #[.agg #[.int .i64 0, .int .i64 0, .int .i64 0, .int .i64 0, .int .i64 0, .int .i64 0, .bool false, .bool false], .int .i64 40]) (by simp [results, Tryz.results13, go_sem, r0, r1, r2, r3, r4, r5, r6, r7]) rfl ⟨rfl, set8_below BD.out (Nat.le_refl _) (.int .i64 0) (.int .i64 0) (.int .i64 0) (.int .i64 0) (.int .i64 0) (.int .i64 0) (.bool false) (.bool false)⟩
theorem parseT_any_u (l : List UInt8) (hl : l.length ≤ 1000) (ha : Asc l) (w : World) (hL : Laid w) :
    Calls Tryz.prog 13 #[.string (mk l)] w fun e w' => e = .returned (.tuple #[.agg (parseR l).1.c, .int .i64 (parseE l)]) ∧ Below w.heap.size w w' := by
  have nm : ∀ V, Below w.heap.size w V → NamesAt V := fun V hV => hL.names.below hL.size hV
  obtain ⟨y, ok, hn⟩ : ∃ y ok, nameR (headW [32, 9] (Lib.trimS l [32, 9])) = (y, ok) := ⟨_, _, rfl⟩
  cases ok
  · have h := parse_unknown_u l _ _ _ y hl ha rfl rfl rfl hn w nm
    have e : parseR l = (Ins.zero, false) := by unfold parseR; rw [hn, if_neg (by simp)]
    have e2 : parseE l = 40 := by unfold parseE; rw [e]; rfl
    rw [e, e2]
    exact h
  · obtain ⟨z, ok, hp⟩ : ∃ z ok, partsR (shapesT.getD y.op.toNat []) (tailW [32, 9] (Lib.trimS l [32, 9])) y = (z, ok) := ⟨_, _, rfl⟩
    have hpo : partsO l = (z, ok) := by unfold partsO; rw [hn]; exact hp
    have h := parse_known_u l _ _ _ y z ok _ rfl hl ha rfl rfl rfl hn hp w hL.tabs hL.lie nm _ _ rfl
    have e : (if ok = true ∧ rightE z.op z.rd z.rs1 z.rs2 z.imm z.csr z.aq z.rl = 0 then (z, (0 : Int)) else (Ins.zero, 40)) = ((parseR l).1, parseE l) := by
      unfold parseE parseR
      rw [hpo, hn]
      cases hr : z.right
      · rw [if_neg (fun h => by have := h.2; rw [rightE_no hr] at this; exact absurd this (by decide)), if_neg (by simp [hr])]
        rfl
      · cases ok
        · rw [if_neg (by simp), if_neg (by simp)]; rfl
        · rw [if_pos ⟨rfl, rightE_yes hr⟩, if_pos (by simp [hr])]; rfl
    rw [Prod.mk.inj e |>.1, Prod.mk.inj e |>.2] at h
    exact h
end Go.Proofs.YtooaafbdjnlmfaaGreatDoor
