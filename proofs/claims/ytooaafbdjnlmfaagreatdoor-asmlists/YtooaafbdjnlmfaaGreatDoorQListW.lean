/- The statement on lists of words, over what the two Decodes tell of each word. -/
import Derived.Test.YtooaafbdjnlmfaaGreatDoorQListA
import Derived.Test.YtooaafbdjnlmfaaGreatDoorQPrints
import Derived.Deep.QuietTactic
import Derived.Deep.RegionHeld3
import Derived.BigQuiet
namespace Go.Proofs.YtooaafbdjnlmfaaGreatDoor
open Go.RowKit
set_option linter.unusedVariables false
set_option linter.unusedSimpArgs false
/-- the row of lines, where it lies -/
theorem row_at {w : World} {base : Nat} {e : TypeId} {v : Value} {n : Nat} {xs : List Value} (h : w.ownsRow base e 1 v n xs) : (n = 0 ∧ v = .slice none 0 0) ∨ ∃ g cap, v = .slice (some ⟨g, 0, none⟩) n cap ∧ base ≤ g ∧ ∀ i, i < n → w.cell? ⟨g, i, none⟩ = xs[i]? := by
  rcases h.2 with ⟨h1, h2⟩ | ⟨g, cap, cur, h1, hg, hbl, hnc, hcm, _, _⟩
  · exact .inl ⟨h2, h1⟩
  · subst h1
    exact .inr ⟨g, cap, rfl, hg, fun i hi => h.cellAt i (by omega)⟩
set_option maxRecDepth 100000 in
set_option maxHeartbeats 32000000 in
theorem lists_walk (a : Option Addr) (len cap : Nat) (f : Nat → Nat) (hf : ∀ i, f i < 4294967296) (W : World) (hrow : len = 0 ∨ ∃ b off, a = some ⟨b, off, none⟩ ∧ ∀ i, i < len → W.cell? ⟨b, off + i, none⟩ = some (.int .u32 (f i : Nat))) (hT : TabsD W ∧ Laid W)
    (Y : Nat → Ins) (E : Nat → Int) (hY : ∀ i, Dec (f i) (Y i) (E i)) (hD : ∀ i V, TabsD V → Calls Tryz.prog 23 #[.int .u32 (f i : Nat)] V fun r w' => r = .returned (.tuple #[.agg #[.int .i64 (Y i).op, .int .i64 (Y i).rd, .int .i64 (Y i).rs1, .int .i64 (Y i).rs2, .int .i64 (Y i).imm, .int .i64 (Y i).csr, .bool (Y i).aq, .bool (Y i).rl], .int .i64 (E i)]) ∧ Below V.heap.size V w')
    (hDD : ∀ i V, Calls Tryz.prog 21 #[.int .u32 (f i : Nat)] V fun r w' => r = .returned (.tuple #[.agg #[.int .i64 (Y i).op, .int .i64 (Y i).rd, .int .i64 (Y i).rs1, .int .i64 (Y i).rs2, .int .i64 (Y i).imm, .int .i64 (Y i).csr, .bool (Y i).aq, .bool (Y i).rl], .bool (decide (E i = 0))]) ∧ Below V.heap.size V w') :
    Calls Tryz.prog 6 #[.slice a len cap] W fun e w' => e = .returned (.bool true) ∧ Below W.heap.size W w' := by
  have HT : Hid (∀ V, Below W.heap.size W V → TabsD V ∧ Laid V) := fun V hV => ⟨hT.1.below hV, hT.2.below hV⟩
  have HR : Hid _ := hrow
  have HY : Hid (∀ i, Dec (f i) (Y i) (E i)) := hY
  have HDD : Hid _ := hDD
  have HD : Hid _ := hD
  clear hT hrow hY hDD hD
  go_enter Tryz.func6, Tryz.ntmps6
  go_wp2_with fail
  refine (awake_any W (HT.out W (Below.refl _ _)).2).mono ?_
  rintro e w1 ⟨rfl, hb1⟩
  have B1 : Hid (Below W.heap.size W w1) := hb1
  clear hb1
  by_cases hlen : (30 : Int) < len
  · go_wp2_with fail
    go_ret
    exact ⟨rfl, B1.out⟩
  have hlen30 : len ≤ 30 := by omega
  go_wp2_with fail
  refine (list_any W a len cap hlen30 f (fun i => mk (lineL (f i) (Y i) (E i))) HR.out (fun i hi V hV => wtext_any (f i) (hf i) (Y i) (E i) (HY.out i) V (HD.out i V (HT.out V hV).1) (HT.out V hV).2) w1 B1.out).mono ?_
  rintro e w2 ⟨v, rfl, hown, hb2⟩
  have B2 : Hid (Below W.heap.size W w2) := below_call B1.out hb2
  have hrl := row_at hown
  clear hown hb2 B1
  have hv : ∃ al cl, v = .slice al len cl ∧ (len = 0 ∨ ∃ g, al = some ⟨g, 0, none⟩ ∧ ∀ i, i < len → w2.cell? ⟨g, i, none⟩ = some (.string (mk (lineL (f i) (Y i) (E i))))) := by
    rcases hrl with ⟨rfl, rfl⟩ | ⟨g, cl, rfl, _, hc⟩
    · exact ⟨none, 0, rfl, .inl rfl⟩
    · exact ⟨_, cl, rfl, .inr ⟨g, rfl, fun i hi => by rw [hc i hi]; exact strRow_get _ len i hi⟩⟩
  obtain ⟨al, cl, rfl, hL⟩ := hv
  have HLN : Hid _ := hL
  clear hrl hL
  go_wp2_with fail
  go_loopw [4, 5, 6, 7] (fun al i s6 s7 wr => ∃ k : Nat, k ≤ len ∧ i = .int .i64 k ∧ al = .bool (decide (∀ i, i < k → E i = 0)) ∧ Below w2.heap.size w2 wr) (fun _ i _ _ _ => len - (intOf i).toNat)
  case atStart => exact ⟨0, by omega, rfl, congrArg Value.bool (by symm; apply decide_eq_true; intro i h; omega), Below.refl _ _⟩
  case round =>
    obtain ⟨k, hk, rfl, rfl, hbr⟩ := hrel
    have CR : Hid (Below w2.heap.size w2 wr) := hbr
    have BR : Hid (Below W.heap.size W wr) := below_call B2.out hbr
    clear hbr
    by_cases hlt : k < len
    · have hlt1 : (k : Int) < len := by omega
      obtain ⟨b, off, rfl, hcell⟩ : ∃ b off, a = some ⟨b, off, none⟩ ∧ ∀ i, i < len → W.cell? ⟨b, off + i, none⟩ = some (.int .u32 (f i : Nat)) := by
        rcases HR.out with h | h
        · omega
        · exact h
      obtain ⟨g, rfl, hlc⟩ : ∃ g, al = some ⟨g, 0, none⟩ ∧ ∀ i, i < len → w2.cell? ⟨g, i, none⟩ = some (.string (mk (lineL (f i) (Y i) (E i)))) := by
        rcases HLN.out with h | h
        · omega
        · exact h
      have HC : Hid (∀ V, Below wr.heap.size wr V → V.cell? ⟨b, off + k, none⟩ = some (.int .u32 (f k : Nat))) := fun V hV => by
        rw [(below_call BR.out hV).cell (p := ⟨b, off + k, none⟩) (block_lt_of_cell (hcell k hlt))]; exact hcell k hlt
      have HG : Hid (∀ V, Below wr.heap.size wr V → V.cell? ⟨g, k, none⟩ = some (.string (mk (lineL (f k) (Y k) (E k))))) := fun V hV => by
        rw [(below_call CR.out hV).cell (p := ⟨g, k, none⟩) (block_lt_of_cell (hlc k hlt))]; exact hlc k hlt
      have D1 : Hid _ := HDD.out k
      have hc := HC.out _ (Below.refl _ _)
      have hdk := HY.out k
      have HAL : Hid (decide (∀ i, i < k + 1 → E i = 0) = (decide (∀ i, i < k → E i = 0) && decide (E k = 0))) := by
        show _ = _
        rw [Bool.eq_iff_iff]
        simp only [Bool.and_eq_true, decide_eq_true_eq]
        exact ⟨fun h => ⟨fun i hi => h i (by omega), h k (by omega)⟩, fun h i hi => by
          by_cases e : i = k
          · rw [e]; exact h.2
          · exact h.1 i (by omega)⟩
      clear hcell hlc
      generalize decide (∀ i, i < k → E i = 0) = alk at *
      obtain ⟨aln0, haln0⟩ : ∃ q, decide (∀ i, i < k + 1 → E i = 0) = q := ⟨_, rfl⟩
      have hAN : aln0 = decide (∀ i, i < k + 1 → E i = 0) := haln0.symm
      rw [haln0] at HAL
      have HAN : Hid (aln0 = decide (∀ i, i < k + 1 → E i = 0)) := hAN
      clear hAN
      generalize hfk : f k = x at *
      have hx : x < 4294967296 := by rw [← hfk]; exact hf k
      generalize Y k = y at *
      generalize E k = ek at *
      go_wp2_with fail
      refine (D1.out _).mono ?_
      rintro e w4 ⟨rfl, hb4⟩
      have C4 : Hid (Below wr.heap.size wr w4) := hb4
      clear hb4 hc D1
      cases hdk with
      | no =>
        have HX : Hid (∀ V, Calls Tryz.prog 22 #[.int .u64 (x : Int)] V fun e w' => e = .returned (.string (mk (lineL x Ins.zero 31))) ∧ ∃ n, w' = V.drewN n) := fun V => by
          refine (rhex_any x (by omega) V).mono ?_
          rintro e w' ⟨rfl, hn⟩
          exact ⟨by rw [hexS_mk]; rfl, hn⟩
        have hd0 : decide ((31 : Int) = 0) = false := by decide
        rw [hd0] at HAL
        generalize mk (lineL x Ins.zero 31) = pt at *
        generalize Ins.zero = y at *
        go_upto_region 13 with fail
        have C5 : Hid (Below wr.heap.size wr (w4.alloc (.cells #[.int .i64 y.op, .int .i64 y.rd, .int .i64 y.rs1, .int .i64 y.rs2, .int .i64 y.imm, .int .i64 y.csr, .bool y.aq, .bool y.rl] 23))) := C4.out.alloc C4.out.size _
        generalize w4.alloc (.cells #[.int .i64 y.op, .int .i64 y.rd, .int .i64 y.rs1, .int .i64 y.rs2, .int .i64 y.imm, .int .i64 y.csr, .bool y.aq, .bool y.rl] 23) = V5 at *
        have hc := HC.out _ C5.out
        have hg := HG.out _ C5.out
        have ew : IntKind.u64.wrap (x : Int) = (x : Int) := by rw [wrap_u64]; omega
        go_cut [4] (fun c wx => c = .bool aln0 ∧ wx = V5)
        case first =>
          cases alk
          · go_wp2_with fail
            go_meet
            exact ⟨congrArg Value.bool (by rw [HAL.out]; rfl), rfl⟩
          · go_wp2_with fail
            go_meet
            exact ⟨congrArg Value.bool (by rw [HAL.out]; rfl), rfl⟩
        case rest =>
        obtain ⟨rfl, rfl⟩ := hcut
        go_upto_region 14 with fail
        go_quiet ((go_at_call 22; exact Calls.quiet_of (HX.out _)))
        go_wp2_with fail
        go_roundw
        case rel => exact ⟨k + 1, by omega, by go_num, congrArg Value.bool HAN.out, below_call CR.out (below_drewN C5.out _)⟩
        case measure => simp [intOf]; omega
      | yes _ hr hb he =>
        have HPD : Hid (∀ V, Calls Tryz.prog 10 #[.agg #[.int .i64 y.op, .int .i64 y.rd, .int .i64 y.rs1, .int .i64 y.rs2, .int .i64 y.imm, .int .i64 y.csr, .bool y.aq, .bool y.rl]] V fun e w' => e = .returned (.string (mk (lineL x y 0))) ∧ Below V.heap.size V w') := fun V => by
          have h := dprint_any y.op y.rd y.rs1 y.rs2 y.imm y.csr y.aq y.rl V
          have e : printT y.op y.rd y.rs1 y.rs2 y.imm y.csr y.aq y.rl = lineL x y 0 := by unfold printT; rw [show rightB y.op y.rd y.rs1 y.rs2 y.imm y.csr y.aq y.rl = true from hr]; rfl
          rw [e] at h
          exact h
        have hd0 : decide ((0 : Int) = 0) = true := by decide
        rw [hd0] at HAL
        clear hr hb he
        generalize mk (lineL x y 0) = pt at *
        go_upto_region 13 with fail
        have C5 : Hid (Below wr.heap.size wr (w4.alloc (.cells #[.int .i64 y.op, .int .i64 y.rd, .int .i64 y.rs1, .int .i64 y.rs2, .int .i64 y.imm, .int .i64 y.csr, .bool y.aq, .bool y.rl] 23))) := C4.out.alloc C4.out.size _
        have X5 : Hid ((w4.alloc (.cells #[.int .i64 y.op, .int .i64 y.rd, .int .i64 y.rs1, .int .i64 y.rs2, .int .i64 y.imm, .int .i64 y.csr, .bool y.aq, .bool y.rl] 23)).heap[w4.heap.size]? = some (.cells #[.int .i64 y.op, .int .i64 y.rd, .int .i64 y.rs1, .int .i64 y.rs2, .int .i64 y.imm, .int .i64 y.csr, .bool y.aq, .bool y.rl] 23 (0, 0))) := heap_alloc_new w4 _
        generalize w4.alloc (.cells #[.int .i64 y.op, .int .i64 y.rd, .int .i64 y.rs1, .int .i64 y.rs2, .int .i64 y.imm, .int .i64 y.csr, .bool y.aq, .bool y.rl] 23) = V5 at *
        generalize w4.heap.size = g4 at *
        have hc := HC.out _ C5.out
        have hg := HG.out _ C5.out
        obtain ⟨q0, q1, q2, q3, q4, q5, q6, q7⟩ := box8_facts X5.out
        have e1 : (pt.toList != pt.toList) = false := by simp
        have e2 : (pt.toList == pt.toList) = true := by simp
        go_cut [4] (fun c wx => c = .bool aln0 ∧ wx = V5)
        case first =>
          cases alk
          · go_wp2_with fail
            go_meet
            exact ⟨congrArg Value.bool (by rw [HAL.out]; rfl), rfl⟩
          · go_wp2_with fail
            go_meet
            exact ⟨congrArg Value.bool (by rw [HAL.out]; rfl), rfl⟩
        case rest =>
        obtain ⟨rfl, rfl⟩ := hcut
        go_upto_region 14 with fail
        refine wp_region_held_drew (S := (fun V => V.cell? ⟨g, k, none⟩ = some (.string pt) ∧ V.cell? ⟨g4, 0, none⟩ = some (.int .i64 y.op) ∧ V.cell? ⟨g4, 1, none⟩ = some (.int .i64 y.rd) ∧ V.cell? ⟨g4, 2, none⟩ = some (.int .i64 y.rs1) ∧ V.cell? ⟨g4, 3, none⟩ = some (.int .i64 y.rs2) ∧ V.cell? ⟨g4, 4, none⟩ = some (.int .i64 y.imm) ∧ V.cell? ⟨g4, 5, none⟩ = some (.int .i64 y.csr) ∧ V.cell? ⟨g4, 6, none⟩ = some (.bool y.aq) ∧ V.cell? ⟨g4, 7, none⟩ = some (.bool y.rl))) (by kernel_rfl) ⟨hg, q0, q1, q2, q3, q4, q5, q6, q7⟩ (fun hHeld => ?_)
        refine wpAnyH_take (i := 0) (v := ?_) rfl (by kernel_rfl) (by kernel_rfl) (by kernel_rfl) (fun _ _ _ h => h) (Or.inl ⟨by kernel_rfl, ?_⟩) (by assumption) ?_
        rotate_left
        · intro w hSw; (try dsimp only at hSw); go_simp; try (with_reducible rfl)
        try simp only [Act.put, List.getElem_toArray, List.getElem_cons_succ, List.getElem_cons_zero, List.setIfInBounds_toArray, List.set_cons_zero, List.set_cons_succ]
        refine wpAnyH_take (i := 1) (v := ?_) rfl (by kernel_rfl) (by kernel_rfl) (by kernel_rfl) (fun _ _ _ h => h) (Or.inl ⟨by kernel_rfl, ?_⟩) (by assumption) ?_
        rotate_left
        · intro w hSw; (try dsimp only at hSw); go_simp; try (with_reducible rfl)
        try simp only [Act.put, List.getElem_toArray, List.getElem_cons_succ, List.getElem_cons_zero, List.setIfInBounds_toArray, List.set_cons_zero, List.set_cons_succ]
        refine wpAnyH_take (i := 2) (v := ?_) rfl (by kernel_rfl) (by kernel_rfl) (by kernel_rfl) (fun _ _ _ h => h) (Or.inl ⟨by kernel_rfl, ?_⟩) (by assumption) ?_
        rotate_left
        · intro w hSw; (try dsimp only at hSw); go_simp; try (with_reducible rfl)
        try simp only [Act.put, List.getElem_toArray, List.getElem_cons_succ, List.getElem_cons_zero, List.setIfInBounds_toArray, List.set_cons_zero, List.set_cons_succ]
        refine wpAnyH_take (i := 3) (v := ?_) rfl (by kernel_rfl) (by kernel_rfl) (by kernel_rfl) (fun _ _ _ h => h) (Or.inl ⟨by kernel_rfl, ?_⟩) (by assumption) ?_
        rotate_left
        · intro w hSw; (try dsimp only at hSw); go_simp; try (with_reducible rfl)
        try simp only [Act.put, List.getElem_toArray, List.getElem_cons_succ, List.getElem_cons_zero, List.setIfInBounds_toArray, List.set_cons_zero, List.set_cons_succ]
        refine wpAnyH_take (i := 4) (v := ?_) rfl (by kernel_rfl) (by kernel_rfl) (by kernel_rfl) (fun _ _ _ h => h) (Or.inl ⟨by kernel_rfl, ?_⟩) (by assumption) ?_
        rotate_left
        · intro w hSw; (try dsimp only at hSw); go_simp; try (with_reducible rfl)
        try simp only [Act.put, List.getElem_toArray, List.getElem_cons_succ, List.getElem_cons_zero, List.setIfInBounds_toArray, List.set_cons_zero, List.set_cons_succ]
        refine wpAnyH_take (i := 5) (v := ?_) rfl (by kernel_rfl) (by kernel_rfl) (by kernel_rfl) (fun _ _ _ h => h) (Or.inl ⟨by kernel_rfl, ?_⟩) (by assumption) ?_
        rotate_left
        · intro w hSw; (try dsimp only at hSw); go_simp; try (with_reducible rfl)
        try simp only [Act.put, List.getElem_toArray, List.getElem_cons_succ, List.getElem_cons_zero, List.setIfInBounds_toArray, List.set_cons_zero, List.set_cons_succ]
        refine wpAnyH_take (i := 6) (v := ?_) rfl (by kernel_rfl) (by kernel_rfl) (by kernel_rfl) (fun _ _ _ h => h) (Or.inl ⟨by kernel_rfl, ?_⟩) (by assumption) ?_
        rotate_left
        · intro w hSw; (try dsimp only at hSw); go_simp; try (with_reducible rfl)
        try simp only [Act.put, List.getElem_toArray, List.getElem_cons_succ, List.getElem_cons_zero, List.setIfInBounds_toArray, List.set_cons_zero, List.set_cons_succ]
        refine wpAnyH_ready (rs := [7]) (by kernel_rfl) (by simp) ?_
        refine AllReadyH.cons rfl (fun K hK => ?_) AllReadyH.nil
        go_simp
        refine (HPD.out _).mono ?_
        rintro e w6 ⟨rfl, hb6⟩
        have C6 : Hid (Below wr.heap.size wr w6) := below_call C5.out (below_call (by repeat (first | exact Below.refl _ _ | with_reducible refine Below.drew ?_)) hb6)
        have hg6 := HG.out _ C6.out
        have X6 : Hid (w6.heap[g4]? = some (.cells #[.int .i64 y.op, .int .i64 y.rd, .int .i64 y.rs1, .int .i64 y.rs2, .int .i64 y.imm, .int .i64 y.csr, .bool y.aq, .bool y.rl] 23 (0, 0))) := below_box8 X5.out (below_call (by repeat (first | exact Below.refl _ _ | with_reducible refine Below.drew ?_)) hb6)
        obtain ⟨r0, r1, r2, r3, r4, r5, r6, r7⟩ := box8_facts X6.out
        clear hb6
        refine hK.out _ _ ⟨hg6, r0, r1, r2, r3, r4, r5, r6, r7⟩ (fun hHeld2 => ?_)
        clear hK K hHeld
        try simp only [Act.put, List.getElem_toArray, List.getElem_cons_succ, List.getElem_cons_zero, List.setIfInBounds_toArray, List.set_cons_zero, List.set_cons_succ]
        refine wpAnyH_take (i := 8) (v := ?_) rfl (by kernel_rfl) (by kernel_rfl) (by kernel_rfl) (fun _ _ _ h => h) (Or.inl ⟨by kernel_rfl, ?_⟩) (by assumption) ?_
        rotate_left
        · intro w hSw; (try dsimp only at hSw); go_simp; try (with_reducible rfl)
        try simp only [Act.put, List.getElem_toArray, List.getElem_cons_succ, List.getElem_cons_zero, List.setIfInBounds_toArray, List.set_cons_zero, List.set_cons_succ]
        refine wpAnyH_take (i := 9) (v := ?_) rfl (by kernel_rfl) (by kernel_rfl) (by kernel_rfl) (fun _ _ _ h => h) (Or.inl ⟨by kernel_rfl, ?_⟩) (by assumption) ?_
        rotate_left
        · intro w hSw; (try dsimp only at hSw); go_simp; try (with_reducible rfl)
        try simp only [Act.put, List.getElem_toArray, List.getElem_cons_succ, List.getElem_cons_zero, List.setIfInBounds_toArray, List.set_cons_zero, List.set_cons_succ]
        refine wpAnyH_take (i := 10) (v := ?_) rfl (by kernel_rfl) (by kernel_rfl) (by kernel_rfl) (fun _ _ _ h => h) (Or.inl ⟨by kernel_rfl, ?_⟩) (by assumption) ?_
        rotate_left
        · intro w hSw; (try dsimp only at hSw); go_simp; try (with_reducible rfl)
        try simp only [Act.put, List.getElem_toArray, List.getElem_cons_succ, List.getElem_cons_zero, List.setIfInBounds_toArray, List.set_cons_zero, List.set_cons_succ]
        refine wpAnyH_take (i := 11) (v := ?_) rfl (by kernel_rfl) (by kernel_rfl) (by kernel_rfl) (fun _ _ _ h => h) (Or.inl ⟨by kernel_rfl, ?_⟩) (by assumption) ?_
        rotate_left
        · intro w hSw; (try dsimp only at hSw); go_simp; try (with_reducible rfl)
        try simp only [Act.put, List.getElem_toArray, List.getElem_cons_succ, List.getElem_cons_zero, List.setIfInBounds_toArray, List.set_cons_zero, List.set_cons_succ]
        refine wpAnyH_take (i := 12) (v := ?_) rfl (by kernel_rfl) (by kernel_rfl) (by kernel_rfl) (fun _ _ _ h => h) (Or.inl ⟨by kernel_rfl, ?_⟩) (by assumption) ?_
        rotate_left
        · intro w hSw; (try dsimp only at hSw); go_simp; try (with_reducible rfl)
        try simp only [Act.put, List.getElem_toArray, List.getElem_cons_succ, List.getElem_cons_zero, List.setIfInBounds_toArray, List.set_cons_zero, List.set_cons_succ]
        refine wpAnyH_take (i := 13) (v := ?_) rfl (by kernel_rfl) (by kernel_rfl) (by kernel_rfl) (fun _ _ _ h => h) (Or.inl ⟨by kernel_rfl, ?_⟩) (by assumption) ?_
        rotate_left
        · intro w hSw; (try dsimp only at hSw); go_simp; try (with_reducible rfl)
        try simp only [Act.put, List.getElem_toArray, List.getElem_cons_succ, List.getElem_cons_zero, List.setIfInBounds_toArray, List.set_cons_zero, List.set_cons_succ]
        refine wpAnyH_take (i := 14) (v := undef) rfl (by kernel_rfl) (by kernel_rfl) (by kernel_rfl) (fun _ _ _ h => h) (Or.inr ⟨by kernel_rfl, rfl⟩) (by assumption) ?_
        try simp only [Act.put, List.getElem_toArray, List.getElem_cons_succ, List.getElem_cons_zero, List.setIfInBounds_toArray, List.set_cons_zero, List.set_cons_succ]
        refine wpAnyH_take (i := 15) (v := undef) rfl (by kernel_rfl) (by kernel_rfl) (by kernel_rfl) (fun _ _ _ h => h) (Or.inr ⟨by kernel_rfl, rfl⟩) (by assumption) ?_
        try simp only [Act.put, List.getElem_toArray, List.getElem_cons_succ, List.getElem_cons_zero, List.setIfInBounds_toArray, List.set_cons_zero, List.set_cons_succ]
        refine wpAnyH_take (i := 16) (v := undef) rfl (by kernel_rfl) (by kernel_rfl) (by kernel_rfl) (fun _ _ _ h => h) (Or.inr ⟨by kernel_rfl, rfl⟩) (by assumption) ?_
        try simp only [Act.put, List.getElem_toArray, List.getElem_cons_succ, List.getElem_cons_zero, List.setIfInBounds_toArray, List.set_cons_zero, List.set_cons_succ]
        refine wpAnyH_take (i := 17) (v := undef) rfl (by kernel_rfl) (by kernel_rfl) (by kernel_rfl) (fun _ _ _ h => h) (Or.inr ⟨by kernel_rfl, rfl⟩) (by assumption) ?_
        try simp only [Act.put, List.getElem_toArray, List.getElem_cons_succ, List.getElem_cons_zero, List.setIfInBounds_toArray, List.set_cons_zero, List.set_cons_succ]
        refine wpAnyH_take (i := 18) (v := undef) rfl (by kernel_rfl) (by kernel_rfl) (by kernel_rfl) (fun _ _ _ h => h) (Or.inr ⟨by kernel_rfl, rfl⟩) (by assumption) ?_
        try simp only [Act.put, List.getElem_toArray, List.getElem_cons_succ, List.getElem_cons_zero, List.setIfInBounds_toArray, List.set_cons_zero, List.set_cons_succ]
        refine wpAnyH_take (i := 19) (v := undef) rfl (by kernel_rfl) (by kernel_rfl) (by kernel_rfl) (fun _ _ _ h => h) (Or.inr ⟨by kernel_rfl, rfl⟩) (by assumption) ?_
        try simp only [Act.put, List.getElem_toArray, List.getElem_cons_succ, List.getElem_cons_zero, List.setIfInBounds_toArray, List.set_cons_zero, List.set_cons_succ]
        refine wpAnyH_take (i := 20) (v := undef) rfl (by kernel_rfl) (by kernel_rfl) (by kernel_rfl) (fun _ _ _ h => h) (Or.inr ⟨by kernel_rfl, rfl⟩) (by assumption) ?_
        try simp only [Act.put, List.getElem_toArray, List.getElem_cons_succ, List.getElem_cons_zero, List.setIfInBounds_toArray, List.set_cons_zero, List.set_cons_succ]
        refine wpAnyH_take (i := 21) (v := undef) rfl (by kernel_rfl) (by kernel_rfl) (by kernel_rfl) (fun _ _ _ h => h) (Or.inr ⟨by kernel_rfl, rfl⟩) (by assumption) ?_
        try simp only [Act.put, List.getElem_toArray, List.getElem_cons_succ, List.getElem_cons_zero, List.setIfInBounds_toArray, List.set_cons_zero, List.set_cons_succ]
        refine wpAnyH_take (i := 22) (v := undef) rfl (by kernel_rfl) (by kernel_rfl) (by kernel_rfl) (fun _ _ _ h => h) (Or.inr ⟨by kernel_rfl, rfl⟩) (by assumption) ?_
        try simp only [Act.put, List.getElem_toArray, List.getElem_cons_succ, List.getElem_cons_zero, List.setIfInBounds_toArray, List.set_cons_zero, List.set_cons_succ]
        refine wpAnyH_take (i := 23) (v := undef) rfl (by kernel_rfl) (by kernel_rfl) (by kernel_rfl) (fun _ _ _ h => h) (Or.inr ⟨by kernel_rfl, rfl⟩) (by assumption) ?_
        try simp only [Act.put, List.getElem_toArray, List.getElem_cons_succ, List.getElem_cons_zero, List.setIfInBounds_toArray, List.set_cons_zero, List.set_cons_succ]
        refine wpAnyH_take (i := 24) (v := undef) rfl (by kernel_rfl) (by kernel_rfl) (by kernel_rfl) (fun _ _ _ h => h) (Or.inr ⟨by kernel_rfl, rfl⟩) (by assumption) ?_
        try simp only [Act.put, List.getElem_toArray, List.getElem_cons_succ, List.getElem_cons_zero, List.setIfInBounds_toArray, List.set_cons_zero, List.set_cons_succ]
        refine wpAnyH_take (i := 25) (v := ?_) rfl (by kernel_rfl) (by kernel_rfl) (by kernel_rfl) (fun _ _ _ h => h) (Or.inl ⟨by kernel_rfl, ?_⟩) (by assumption) ?_
        rotate_left
        · intro w hSw; (try dsimp only at hSw); go_simp; try (with_reducible rfl)
        try simp only [Act.put, List.getElem_toArray, List.getElem_cons_succ, List.getElem_cons_zero, List.setIfInBounds_toArray, List.set_cons_zero, List.set_cons_succ]
        refine wpAnyH_take (i := 26) (v := ?_) rfl (by kernel_rfl) (by kernel_rfl) (by kernel_rfl) (fun _ _ _ h => h) (Or.inl ⟨by kernel_rfl, ?_⟩) (by assumption) ?_
        rotate_left
        · intro w hSw; (try dsimp only at hSw); go_simp; try (with_reducible rfl)
        try simp only [Act.put, List.getElem_toArray, List.getElem_cons_succ, List.getElem_cons_zero, List.setIfInBounds_toArray, List.set_cons_zero, List.set_cons_succ]
        refine wpAnyH_done (by kernel_rfl) ?_ _
        go_wp2_with fail
        go_roundw
        case rel => exact ⟨k + 1, by omega, by go_num, congrArg Value.bool HAN.out, below_call CR.out (by repeat (first | exact C6.out | with_reducible refine Below.drew ?_))⟩
        case measure => simp [intOf]; omega
    · obtain rfl : len = k := by omega
      have hrow2 : len = 0 ∨ ∃ g, al = some ⟨g, 0, none⟩ ∧ ∀ i, i < len → wr.cell? ⟨g, i, none⟩ = some (.string (mk (lineL (f i) (Y i) (E i)))) := by
        rcases HLN.out with h | ⟨g, h1, h2⟩
        · exact .inl h
        · exact .inr ⟨g, h1, fun i hi => by rw [CR.out.cell (p := ⟨g, i, none⟩) (block_lt_of_cell (h2 i hi))]; exact h2 i hi⟩
      have HPR : Hid _ := program_any wr al len cl hlen30 f (fun i => mk (lineL (f i) (Y i) (E i))) (fun i => mk (Lib.trimS (lineL (f i) (Y i) (E i)) [32, 9])) Y (fun i => if E i = 0 then 0 else 40) hrow2
        (fun i hi => (line_facts (f i) (Y i) (E i) (HY.out i)).1)
        (fun i hi V hV => (line_facts (f i) (Y i) (E i) (HY.out i)).2.1 V (HT.out V (below_call BR.out hV)).2)
        (fun i hi he V hV => (line_facts (f i) (Y i) (E i) (HY.out i)).2.2 (by
          by_cases h : E i = 0
          · exact h
          · rw [if_neg h] at he; exact absurd he (by decide)) V (HT.out V (below_call BR.out hV)).1.2) wr (Below.refl _ _)
      have HE0 : Hid (∀ i, (if E i = 0 then (0 : Int) else 40) = 0 → E i = 0) := fun i he => by
        by_cases h : E i = 0
        · exact h
        · rw [if_neg h] at he; exact absurd he (by decide)
      have HE1 : Hid (∀ i, ¬ (if E i = 0 then (0 : Int) else 40) = 0 → ¬ E i = 0) := fun i he h => he (by rw [if_pos h])
      clear hrow2
      generalize hdl : decide (∀ i, i < len → E i = 0) = dl at *
      go_wp2_with fail
      refine Calls.mono HPR.out ?_
      rintro e w7 ⟨hres, hb7⟩
      have B7 : Hid (Below W.heap.size W w7) := below_call BR.out hb7
      clear hb7
      rcases hres with ⟨hall, v7, rfl, hown7⟩ | ⟨j, hj, hEj, rfl⟩
      · have hdt : dl = true := by rw [← hdl]; exact decide_eq_true (fun i hi => HE0.out i (hall i hi))
        subst hdt
        have hr7 := row_at hown7
        have hv7 : ∃ a7 c7, v7 = .slice a7 len c7 ∧ (len = 0 ∨ ∃ g, a7 = some ⟨g, 0, none⟩ ∧ ∀ i, i < len → w7.cell? ⟨g, i, none⟩ = some (.int .u32 (f i : Nat))) := by
          rcases hr7 with ⟨h0, rfl⟩ | ⟨g, c7, rfl, _, hc⟩
          · exact ⟨none, 0, by rw [h0], .inl h0⟩
          · exact ⟨_, c7, rfl, .inr ⟨g, rfl, fun i hi => by rw [hc i hi]; exact wordRow_get _ len i hi⟩⟩
        obtain ⟨a7, c7, rfl, hL7⟩ := hv7
        have HL7 : Hid _ := hL7
        clear hL7 hr7 hown7 hall hdl
        go_wp2_with fail
        go_loopw [11] (fun i wq => ∃ k : Nat, k ≤ len ∧ i = .int .i64 k ∧ Below w7.heap.size w7 wq) (fun i _ => len - (intOf i).toNat)
        case atStart => exact ⟨0, by omega, rfl, Below.refl _ _⟩
        case round =>
          obtain ⟨m, hm, rfl, hbq⟩ := hrel
          have CQ : Hid _ := hbq
          have BQ : Hid _ := below_call B7.out hbq
          by_cases hlt : m < len
          · have hlt1 : (m : Int) < len := by omega
            obtain ⟨b, off, rfl, hcell⟩ : ∃ b off, a = some ⟨b, off, none⟩ ∧ ∀ i, i < len → W.cell? ⟨b, off + i, none⟩ = some (.int .u32 (f i : Nat)) := by
              rcases HR.out with h | h
              · omega
              · exact h
            obtain ⟨g, rfl, hlc⟩ : ∃ g, a7 = some ⟨g, 0, none⟩ ∧ ∀ i, i < len → w7.cell? ⟨g, i, none⟩ = some (.int .u32 (f i : Nat)) := by
              rcases HL7.out with h | h
              · omega
              · exact h
            have hc1 := (BQ.out.cell (p := ⟨b, off + m, none⟩) (block_lt_of_cell (hcell m hlt))).trans (hcell m hlt)
            have hc2 := (CQ.out.cell (p := ⟨g, m, none⟩) (block_lt_of_cell (hlc m hlt))).trans (hlc m hlt)
            clear hcell hlc hbq
            generalize f m = x at *
            go_wp2_with fail
            go_quiet (fail)
            go_wp2_with fail
            go_roundw
            case rel => exact ⟨m + 1, by omega, by go_num, below_drewN CQ.out _⟩
            case measure => simp [intOf]; omega
          · obtain rfl : len = m := by omega
            go_wp2_with fail
            go_ret
            exact ⟨rfl, BQ.out⟩
      · have hdf : dl = false := by rw [← hdl]; exact decide_eq_false (fun h => HE1.out j hEj (h j hj))
        subst hdf
        go_wp2_with fail
        go_ret
        exact ⟨rfl, B7.out⟩
end Go.Proofs.YtooaafbdjnlmfaaGreatDoor
