/- The law CsrBeside. -/
import Derived.Test.YtebdlefdkadhnabDoorLa
import Derived.Test.YtebdlefdkadhnabDoorBp
namespace Go.Proofs.YtebdlefdkadhnabDoor
open Go.RowKit Go.Maps
set_option linter.unusedVariables false
set_option linter.unusedSimpArgs false
set_option maxRecDepth 100000
set_option maxHeartbeats 8000000 in
theorem beside_any (mo : Int) (g : Option Addr) (len cap ln : Nat) (ws : Nat → Int × Nat) (hln : ln < 18446744073709551616) (i j : Int) (x : Nat) (hx : x < 18446744073709551616) (w : World) (hws : WritesIn w (.slice g len cap) len ws) : Calls Tryd.prog 6 #[.agg #[.int .i64 mo, .slice g len cap, .int .u64 (ln : Nat)], .int .i64 i, .int .i64 j, .int .u64 (x : Int)] w fun e w' => e = .returned (.bool true) ∧ Below w.heap.size w w' := by
  have HX : Hid (x < 18446744073709551616) := hx
  have HWS : Hid (WritesIn w (.slice g len cap) len ws) := hws
  have HLN : Hid (ln < 18446744073709551616) := hln
  clear hx hws hln
  have A0 : Hid (Box 25 ((w.alloc (.cells #[.int .i64 mo, .slice g len cap, .int .u64 (ln : Nat)] 25)).alloc (.cells #[.int .i64 773, .int .i64 261, .int .i64 774, .int .i64 262, .int .i64 832, .int .i64 320, .int .i64 834, .int .i64 322, .int .i64 835, .int .i64 323, .int .i64 833, .int .i64 321, .int .i64 384, .int .i64 770] 3)) w.heap.size #[.int .i64 mo, .slice g len cap, .int .u64 (ln : Nat)] ∧ Below w.heap.size w ((w.alloc (.cells #[.int .i64 mo, .slice g len cap, .int .u64 (ln : Nat)] 25)).alloc (.cells #[.int .i64 773, .int .i64 261, .int .i64 774, .int .i64 262, .int .i64 832, .int .i64 320, .int .i64 834, .int .i64 322, .int .i64 835, .int .i64 323, .int .i64 833, .int .i64 321, .int .i64 384, .int .i64 770] 3)) ∧ Box 3 ((w.alloc (.cells #[.int .i64 mo, .slice g len cap, .int .u64 (ln : Nat)] 25)).alloc (.cells #[.int .i64 773, .int .i64 261, .int .i64 774, .int .i64 262, .int .i64 832, .int .i64 320, .int .i64 834, .int .i64 322, .int .i64 835, .int .i64 323, .int .i64 833, .int .i64 321, .int .i64 384, .int .i64 770] 3)) (w.heap.size + 1) aloneC ∧ ((w.alloc (.cells #[.int .i64 mo, .slice g len cap, .int .u64 (ln : Nat)] 25)).alloc (.cells #[.int .i64 773, .int .i64 261, .int .i64 774, .int .i64 262, .int .i64 832, .int .i64 320, .int .i64 834, .int .i64 322, .int .i64 835, .int .i64 323, .int .i64 833, .int .i64 321, .int .i64 384, .int .i64 770] 3)).heap.size = w.heap.size + 2) := by
    refine ⟨(Box.new 25 w _).alloc _, ((Below.refl _ _).alloc (Nat.le_refl _) _).alloc (by simp) _, ?_, by simp⟩
    have h := Box.new 3 (w.alloc (.cells #[.int .i64 mo, .slice g len cap, .int .u64 (ln : Nat)] 25)) aloneC
    simp only [World.size_alloc] at h
    exact h
  go_enter Tryd.func6, Tryd.ntmps6
  go_upto_region 2 with fail
  generalize ((w.alloc (.cells #[.int .i64 mo, .slice g len cap, .int .u64 (ln : Nat)] 25)).alloc (.cells #[.int .i64 773, .int .i64 261, .int .i64 774, .int .i64 262, .int .i64 832, .int .i64 320, .int .i64 834, .int .i64 322, .int .i64 835, .int .i64 323, .int .i64 833, .int .i64 321, .int .i64 384, .int .i64 770] 3)) = W at *
  go_wp2_with fail
  refine (rows_at _).mono ?_
  rintro e w1 ⟨rfl, hb1, hr1⟩
  have A1 : Hid (Box 25 w1 w.heap.size #[.int .i64 mo, .slice g len cap, .int .u64 (ln : Nat)] ∧ Below w.heap.size w w1) := ⟨A0.out.1.step hb1, A0.out.2.1.trans (hb1.mono A0.out.2.1.size)⟩
  have AR : Hid (RowsAt w1 W.heap.size ∧ Box 3 w1 (w.heap.size + 1) aloneC) := ⟨hr1, A0.out.2.2.1.step hb1⟩
  clear hb1 hr1 A0
  generalize W.heap.size = rb at *
  go_upto_region 3 with fail
  refine wp_region_list ?_
  have a0 : w1.cell? ⟨w.heap.size, 0, none⟩ = some (.int .i64 mo) := A1.out.1.cell 0 _ rfl
  have a1 : w1.cell? ⟨w.heap.size, 1, none⟩ = some (.slice g len cap) := A1.out.1.cell 1 _ rfl
  have a2 : w1.cell? ⟨w.heap.size, 2, none⟩ = some (.int .u64 (ln : Nat)) := A1.out.1.cell 2 _ rfl
  (refine wpList_step (fun KK hKK => ?_); go_simp; refine hKK _ _ ?_; clear hKK KK)
  clear a0 a1 a2
  refine wpList_step (fun KK hKK => ?_)
  go_simp
  by_cases h : mo < 0 ∨ 3 < mo ∨ mo = 2 ∨ 40 < (len : Int)
  · refine (begun_no mo g len cap ln h _).mono ?_
    rintro e w2 ⟨rfl, hb2⟩
    have A2 : Hid (Below w.heap.size w w2) := A1.out.2.trans (hb2.mono A1.out.2.size)
    clear hb2
    refine hKK _ _ ?_
    clear hKK KK
    (refine wpList_step (fun KK hKK => ?_); go_simp; refine hKK _ _ ?_; clear hKK KK)
    refine wpList_extract_at rfl _ _ _ _ rfl rfl rfl ?_
    refine wpList_extract_at rfl _ _ _ _ rfl rfl rfl ?_
    refine wpList_extract_at rfl _ _ _ _ rfl rfl rfl ?_
    refine wpList_alloc_file rfl rfl ?_
    intro W0 hW0
    have B0 : Box 32 W0 w2.heap.size zeroC := by rw [hW0]; exact Box.new _ _ _
    have L0 : Below w2.heap.size w2 W0 := by rw [hW0]; exact (Below.refl _ _).alloc (Nat.le_refl _) _
    have Z0 : W0.heap.size = w2.heap.size + 1 := by rw [hW0]; simp
    clear hW0
    refine wpList_alloc_doc rfl rfl ?_
    intro W3 hW3
    have B3 : Box 35 W3 W0.heap.size zeroD := by rw [hW3]; exact Box.new _ _ _
    have L3 : Below W0.heap.size W0 W3 := by rw [hW3]; exact (Below.refl _ _).alloc (Nat.le_refl _) _
    clear hW3
    refine wpList_store_file rfl _ _ rfl w2.heap.size 3 (fun _ => 0) zeroC rfl rfl (B0.step L3) zeroC_size ?_
    intro W4 B4 U4
    refine wpList_store_doc rfl _ _ rfl W0.heap.size 3 (fun _ => 0) zeroD rfl rfl (U4.box B3 (by omega)) zeroD_size ?_
    intro W5 B5 U5
    have X5 : Hid (Tw w W5 w2.heap.size W0.heap.size 3 3 (fun _ => 0) (fun _ => 0)) := by
      have l2 : Below w2.heap.size w2 W4 := (L0.trans (L3.mono L0.size)).trans (U4.below (Nat.le_refl _) (Nat.le_trans L0.size L3.size))
      have l5 : Below w2.heap.size w2 W5 := l2.trans (U5.below (by omega) l2.size)
      exact ⟨U5.box B4 (by omega), B5, A2.out.size, by omega, A2.out.trans (l5.mono A2.out.size)⟩
    clear B0 L0 B3 L3 B4 U4 B5 U5 Z0
    generalize w2.heap.size = fb at *
    generalize W0.heap.size = db at *
    go_upto_region 4 with fail
    (try simp only [Act.put, List.getElem_toArray, List.getElem_cons_succ, List.getElem_cons_zero, List.setIfInBounds_toArray, List.set_cons_zero, List.set_cons_succ])
    go_quiet (fail)
    go_wp2_with fail
    go_ret
    exact ⟨rfl, below_drewN X5.out.2.2.2.2 nq⟩
  · refine (begun_yes mo g len cap ln ws (by omega) (by omega) (by omega) (by omega) HLN.out _ (HWS.out.below A1.out.2)).mono ?_
    rintro e w2 ⟨K, hK, rfl, hb2⟩
    have A2 : Hid (Below w.heap.size w w2) := A1.out.2.trans (hb2.mono A1.out.2.size)
    have HRB0 : Hid (rb < w2.heap.size) := Nat.lt_of_lt_of_le (block_lt_of_cell (AR.out.1 0 (by decide)).1) hb2.size
    have AR2 : Hid (RowsAt w2 rb ∧ Box 3 w2 (w.heap.size + 1) aloneC) := ⟨AR.out.1.below hb2, AR.out.2.step hb2⟩
    clear hb2 AR h
    refine hKK _ _ ?_
    clear hKK KK
    (refine wpList_step (fun KK hKK => ?_); go_simp; refine hKK _ _ ?_; clear hKK KK)
    refine wpList_extract_at rfl _ _ _ _ rfl rfl rfl ?_
    refine wpList_extract_at rfl _ _ _ _ rfl rfl rfl ?_
    refine wpList_extract_at rfl _ _ _ _ rfl rfl rfl ?_
    refine wpList_alloc_file rfl rfl ?_
    intro W0 hW0
    have B0 : Box 32 W0 w2.heap.size zeroC := by rw [hW0]; exact Box.new _ _ _
    have L0 : Below w2.heap.size w2 W0 := by rw [hW0]; exact (Below.refl _ _).alloc (Nat.le_refl _) _
    have Z0 : W0.heap.size = w2.heap.size + 1 := by rw [hW0]; simp
    clear hW0
    refine wpList_alloc_doc rfl rfl ?_
    intro W3 hW3
    have B3 : Box 35 W3 W0.heap.size zeroD := by rw [hW3]; exact Box.new _ _ _
    have L3 : Below W0.heap.size W0 W3 := by rw [hW3]; exact (Below.refl _ _).alloc (Nat.le_refl _) _
    clear hW3
    refine wpList_store_file rfl _ _ rfl w2.heap.size mo K zeroC rfl rfl (B0.step L3) zeroC_size ?_
    intro W4 B4 U4
    refine wpList_store_doc rfl _ _ rfl W0.heap.size mo K zeroD rfl rfl (U4.box B3 (by omega)) zeroD_size ?_
    intro W5 B5 U5
    have X5 : Hid (Tw w W5 w2.heap.size W0.heap.size mo mo K K) := by
      have l2 : Below w2.heap.size w2 W4 := (L0.trans (L3.mono L0.size)).trans (U4.below (Nat.le_refl _) (Nat.le_trans L0.size L3.size))
      have l5 : Below w2.heap.size w2 W5 := l2.trans (U5.below (by omega) l2.size)
      exact ⟨U5.box B4 (by omega), B5, A2.out.size, by omega, A2.out.trans (l5.mono A2.out.size)⟩
    have AR5 : Hid (RowsAt W5 rb ∧ Box 3 W5 (w.heap.size + 1) aloneC) := by
      have l2 : Below w2.heap.size w2 W4 := (L0.trans (L3.mono L0.size)).trans (U4.below (Nat.le_refl _) (Nat.le_trans L0.size L3.size))
      have l5 : Below w2.heap.size w2 W5 := l2.trans (U5.below (by omega) l2.size)
      exact ⟨AR2.out.1.below l5, AR2.out.2.step l5⟩
    clear B0 L0 B3 L3 B4 U4 B5 U5 Z0
    generalize w2.heap.size = fb at *
    generalize W0.heap.size = db at *
    clear AR2
    have HRB : Hid (rb ≠ fb) := Nat.ne_of_lt HRB0.out
    by_cases h1 : i < 0
    · skip
      go_upto_region 4 with fail
      (try simp only [Act.put, List.getElem_toArray, List.getElem_cons_succ, List.getElem_cons_zero, List.setIfInBounds_toArray, List.set_cons_zero, List.set_cons_succ])
      go_quiet (fail)
      go_wp2_with fail
      go_ret
      exact ⟨rfl, below_drewN X5.out.2.2.2.2 nq⟩
    by_cases h2 : 14 ≤ i
    · skip
      go_upto_region 4 with fail
      (try simp only [Act.put, List.getElem_toArray, List.getElem_cons_succ, List.getElem_cons_zero, List.setIfInBounds_toArray, List.set_cons_zero, List.set_cons_succ])
      go_quiet (fail)
      go_wp2_with fail
      go_ret
      exact ⟨rfl, below_drewN X5.out.2.2.2.2 nq⟩
    by_cases h3 : j < 0
    · skip
      go_upto_region 4 with fail
      (try simp only [Act.put, List.getElem_toArray, List.getElem_cons_succ, List.getElem_cons_zero, List.setIfInBounds_toArray, List.set_cons_zero, List.set_cons_succ])
      go_quiet (fail)
      go_wp2_with fail
      go_ret
      exact ⟨rfl, below_drewN X5.out.2.2.2.2 nq⟩
    by_cases h4 : 31 ≤ j
    · skip
      go_upto_region 4 with fail
      (try simp only [Act.put, List.getElem_toArray, List.getElem_cons_succ, List.getElem_cons_zero, List.setIfInBounds_toArray, List.set_cons_zero, List.set_cons_succ])
      go_quiet (fail)
      go_wp2_with fail
      go_ret
      exact ⟨rfl, below_drewN X5.out.2.2.2.2 nq⟩
    obtain ⟨p, rfl⟩ : ∃ p : Nat, i = p := ⟨i.toNat, by omega⟩
    obtain ⟨q, rfl⟩ : ∃ q : Nat, j = q := ⟨j.toNat, by omega⟩
    have hp : p < 14 := by omega
    have hq : q < 31 := by omega
    have hp1 : (p : Int) < 14 := by omega
    have hq1 : (q : Int) < 31 := by omega
    have e1 : W5.cell? ⟨w.heap.size + 1, p, none⟩ = some (.int .i64 (aN p)) := AR5.out.2.cell p _ (aloneC_get p hp)
    have e2 := (AR5.out.1 q hq).1
    have HNE : Hid (dN q ≠ aN p → readN (writeK K (aN p) x) (dN q) = readN K (dN q)) := fun h => beside_num K p hp x (dN q) h
    generalize aN p = ap at *
    generalize dN q = dq at *
    by_cases h5 : dq = ap
    · subst h5
      go_upto_region 4 with fail
      (try simp only [Act.put, List.getElem_toArray, List.getElem_cons_succ, List.getElem_cons_zero, List.setIfInBounds_toArray, List.set_cons_zero, List.set_cons_succ])
      go_quiet (fail)
      go_wp2_with fail
      go_ret
      exact ⟨rfl, below_drewN X5.out.2.2.2.2 nq⟩
    · have h6 : (dq == ap) = false := by simp [h5]
      have EQ := HNE.out h5
      have HEQ : Hid _ := EQ
      have HR1 : Hid (∀ V, Box 32 V fb (fileC mo K) → Calls Tryd.prog 15 #[.pointer (some ⟨fb, 0, none⟩), .int .i64 dq] V fun e w' => e = .returned (.int .u64 (readN K dq : Nat)) ∧ Below V.heap.size V w') := fun V hV => read_any mo K dq fb hK V hV
      have HW1 : Hid (∀ V, Box 32 V fb (fileC mo K) → Calls Tryd.prog 14 #[.pointer (some ⟨fb, 0, none⟩), .int .i64 ap, .int .u64 (x : Int)] V fun e w' => e = .returned (.tuple #[]) ∧ Box 32 w' fb (fileC mo (writeK K ap x)) ∧ Upon fb V w') := fun V hV => write_any mo K ap x fb hK HX.out V hV
      have HR2 : Hid (∀ V, Box 32 V fb (fileC mo (writeK K ap x)) → Calls Tryd.prog 15 #[.pointer (some ⟨fb, 0, none⟩), .int .i64 dq] V fun e w' => e = .returned (.int .u64 (readN K dq : Nat)) ∧ Below V.heap.size V w') := fun V hV => by
        have h := read_any mo (writeK K ap x) dq fb (writeK_ok K ap x hK HX.out) V hV
        rw [HEQ.out] at h
        exact h
      generalize readN K dq = rd at *
      generalize writeK K ap x = M at *
      clear hK EQ HEQ HNE
      have AC : Hid (W5.cell? ⟨w.heap.size + 1, p, none⟩ = some (.int .i64 ap) ∧ W5.cell? ⟨rb, q * 4, none⟩ = some (.int .i64 dq)) := ⟨e1, e2⟩
      have HNB : Hid (True ∧ rb ≠ fb) := ⟨trivial, HRB.out⟩
      go_upto_region 4 with fail
      (try simp only [Act.put, List.getElem_toArray, List.getElem_cons_succ, List.getElem_cons_zero, List.setIfInBounds_toArray, List.set_cons_zero, List.set_cons_succ])
      go_quiet (fail)
      have X6 : Hid (Tw w (W5.drewN nq) fb db mo mo K K) := X5.out.step (below_drewN (Below.refl _ _) nq)
      have A6 : Hid ((W5.drewN nq).cell? ⟨w.heap.size + 1, p, none⟩ = some (.int .i64 ap) ∧ (W5.drewN nq).cell? ⟨rb, q * 4, none⟩ = some (.int .i64 dq)) := AC.out
      clear e1 e2
      generalize W5.drewN nq = W6 at *
      have e1 : W6.cell? ⟨w.heap.size + 1, p, none⟩ = some (.int .i64 ap) := A6.out.1
      have e2 : W6.cell? ⟨rb, q * 4, none⟩ = some (.int .i64 dq) := A6.out.2
      go_wp2_with fail
      refine (HR1.out _ X6.out.1).mono ?_
      rintro e w7 ⟨rfl, hb7⟩
      have X7 : Hid (Tw w w7 fb db mo mo K K) := X6.out.step hb7
      have A7 : Hid (w7.cell? ⟨w.heap.size + 1, p, none⟩ = some (.int .i64 ap) ∧ w7.cell? ⟨rb, q * 4, none⟩ = some (.int .i64 dq)) := ⟨(hb7.cell (block_lt_of_cell e1)).trans e1, (hb7.cell (block_lt_of_cell e2)).trans e2⟩
      clear hb7 e1 e2
      have e1 : w7.cell? ⟨w.heap.size + 1, p, none⟩ = some (.int .i64 ap) := A7.out.1
      go_wp2_with fail
      refine (HW1.out _ X7.out.1).mono ?_
      rintro e w8 ⟨rfl, hB8, hU8⟩
      have X8 : Hid (Tw w w8 fb db mo mo M K) := X7.out.file hB8 hU8
      have e2 : w8.cell? ⟨rb, q * 4, none⟩ = some (.int .i64 dq) := hU8.cell A7.out.2 HNB.out.2
      clear hB8 hU8 e1
      go_wp2_with fail
      refine (HR2.out _ X8.out.1).mono ?_
      rintro e w9 ⟨rfl, hb9⟩
      go_wp2_with fail
      go_ret
      exact ⟨ret_bool (by first | rfl | simp), (X8.out.step hb9).2.2.2.2⟩
set_option maxHeartbeats 4000000 in
theorem beside_core (mo : Int) (g : Option Addr) (len cap ln : Nat) (ws : Nat → Int × Nat) (hln : ln < 18446744073709551616) (i j : Int) (hi : (Lit.int .i64 i).wf = true) (hj : (Lit.int .i64 j).wf = true) (x : Nat) (hx : x < 18446744073709551616) (w : World) (hR : Regs w) (hws : WritesIn w (.slice g len cap) len ws) : Calls Tryd.prog 3 #[.agg #[.int .i64 mo, .slice g len cap, .int .u64 (ln : Nat)], .agg #[.int .i64 i, .int .i64 j], .int .u64 (x : Int)] w fun e w' => e = .returned (.bool true) ∧ Below w.heap.size w w' := by
  have HR : Hid (Regs w) := hR
  have HB : Hid (∀ V, WritesIn V (.slice g len cap) len ws → Calls Tryd.prog 6 #[.agg #[.int .i64 mo, .slice g len cap, .int .u64 (ln : Nat)], .int .i64 i, .int .i64 j, .int .u64 (x : Int)] V fun e w' => e = .returned (.bool true) ∧ Below V.heap.size V w') := fun V hV => beside_any mo g len cap ln ws hln i j x hx V hV
  have HWS : Hid (WritesIn w (.slice g len cap) len ws) := hws
  clear hR hws hi hj hx hln
  have A0 : Hid (Box 25 ((w.alloc (.cells #[.int .i64 mo, .slice g len cap, .int .u64 (ln : Nat)] 25)).alloc (.cells #[.int .i64 i, .int .i64 j] 26)) w.heap.size #[.int .i64 mo, .slice g len cap, .int .u64 (ln : Nat)] ∧ Below w.heap.size w ((w.alloc (.cells #[.int .i64 mo, .slice g len cap, .int .u64 (ln : Nat)] 25)).alloc (.cells #[.int .i64 i, .int .i64 j] 26)) ∧ Box 26 ((w.alloc (.cells #[.int .i64 mo, .slice g len cap, .int .u64 (ln : Nat)] 25)).alloc (.cells #[.int .i64 i, .int .i64 j] 26)) (w.heap.size + 1) #[.int .i64 i, .int .i64 j]) := by
    refine ⟨(Box.new 25 w _).alloc _, ((Below.refl _ _).alloc (Nat.le_refl _) _).alloc (by simp) _, ?_⟩
    have h := Box.new 26 (w.alloc (.cells #[.int .i64 mo, .slice g len cap, .int .u64 (ln : Nat)] 25)) #[.int .i64 i, .int .i64 j]
    simp only [World.size_alloc] at h
    exact h
  go_enter Tryd.func3, Tryd.ntmps3
  go_upto_region 1 with fail
  generalize ((w.alloc (.cells #[.int .i64 mo, .slice g len cap, .int .u64 (ln : Nat)] 25)).alloc (.cells #[.int .i64 i, .int .i64 j] 26)) = W at *
  go_wp2_with fail
  refine (awake_any _ (HR.out.below A0.out.2.1)).mono ?_
  rintro e w1 ⟨rfl, hb1⟩
  have A1 : Hid (Box 25 w1 w.heap.size #[.int .i64 mo, .slice g len cap, .int .u64 (ln : Nat)] ∧ Below w.heap.size w w1 ∧ Box 26 w1 (w.heap.size + 1) #[.int .i64 i, .int .i64 j]) := ⟨A0.out.1.step hb1, A0.out.2.1.trans (hb1.mono A0.out.2.1.size), A0.out.2.2.step hb1⟩
  clear hb1 A0
  have a0 : w1.cell? ⟨w.heap.size, 0, none⟩ = some (.int .i64 mo) := A1.out.1.cell 0 _ rfl
  have a1 : w1.cell? ⟨w.heap.size, 1, none⟩ = some (.slice g len cap) := A1.out.1.cell 1 _ rfl
  have a2 : w1.cell? ⟨w.heap.size, 2, none⟩ = some (.int .u64 (ln : Nat)) := A1.out.1.cell 2 _ rfl
  have b0 : w1.cell? ⟨w.heap.size + 1, 0, none⟩ = some (.int .i64 i) := A1.out.2.2.cell 0 _ rfl
  have b1 : w1.cell? ⟨w.heap.size + 1, 1, none⟩ = some (.int .i64 j) := A1.out.2.2.cell 1 _ rfl
  go_wp2_with fail
  refine (HB.out _ (HWS.out.below A1.out.2.1)).mono ?_
  rintro e w2 ⟨rfl, hb2⟩
  go_wp2_with fail
  go_ret
  exact ⟨rfl, A1.out.2.1.trans (hb2.mono A1.out.2.1.size)⟩
end Go.Proofs.YtebdlefdkadhnabDoor
