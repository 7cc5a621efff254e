/- What is read of a text is among what the document looks through. -/
import Derived.Test.YtooaafbdjnlmfaaGreatDoorQDParse
import Derived.Laws.StructEq
namespace Go.Proofs.YtooaafbdjnlmfaaGreatDoor
open Go.RowKit
set_option linter.unusedVariables false
set_option linter.unusedSimpArgs false
theorem flags_all : ∀ g, g ≤ 16 → 1 ≤ g → (hasD (g : Nat) = (shapeF g).contains 100 ∧ hasA (g : Nat) = (shapeF g).contains 97 ∧ hasB (g : Nat) = (shapeF g).contains 98 ∧ (docSpan g).2 = ((shapeF g).contains 110 || (shapeF g).contains 117) ∧ decide (g = 1) = (shapeF g).contains 117 ∧ decide (g = 12 ∨ g = 13) = (shapeF g).contains 99) := by decide +kernel
theorem subs_of : ∀ g, g ≤ 16 → ([100, 97, 98, 110, 117, 99].all fun c => !(shapeF g).contains c || (subsF g).any fun s => s.contains c) = true := by decide +kernel
theorem up_excl : ∀ g, g ≤ 16 → (!(shapeF g).contains 117 || !(shapeF g).contains 110) = true := by decide +kernel
theorem sub_with (g : Nat) (h : g ≤ 16) (c : UInt8) (hc : c ∈ ([100, 97, 98, 110, 117, 99] : List UInt8)) (hm : (shapeF g).contains c = true) : ∃ s ∈ subsF g, c ∈ s := by
  have h1 := List.all_eq_true.1 (subs_of g h) c hc
  rw [hm] at h1
  simp only [Bool.not_true, Bool.false_or] at h1
  obtain ⟨s, hs, h2⟩ := List.any_eq_true.1 h1
  exact ⟨s, hs, by simpa using h2⟩
theorem at_of_mem {L : List Int} {v : Int} (h : v ∈ L) : ∃ a, a < L.length ∧ L.getD a 0 = v := by
  obtain ⟨a, ha, e⟩ := List.getElem_of_mem h
  exact ⟨a, ha, by rw [← e]; simp [List.getD_eq_getElem?_getD, ha]⟩
theorem reg_mem {PL : List (List UInt8)} {p : List UInt8} {n : Int} (hp : p ∈ PL) (h : bracketL p = regL n) (h0 : 0 ≤ n ∧ n ≤ 31) : n ∈ RofL PL := by
  unfold RofL
  rw [List.mem_append]
  left
  rw [List.mem_map]
  refine ⟨n.toNat, ?_, by omega⟩
  unfold regsL
  rw [List.mem_flatMap]
  refine ⟨p, hp, ?_⟩
  unfold regsUp
  rw [List.mem_filter, List.mem_range]
  refine ⟨by omega, decide_eq_true ?_⟩
  rw [h, show ((n.toNat : Nat) : Int) = n from by omega]
theorem num_mem {PL : List (List UInt8)} {p : List UInt8} {n : Int} (hp : p ∈ PL) (h : numberL p = (n, true)) : n ∈ NofL PL := by
  unfold NofL
  refine List.mem_cons_of_mem _ ?_
  unfold numsL
  rw [List.mem_filterMap]
  exact ⟨p, hp, by rw [h]; rfl⟩
theorem zero_R (PL : List (List UInt8)) : 0 < (RofL PL).length := by unfold RofL; simp
theorem zero_N (PL : List (List UInt8)) : 0 < (NofL PL).length := by unfold NofL; simp
theorem reg_place {l : List UInt8} {z : Ins} {k : Nat} (F : Found l z k) (f : Bool) (c : UInt8) (hc : c ∈ ([100, 97, 98, 110, 117, 99] : List UInt8)) (sf : dForm k ≤ 16) (hf : f = (shapeF (dForm k)).contains c) (v : Int) (hv : 0 ≤ v ∧ v ≤ 31) (hn : c ∉ shapeF (dForm k) → v = 0) (ht : ∀ s p, c ∈ s → Told z s p → bracketL p = regL v) : ∃ a, inR f (RofL (PLof l)).length a ∧ (if f then (RofL (PLof l)).getD a 0 else 0) = v := by
  cases f
  · refine ⟨0, ⟨zero_R _, .inl rfl⟩, ?_⟩
    have : c ∉ shapeF (dForm k) := by intro hm; rw [List.contains_iff_mem.2 hm] at hf; cases hf
    simp [hn this]
  · obtain ⟨s, hs, hcs⟩ := sub_with _ sf c hc hf.symm
    obtain ⟨p, hp, hT⟩ := F.told s hs
    obtain ⟨a, ha, e⟩ := at_of_mem (reg_mem hp (ht s p hcs hT) hv)
    exact ⟨a, ⟨ha, .inr rfl⟩, by rw [if_pos rfl]; exact e⟩
theorem split_idx (n j1 j2 : Nat) (h1 : j1 < n) (h2 : j2 < n) : (j1 + j2 * n) % n = j1 ∧ (j1 + j2 * n) / n = j2 ∧ j1 + j2 * n < n * n := by
  refine ⟨?_, ?_, ?_⟩
  · rw [Nat.add_mul_mod_self_right, Nat.mod_eq_of_lt h1]
  · rw [Nat.add_mul_div_right _ _ (by omega), Nat.div_eq_of_lt h1, Nat.zero_add]
  · have : (j2 + 1) * n ≤ n * n := Nat.mul_le_mul_right n h2
    rw [Nat.add_mul] at this
    omega
def ordN (aq rl : Bool) : Nat := (if aq then 1 else 0) + 2 * (if rl then 1 else 0)
theorem ord_ok (aq rl : Bool) : ordN aq rl < 4 ∧ decide (ordN aq rl % 2 = 1) = aq ∧ decide (ordN aq rl / 2 = 1) = rl := by
  cases aq <;> cases rl <;> decide
theorem looked (l : List UInt8) (z : Ins) (k : Nat) (F : Found l z k) : ∃ o, o < 4 ∧ PO (headW [32, 9] (Lib.trimS l [32, 9])) (PLof l) (RofL (PLof l)) (NofL (PLof l)) k o := by
  obtain ⟨sf1, sf2, sf3⟩ := shape_form k (by have := F.k2; omega) F.k1
  obtain ⟨hf, _, _⟩ := fits_of _ _ _ _ _ _ _ _ F.right
  obtain ⟨o1, o2, o3⟩ := ord_ok z.aq z.rl
  obtain ⟨fd, fa, fb, fi, f1, f12⟩ := flags_all _ sf3 sf2
  obtain ⟨kp1, kp2, kp3, kp4, kp5, _, _, _⟩ := F.keep
  have hset := set_all z F.right
  rw [show z.op.toNat = k from by have := F.op; omega, sf1] at hset
  refine ⟨ordN z.aq z.rl, o1, ?_⟩
  unfold PO
  rw [o2, o3]
  refine ⟨F.name, ?_⟩
  obtain ⟨a, ia, ea⟩ := reg_place F (hasD (dForm k : Nat)) 100 (by decide) sf3 fd z.rd hf.d kp1 (fun s p hs T => T.2.1 hs)
  obtain ⟨b, ib, eb⟩ := reg_place F (hasA (dForm k : Nat)) 97 (by decide) sf3 fa z.rs1 hf.a kp2 (fun s p hs T => T.2.2.1 hs)
  obtain ⟨c, ic, ec⟩ := reg_place F (hasB (dForm k : Nat)) 98 (by decide) sf3 fb z.rs2 hf.b kp3 (fun s p hs T => T.2.2.2.1 hs)
  have hn := hf.n
  have hcs := hf.c
  obtain ⟨j1, hj1, ej1⟩ : ∃ j1, j1 < (NofL (PLof l)).length ∧ ((docSpan (dForm k)).2 = true → dForm k = 1 → -524288 ≤ (NofL (PLof l)).getD j1 0 ∧ (NofL (PLof l)).getD j1 0 ≤ 524287) ∧ (if (docSpan (dForm k)).2 then (if dForm k = 1 then (NofL (PLof l)).getD j1 0 * 4096 else (NofL (PLof l)).getD j1 0) else 0) = z.imm := by
    by_cases h117 : (shapeF (dForm k)).contains 117 = true
    · obtain ⟨s, hs, hcs⟩ := sub_with _ sf3 117 (by decide) h117
      obtain ⟨p, hp, hT⟩ := F.told s hs
      obtain ⟨j, hj, e⟩ := at_of_mem (num_mem hp (hT.2.2.2.2.2.1 hcs))
      have hg1 : dForm k = 1 := by rw [h117] at f1; exact of_decide_eq_true f1
      have hm := hset.2 (by simpa using h117)
      have hdv : z.imm.tdiv 4096 * 4096 = z.imm := Int.tdiv_mul_cancel (Int.dvd_of_emod_eq_zero hm)
      refine ⟨j, hj, fun _ _ => by rw [e]; omega, ?_⟩
      rw [fi, h117, Bool.or_true, if_pos rfl, if_pos hg1, e]
      exact hdv
    · have hg1 : ¬ dForm k = 1 := by
        have h9 : (shapeF (dForm k)).contains 117 = false := by simpa using h117
        rw [h9] at f1; exact of_decide_eq_false f1
      by_cases h110 : (shapeF (dForm k)).contains 110 = true
      · obtain ⟨s, hs, hcs⟩ := sub_with _ sf3 110 (by decide) h110
        obtain ⟨p, hp, hT⟩ := F.told s hs
        obtain ⟨j, hj, e⟩ := at_of_mem (num_mem hp (hT.2.2.2.2.1 hcs))
        refine ⟨j, hj, fun _ h => absurd h hg1, ?_⟩
        rw [fi, h110, Bool.true_or, if_pos rfl, if_neg hg1, e]
      · refine ⟨0, zero_N _, fun _ h => absurd h hg1, ?_⟩
        have h8 : (shapeF (dForm k)).contains 110 = false := by simpa using h110
        have h9 : (shapeF (dForm k)).contains 117 = false := by simpa using h117
        rw [fi, h8, h9]
        have := kp4 (by simpa using h110) (by simpa using h117)
        simp [this]
  obtain ⟨j2, hj2, ej2⟩ : ∃ j2, j2 < (NofL (PLof l)).length ∧ (if (dForm k = 12 ∨ dForm k = 13) ∧ 0 ≤ (NofL (PLof l)).getD j2 0 ∧ (NofL (PLof l)).getD j2 0 < 4096 then (NofL (PLof l)).getD j2 0 else 0) = z.csr := by
    by_cases h99 : (shapeF (dForm k)).contains 99 = true
    · obtain ⟨s, hs, hcs2⟩ := sub_with _ sf3 99 (by decide) h99
      obtain ⟨p, hp, hT⟩ := F.told s hs
      obtain ⟨j, hj, e⟩ := at_of_mem (num_mem hp (hT.2.2.2.2.2.2 hcs2))
      rw [h99] at f12
      refine ⟨j, hj, ?_⟩
      rw [e, if_pos ⟨of_decide_eq_true f12, by omega, by omega⟩]
    · have h9 : (shapeF (dForm k)).contains 99 = false := by simpa using h99
      rw [h9] at f12
      refine ⟨0, zero_N _, ?_⟩
      rw [if_neg (fun h => of_decide_eq_false f12 h.1)]
      exact (kp5 (by simpa using h99)).symm
  obtain ⟨s1, s2, s3⟩ := split_idx _ j1 j2 hj1 hj2
  refine ⟨a, ia, b, ib, c, ic, j1 + j2 * (NofL (PLof l)).length, s3, z, ?_, F.right, F.takes⟩
  unfold candY
  rw [s1, s2, ea, eb, ec, ej1.2, ej2, if_neg]
  · have h6 := F.op
    cases z
    simp only at h6
    rw [h6]
  · rintro ⟨h1, h2, h3⟩
    exact h3 (ej1.1 h1 h2)
/-- what both Parses tell -/
theorem both_parse (l : List UInt8) (y : Ins) (k : Nat) (h1 : 1 ≤ k) (h2 : k ≤ 98) (hop : y.op = k) (hn : headW [32, 9] (Lib.trimS l [32, 9]) = nameL k y.aq y.rl) (hg : goodY y (dForm k) (PLof l)) : parseR l = (y, true) :=
  sound l y k h1 h2 hop hg.1 hn hg.2
theorem both_none (l : List UInt8) (h : 3 < (PLof l).length ∨ ∀ k, 1 ≤ k → k ≤ 98 → ∀ o, o < 4 → ¬ PO (headW [32, 9] (Lib.trimS l [32, 9])) (PLof l) (RofL (PLof l)) (NofL (PLof l)) k o) : parseR l = (Ins.zero, false) := by
  cases hp : (parseR l).2
  · unfold parseR at hp ⊢
    split at hp
    · cases hp
    · rename_i hc; rw [if_neg hc]
  · exfalso
    obtain ⟨k, F⟩ := found l (parseR l).1 (by rw [← hp])
    rcases h with h | h
    · have := F.len; omega
    · obtain ⟨o, ho, hP⟩ := looked l _ k F
      exact h k F.k1 F.k2 o ho hP
end Go.Proofs.YtooaafbdjnlmfaaGreatDoor

namespace Go.Proofs.YtooaafbdjnlmfaaGreatDoor
open Go.RowKit
set_option linter.unusedVariables false
set_option linter.unusedSimpArgs false
/-- the document's Parse tells what the program's tells -/
theorem dparse_same (l : List UInt8) (hl : l.length ≤ 1000) (hW : ∀ k aq rl, 1 ≤ k → k ≤ 98 → (PLof l).length ≤ 3 → WithTells k aq rl (RofL (PLof l)) (NofL (PLof l)) (PLof l)) (w : World) : Calls Tryz.prog 14 #[.string (mk l)] w fun e w' => e = .returned (.tuple #[.agg (parseR l).1.c, .bool (parseR l).2]) ∧ Below w.heap.size w w' := by
  refine (dparse_any l hl hW w).mono ?_
  rintro e w' ⟨hb, ⟨y, k, rfl, h1, h2, hop, hn, hg⟩ | ⟨rfl, h⟩⟩
  · rw [both_parse l y k h1 h2 hop hn hg]
    exact ⟨rfl, hb⟩
  · rw [both_none l h]
    exact ⟨rfl, hb⟩
set_option maxRecDepth 100000 in
set_option maxHeartbeats 2000000 in
theorem parses_yes (s : ByteArray) (xo x1 x2 x3 x4 x5 : Int) (x6 x7 : Bool) (w : World) (hL : Laid w) (hs : s.size ≤ 80)
    (hP : ∀ V, Laid V → Calls Tryz.prog 13 #[.string s] V fun e w' => e = .returned (.tuple #[.agg #[.int .i64 xo, .int .i64 x1, .int .i64 x2, .int .i64 x3, .int .i64 x4, .int .i64 x5, .bool x6, .bool x7], .int .i64 0]) ∧ Below V.heap.size V w')
    (hD : ∀ V, Calls Tryz.prog 14 #[.string s] V fun e w' => e = .returned (.tuple #[.agg #[.int .i64 xo, .int .i64 x1, .int .i64 x2, .int .i64 x3, .int .i64 x4, .int .i64 x5, .bool x6, .bool x7], .bool true]) ∧ Below V.heap.size V w') :
    Calls Tryz.prog 4 #[.string s] w fun e w' => e = .returned (.bool true) ∧ Below w.heap.size w w' := by
  have HA : Hid (∀ V, Laid V → Calls Tryz.prog 8 #[] V fun e w' => e = .returned (.bool true) ∧ Below V.heap.size V w') := fun V hV => awake_any V hV
  have HP : Hid _ := hP
  have HD : Hid _ := hD
  have HL : Hid (Laid w) := hL
  have hsi : ¬ (80 : Int) < s.size := by omega
  clear hP hD hL
  go_enter Tryz.func4, Tryz.ntmps4
  go_wp2_with fail
  refine Calls.mono (HA.out _ HL.out) ?_
  rintro e w1 ⟨rfl, hb1⟩
  have L1 : Hid (Laid w1) := HL.out.below hb1
  have B1 : Hid (Below w.heap.size w w1) := hb1
  clear hb1
  go_wp2_with fail
  refine Calls.mono (HP.out _ L1.out) ?_
  rintro e w2 ⟨rfl, hb2⟩
  have B2 : Hid (Below w.heap.size w w2) := B1.out.trans (hb2.mono B1.out.size)
  clear hb2
  have X2 : Hid ((w2.alloc (.cells #[.int .i64 xo, .int .i64 x1, .int .i64 x2, .int .i64 x3, .int .i64 x4, .int .i64 x5, .bool x6, .bool x7] 23)).heap[w2.heap.size]? = some (.cells #[.int .i64 xo, .int .i64 x1, .int .i64 x2, .int .i64 x3, .int .i64 x4, .int .i64 x5, .bool x6, .bool x7] 23 (0, 0)) ∧ Below w.heap.size w (w2.alloc (.cells #[.int .i64 xo, .int .i64 x1, .int .i64 x2, .int .i64 x3, .int .i64 x4, .int .i64 x5, .bool x6, .bool x7] 23))) := ⟨heap_alloc_new w2 _, B2.out.alloc B2.out.size _⟩
  go_wp2_with fail
  refine Calls.mono (HD.out _) ?_
  rintro e w3 ⟨rfl, hb3⟩
  have X3 : Hid (w3.heap[w2.heap.size]? = some (.cells #[.int .i64 xo, .int .i64 x1, .int .i64 x2, .int .i64 x3, .int .i64 x4, .int .i64 x5, .bool x6, .bool x7] 23 (0, 0)) ∧ Below w.heap.size w w3) := ⟨below_box8 X2.out.1 hb3, X2.out.2.trans (hb3.mono X2.out.2.size)⟩
  clear hb3 X2
  have X4 : Hid ((w3.alloc (.cells #[.int .i64 xo, .int .i64 x1, .int .i64 x2, .int .i64 x3, .int .i64 x4, .int .i64 x5, .bool x6, .bool x7] 23)).heap[w2.heap.size]? = some (.cells #[.int .i64 xo, .int .i64 x1, .int .i64 x2, .int .i64 x3, .int .i64 x4, .int .i64 x5, .bool x6, .bool x7] 23 (0, 0)) ∧ (w3.alloc (.cells #[.int .i64 xo, .int .i64 x1, .int .i64 x2, .int .i64 x3, .int .i64 x4, .int .i64 x5, .bool x6, .bool x7] 23)).heap[w3.heap.size]? = some (.cells #[.int .i64 xo, .int .i64 x1, .int .i64 x2, .int .i64 x3, .int .i64 x4, .int .i64 x5, .bool x6, .bool x7] 23 (0, 0)) ∧ Below w.heap.size w (w3.alloc (.cells #[.int .i64 xo, .int .i64 x1, .int .i64 x2, .int .i64 x3, .int .i64 x4, .int .i64 x5, .bool x6, .bool x7] 23))) := ⟨below_box8 X3.out.1 ((Below.refl _ _).alloc (Nat.le_refl _) _), heap_alloc_new w3 _, X3.out.2.alloc X3.out.2.size _⟩
  obtain ⟨p0, p1, p2, p3, p4, p5, p6, p7⟩ := box8_facts X4.out.1
  obtain ⟨q0, q1, q2, q3, q4, q5, q6, q7⟩ := box8_facts X4.out.2.1
  go_wp2_with fail
  go_ret
  exact ⟨ret_bool (by first | rfl | simp), X4.out.2.2⟩
set_option maxRecDepth 100000 in
set_option maxHeartbeats 2000000 in
theorem parses_no (s : ByteArray) (xo x1 x2 x3 x4 x5 : Int) (x6 x7 : Bool) (w : World) (hL : Laid w) (hs : s.size ≤ 80)
    (hP : ∀ V, Laid V → Calls Tryz.prog 13 #[.string s] V fun e w' => e = .returned (.tuple #[.agg #[.int .i64 xo, .int .i64 x1, .int .i64 x2, .int .i64 x3, .int .i64 x4, .int .i64 x5, .bool x6, .bool x7], .int .i64 40]) ∧ Below V.heap.size V w')
    (hD : ∀ V, Calls Tryz.prog 14 #[.string s] V fun e w' => e = .returned (.tuple #[.agg #[.int .i64 xo, .int .i64 x1, .int .i64 x2, .int .i64 x3, .int .i64 x4, .int .i64 x5, .bool x6, .bool x7], .bool false]) ∧ Below V.heap.size V w') :
    Calls Tryz.prog 4 #[.string s] w fun e w' => e = .returned (.bool true) ∧ Below w.heap.size w w' := by
  have HA : Hid (∀ V, Laid V → Calls Tryz.prog 8 #[] V fun e w' => e = .returned (.bool true) ∧ Below V.heap.size V w') := fun V hV => awake_any V hV
  have HP : Hid _ := hP
  have HD : Hid _ := hD
  have HL : Hid (Laid w) := hL
  have hsi : ¬ (80 : Int) < s.size := by omega
  clear hP hD hL
  go_enter Tryz.func4, Tryz.ntmps4
  go_wp2_with fail
  refine Calls.mono (HA.out _ HL.out) ?_
  rintro e w1 ⟨rfl, hb1⟩
  have L1 : Hid (Laid w1) := HL.out.below hb1
  have B1 : Hid (Below w.heap.size w w1) := hb1
  clear hb1
  go_wp2_with fail
  refine Calls.mono (HP.out _ L1.out) ?_
  rintro e w2 ⟨rfl, hb2⟩
  have B2 : Hid (Below w.heap.size w w2) := B1.out.trans (hb2.mono B1.out.size)
  clear hb2
  have X2 : Hid ((w2.alloc (.cells #[.int .i64 xo, .int .i64 x1, .int .i64 x2, .int .i64 x3, .int .i64 x4, .int .i64 x5, .bool x6, .bool x7] 23)).heap[w2.heap.size]? = some (.cells #[.int .i64 xo, .int .i64 x1, .int .i64 x2, .int .i64 x3, .int .i64 x4, .int .i64 x5, .bool x6, .bool x7] 23 (0, 0)) ∧ Below w.heap.size w (w2.alloc (.cells #[.int .i64 xo, .int .i64 x1, .int .i64 x2, .int .i64 x3, .int .i64 x4, .int .i64 x5, .bool x6, .bool x7] 23))) := ⟨heap_alloc_new w2 _, B2.out.alloc B2.out.size _⟩
  go_wp2_with fail
  refine Calls.mono (HD.out _) ?_
  rintro e w3 ⟨rfl, hb3⟩
  have X3 : Hid (w3.heap[w2.heap.size]? = some (.cells #[.int .i64 xo, .int .i64 x1, .int .i64 x2, .int .i64 x3, .int .i64 x4, .int .i64 x5, .bool x6, .bool x7] 23 (0, 0)) ∧ Below w.heap.size w w3) := ⟨below_box8 X2.out.1 hb3, X2.out.2.trans (hb3.mono X2.out.2.size)⟩
  clear hb3 X2
  have X4 : Hid ((w3.alloc (.cells #[.int .i64 xo, .int .i64 x1, .int .i64 x2, .int .i64 x3, .int .i64 x4, .int .i64 x5, .bool x6, .bool x7] 23)).heap[w2.heap.size]? = some (.cells #[.int .i64 xo, .int .i64 x1, .int .i64 x2, .int .i64 x3, .int .i64 x4, .int .i64 x5, .bool x6, .bool x7] 23 (0, 0)) ∧ (w3.alloc (.cells #[.int .i64 xo, .int .i64 x1, .int .i64 x2, .int .i64 x3, .int .i64 x4, .int .i64 x5, .bool x6, .bool x7] 23)).heap[w3.heap.size]? = some (.cells #[.int .i64 xo, .int .i64 x1, .int .i64 x2, .int .i64 x3, .int .i64 x4, .int .i64 x5, .bool x6, .bool x7] 23 (0, 0)) ∧ Below w.heap.size w (w3.alloc (.cells #[.int .i64 xo, .int .i64 x1, .int .i64 x2, .int .i64 x3, .int .i64 x4, .int .i64 x5, .bool x6, .bool x7] 23))) := ⟨below_box8 X3.out.1 ((Below.refl _ _).alloc (Nat.le_refl _) _), heap_alloc_new w3 _, X3.out.2.alloc X3.out.2.size _⟩
  obtain ⟨p0, p1, p2, p3, p4, p5, p6, p7⟩ := box8_facts X4.out.1
  obtain ⟨q0, q1, q2, q3, q4, q5, q6, q7⟩ := box8_facts X4.out.2.1
  go_wp2_with fail
  go_ret
  exact ⟨ret_bool (by first | rfl | simp), X4.out.2.2⟩
theorem parses_out (s : ByteArray) (w : World) (hL : Laid w) (hs : 80 < s.size) : Calls Tryz.prog 4 #[.string s] w fun e w' => e = .returned (.bool true) ∧ Below w.heap.size w w' := by
  have HA : Hid (∀ V, Laid V → Calls Tryz.prog 8 #[] V fun e w' => e = .returned (.bool true) ∧ Below V.heap.size V w') := fun V hV => awake_any V hV
  have HL : Hid (Laid w) := hL
  have hsi : (80 : Int) < s.size := by omega
  clear hL
  go_enter Tryz.func4, Tryz.ntmps4
  go_wp2_with fail
  refine Calls.mono (HA.out _ HL.out) ?_
  rintro e w1 ⟨rfl, hb1⟩
  have B1 : Hid (Below w.heap.size w w1) := hb1
  clear hb1
  go_wp2_with fail
  go_ret
  exact ⟨rfl, B1.out⟩
theorem parses_any (s : ByteArray) (hW : ∀ l k aq rl, 1 ≤ k → k ≤ 98 → l.length ≤ 1000 → (PLof l).length ≤ 3 → WithTells k aq rl (RofL (PLof l)) (NofL (PLof l)) (PLof l)) (w : World) (hL : Laid w) : Calls Tryz.prog 4 #[.string s] w fun e w' => e = .returned (.bool true) ∧ Below w.heap.size w w' := by
  by_cases hs : s.size ≤ 80
  · obtain ⟨l, rfl⟩ : ∃ l, s = mk l := ⟨s.data.toList, by unfold mk; simp⟩
    rw [mk_size] at hs
    obtain ⟨x, ok, hx⟩ : ∃ x ok, parseR l = (x, ok) := ⟨_, _, rfl⟩
    have hp : ∀ V, Laid V → Calls Tryz.prog 13 #[.string (mk l)] V fun e w' => e = .returned (.tuple #[.agg (parseR l).1.c, .int .i64 (parseE l)]) ∧ Below V.heap.size V w' := fun V hV => parseT_any_u l (by omega) trivial V hV
    have hd : ∀ V, Calls Tryz.prog 14 #[.string (mk l)] V fun e w' => e = .returned (.tuple #[.agg (parseR l).1.c, .bool (parseR l).2]) ∧ Below V.heap.size V w' := fun V => dparse_same l (by omega) (fun k aq rl h1 h2 h3 => hW l k aq rl h1 h2 (by omega) h3) V
    unfold parseE at hp
    rw [hx] at hp hd
    obtain ⟨xo, x1, x2, x3, x4, x5, x6, x7⟩ := x
    cases ok
    · exact parses_no (mk l) xo x1 x2 x3 x4 x5 x6 x7 w hL (by rw [mk_size]; exact hs) hp hd
    · exact parses_yes (mk l) xo x1 x2 x3 x4 x5 x6 x7 w hL (by rw [mk_size]; exact hs) hp hd
  · exact parses_out s w hL (by omega)
end Go.Proofs.YtooaafbdjnlmfaaGreatDoor
