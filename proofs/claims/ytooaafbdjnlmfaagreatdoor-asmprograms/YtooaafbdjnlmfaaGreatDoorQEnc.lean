/- The program's call Encode of layer 3. -/
import Derived.Test.YtooaafbdjnlmfaaGreatDoorQIn
import Derived.Deep.RegionHeld3
namespace Go.Proofs.YtooaafbdjnlmfaaGreatDoor
open Go.RowKit
set_option linter.unusedVariables false
set_option linter.unusedSimpArgs false
set_option maxRecDepth 100000 in
set_option maxHeartbeats 400000 in
theorem encode_no (op rd rs1 rs2 imm csr : Int) (aq rl : Bool) (w : World) (ht : Tabs w) (h : rightB op rd rs1 rs2 imm csr aq rl = false) :
    Calls Tryz.prog 25 #[.agg (instrC op rd rs1 rs2 imm csr aq rl)] w fun e w' => e = .returned (.tuple #[.int .u32 0, .int .i64 30]) ∧ Below w.heap.size w w' := by
  have T : Hid (Tabs (w.alloc (.cells (instrC op rd rs1 rs2 imm csr aq rl) 23))) := ht.below ((Below.refl _ _).alloc (Nat.le_refl _) _)
  have B : Hid _ := (Below.refl w.heap.size w).alloc (Nat.le_refl _) (.cells (instrC op rd rs1 rs2 imm csr aq rl) 23)
  have he := rightE_no h
  clear ht h
  go_enter Tryz.func25, Tryz.ntmps25
  go_wp2_with (first | (go_at_call 24; refine (right_any op rd rs1 rs2 imm csr aq rl _ T.out).mono ?_; rw [he]; rintro e w1 ⟨rfl, hb1⟩))
  go_ret2
  exact ⟨rfl, B.out.trans (hb1.mono (by simp))⟩
set_option maxRecDepth 100000 in
set_option maxHeartbeats 1000000 in
theorem encode_raw (op : Nat) (rd rs1 rs2 csr : Nat) (imm : Int) (aq rl : Bool) (Wd P I f : Nat) (w : World) (ht : TabsE w) (h : rightB op rd rs1 rs2 imm csr aq rl = true) (hop : op < 99) (hW : Wd = wordsT.getD op 0)
    (hP : ∀ w, Calls Tryz.prog 58 #[.agg (instrC op rd rs1 rs2 imm csr aq rl)] w fun e w' => e = .returned (.int .u32 (P : Nat)) ∧ Below w.heap.size w w')
    (hF : ∀ w, Tabs w → Calls Tryz.prog 55 #[.int .i64 (op : Nat)] w fun e w' => e = .returned (.int .u8 (f : Nat)) ∧ w' = w)
    (hI : ∀ w, Calls Tryz.prog 59 #[.int .u8 (f : Nat), .int .i64 imm] w fun e w' => e = .returned (.int .u32 (I : Nat)) ∧ Below w.heap.size w w')
    (hor : bits .or .u32 (bits .or .u32 (Wd : Int) (P : Int)) (I : Int) = ((Wd + P + I : Nat) : Int)) :
    Calls Tryz.prog 25 #[.agg (instrC op rd rs1 rs2 imm csr aq rl)] w fun e w' => e = .returned (.tuple #[.int .u32 (Wd + P + I : Nat), .int .i64 0]) ∧ Below w.heap.size w w' := by
  have T : Hid (TabsE (w.alloc (.cells (instrC op rd rs1 rs2 imm csr aq rl) 23))) := ht.below ((Below.refl _ _).alloc (Nat.le_refl _) _)
  have B : Hid (_ ∧ _) := ⟨(Below.refl w.heap.size w).alloc (Nat.le_refl _) (.cells (instrC op rd rs1 rs2 imm csr aq rl) 23), heap_alloc_new w (.cells (instrC op rd rs1 rs2 imm csr aq rl) 23)⟩
  have he := rightE_yes h
  have HW : Hid (_ ∧ _) := ⟨fun (w : World) (t : TabsE w) => (show w.cell? ⟨2, op, none⟩ = some (.int .u32 (Wd : Nat)) from by rw [hW]; exact t.1 op hop), hor⟩
  have hop1 : (op : Int) < 99 := by omega
  clear ht h hW hor
  generalize hS : ((Wd + P + I : Nat) : Int) = sum at *
  have HS : Hid _ := hS
  clear hS
  go_enter Tryz.func25, Tryz.ntmps25
  go_wp2_with (first | (go_at_call 24; refine (right_any op rd rs1 rs2 imm csr aq rl _ T.out.2).mono ?_; rw [he]; rintro e w1 ⟨rfl, hb1⟩))
  have x1 := below_box B.out.2 hb1
  have t1 : TabsE w1 := T.out.below hb1
  have g1 : Below w.heap.size w w1 := B.out.1.trans (hb1.mono (by simp))
  have hcw : w1.cell? ⟨2, op, none⟩ = some (.int .u32 (Wd : Nat)) := HW.out.1 _ t1
  obtain ⟨q0, q1, q2, q3, q4, q5, q6, q7⟩ := box8_facts x1
  have X : Hid (_ ∧ _ ∧ _) := ⟨x1, t1, g1⟩
  clear x1 t1 g1 hb1
  go_region_held3 (fun W => W.cell? ⟨2, op, none⟩ = some (.int .u32 (Wd : Nat)) ∧ W.cell? ⟨w.heap.size, 0, none⟩ = some (.int .i64 (op : Nat)) ∧ W.cell? ⟨w.heap.size, 1, none⟩ = some (.int .i64 (rd : Nat)) ∧ W.cell? ⟨w.heap.size, 2, none⟩ = some (.int .i64 (rs1 : Nat)) ∧ W.cell? ⟨w.heap.size, 3, none⟩ = some (.int .i64 (rs2 : Nat)) ∧ W.cell? ⟨w.heap.size, 4, none⟩ = some (.int .i64 imm) ∧ W.cell? ⟨w.heap.size, 5, none⟩ = some (.int .i64 (csr : Nat)) ∧ W.cell? ⟨w.heap.size, 6, none⟩ = some (.bool aq) ∧ W.cell? ⟨w.heap.size, 7, none⟩ = some (.bool rl)) (go_keep) (first | (go_at_call 55; refine (hF _ (by exact Y.out.2.1.2)).mono ?_; rintro e w3 ⟨rfl, hw3⟩; rw [hw3]; clear hw3) | (go_at_call 59; refine (hI _).mono ?_; rintro e w4 ⟨rfl, hb4⟩; have x4 := below_box (by exact Y.out.1) hb4; have t4 : TabsE w4 := TabsE.below (by exact Y.out.2.1) hb4; obtain ⟨z0, z1, z2, z3, z4, z5, z6, z7⟩ := box8_facts x4; have hcw4 : w4.cell? ⟨2, op, none⟩ = some (.int .u32 (Wd : Nat)) := HW.out.1 _ t4; have Z : Hid _ := hb4; clear x4 t4 hb4) | (go_at_call 58; refine (hP _).mono ?_; rintro e w2 ⟨rfl, hb2⟩; have x2 := below_box (by exact X.out.1) hb2; have t2 : TabsE w2 := TabsE.below (by exact X.out.2.1) hb2; obtain ⟨r0, r1, r2, r3, r4, r5, r6, r7⟩ := box8_facts x2; have hcw2 : w2.cell? ⟨2, op, none⟩ = some (.int .u32 (Wd : Nat)) := HW.out.1 _ t2; have Y : Hid (_ ∧ _ ∧ _) := ⟨x2, t2, hb2⟩; clear x2 t2 hb2))
  go_wp2
  go_ret2
  exact ⟨by rw [← HW.out.2]; rfl, (X.out.2.2.drew.trans (Y.out.2.2.mono X.out.2.2.size)).trans (Z.out.mono (Nat.le_trans X.out.2.2.size Y.out.2.2.size))⟩
end Go.Proofs.YtooaafbdjnlmfaaGreatDoor

namespace Go.Proofs.YtooaafbdjnlmfaaGreatDoor
open Go.RowKit
set_option linter.unusedVariables false
set_option linter.unusedSimpArgs false
theorem jump_sub (a b c d : Nat) (ha : a < 2) (hb : b < 1024) (hc : c < 2) (hd : d < 256) : Sub (a * 2147483648 + b * 2097152 + c * 1048576 + d * 4096) 0xfffff000 := by
  have s1 := ((Sub.field 1 31 0x80000000 ha rfl).join (Sub.field 10 21 0x7fe00000 hb rfl) (by decide) (by decide) (by decide)).2
  have s2 := (s1.join (Sub.field 1 20 0x100000 hc rfl) (by decide) (by decide) (by decide)).2
  exact (s2.join (Sub.field 8 12 0xff000 hd rfl) (by decide) (by decide) (by decide)).2
theorem branch_sub (a b c d : Nat) (ha : a < 2) (hb : b < 64) (hc : c < 16) (hd : d < 2) : Sub (a * 2147483648 + b * 33554432 + c * 256 + d * 128) 0xfe000f80 := by
  have s1 := ((Sub.field 1 31 0x80000000 ha rfl).join (Sub.field 6 25 0x7e000000 hb rfl) (by decide) (by decide) (by decide)).2
  have s2 := (s1.join (Sub.field 4 8 0xf00 hc rfl) (by decide) (by decide) (by decide)).2
  exact (s2.join (Sub.field 1 7 0x80 hd rfl) (by decide) (by decide) (by decide)).2
theorem store_sub (a b : Nat) (ha : a < 128) (hb : b < 32) : Sub (a * 33554432 + b * 128) 0xfe000f80 :=
  ((Sub.field 7 25 0xfe000000 ha rfl).join (Sub.field 5 7 0xf80 hb rfl) (by decide) (by decide) (by decide)).2
theorem field_eq {x y : Nat} (k s M : Nat) (e : y = x * 2 ^ s) (h : x < 2 ^ k) (hM : M = (2 ^ k - 1) * 2 ^ s) : Sub y M := by rw [e]; exact Sub.field k s M h hM
theorem imm_sub (f : Nat) (hf : f < 17) (hz : f ≠ 0) (imm : Int) (U : Nat) (hU : (U : Int) = imm % 18446744073709551616) (h : immB f imm = true) : Sub (immP f U) (MI f) := by
  have h2 := of_decide_eq_true h
  clear h
  have h : f = 1 ∨ f = 2 ∨ f = 3 ∨ f = 4 ∨ f = 5 ∨ f = 6 ∨ f = 7 ∨ f = 8 ∨ f = 9 ∨ f = 10 ∨ f = 11 ∨ f = 12 ∨ f = 13 ∨ f = 14 ∨ f = 15 ∨ f = 16 := by omega
  rcases h with rfl | rfl | rfl | rfl | rfl | rfl | rfl | rfl | rfl | rfl | rfl | rfl | rfl | rfl | rfl | rfl <;> simp only [spanN] at h2
  · exact field_eq (x := U % 4294967296 / 4096) 20 12 0xfffff000 (show U % 4294967296 = _ by omega) (by omega) rfl
  · exact jump_sub _ _ _ _ (getI_lt U 20 1) (getI_lt U 1 10) (getI_lt U 11 1) (getI_lt U 12 8)
  · exact field_eq (x := U % 4096) 12 20 0xfff00000 (show U * 1048576 % 4294967296 = _ by omega) (by omega) rfl
  · exact field_eq (x := U % 4096) 12 20 0xfff00000 (show U * 1048576 % 4294967296 = _ by omega) (by omega) rfl
  · exact branch_sub _ _ _ _ (getI_lt U 12 1) (getI_lt U 5 6) (getI_lt U 1 4) (getI_lt U 11 1)
  · exact store_sub _ _ (getI_lt U 5 7) (getI_lt U 0 5)
  · exact field_eq (x := U) 6 20 0x3f00000 (show U * 1048576 % 4294967296 = _ by omega) (by omega) rfl
  · exact field_eq (x := U) 5 20 0x1f00000 (show U * 1048576 % 4294967296 = _ by omega) (by omega) rfl
  · exact field_eq (x := 0) 0 0 0 (show U * 1048576 % 4294967296 = _ by omega) (by omega) rfl
  · exact field_eq (x := U % 4096) 12 20 0xfff00000 (show U * 1048576 % 4294967296 = _ by omega) (by omega) rfl
  · exact field_eq (x := 0) 0 0 0 (show U * 1048576 % 4294967296 = _ by omega) (by omega) rfl
  · exact field_eq (x := 0) 0 0 0 (show U * 1048576 % 4294967296 = _ by omega) (by omega) rfl
  · exact field_eq (x := U) 5 15 0xf8000 (show U * 32768 % 4294967296 = _ by omega) (by omega) rfl
  · exact field_eq (x := 0) 0 0 0 (show U * 1048576 % 4294967296 = _ by omega) (by omega) rfl
  · exact field_eq (x := 0) 0 0 0 (show U * 1048576 % 4294967296 = _ by omega) (by omega) rfl
  · exact field_eq (x := 0) 0 0 0 (show U * 1048576 % 4294967296 = _ by omega) (by omega) rfl
theorem words_fixed : ∀ i, i < 99 → wordsT.getD i 0 &&& fixedT.getD (formsT.getD i 0) 0 = wordsT.getD i 0 := by decide +kernel
theorem forms_pos : ∀ i, i < 99 → 1 ≤ i → formsT.getD i 0 ≠ 0 := by decide +kernel
/-- the word of an instruction -/
def encS (op rd rs1 rs2 csr : Nat) (aq rl : Bool) (U : Nat) : Nat := wordsT.getD op 0 + partsS rd rs1 rs2 csr aq rl + immP (formsT.getD op 0) U
/-- what is right is a row of small numbers -/
theorem right_nat {op rd rs1 rs2 imm csr : Int} {aq rl : Bool} (h : rightB op rd rs1 rs2 imm csr aq rl = true) :
    ∃ o a b c d : Nat, op = o ∧ rd = a ∧ rs1 = b ∧ rs2 = c ∧ csr = d ∧ 1 ≤ o ∧ o < 99 ∧ formI op = formsT.getD o 0 ∧ formsT.getD o 0 ≠ 0 ∧ formsT.getD o 0 < 17 ∧ partsB (formsT.getD o 0) a b c d aq rl = true ∧ immB (formsT.getD o 0) imm = true := by
  unfold rightB at h
  simp only [Bool.and_eq_true] at h
  obtain ⟨h0, h1, h2⟩ := h
  have h0 := of_decide_eq_true h0
  have ho : 1 ≤ op ∧ op ≤ 98 := by
    refine Classical.byContradiction fun hc => h0 ?_
    unfold formI
    rw [if_neg hc]
  have hf : formI op = formsT.getD op.toNat 0 := by unfold formI; rw [if_pos ho]
  rw [hf] at h0 h1 h2
  have h3 := h1
  unfold partsB at h3
  simp only [Bool.and_eq_true] at h3
  have g0 := of_decide_eq_true h3.1
  have g1 := of_decide_eq_true h3.2.1
  have g2 := of_decide_eq_true h3.2.2.1
  have g3 := of_decide_eq_true h3.2.2.2.1
  refine ⟨op.toNat, rd.toNat, rs1.toNat, rs2.toNat, csr.toNat, by omega, by omega, by omega, by omega, by omega, by omega, by omega, hf, h0, forms_lt _ (by omega), ?_, h2⟩
  rw [Int.toNat_of_nonneg g0.1, Int.toNat_of_nonneg g1.1, Int.toNat_of_nonneg g2.1, Int.toNat_of_nonneg g3.1]
  exact h1
/-- all that a right instruction's word is made of -/
theorem enc_parts (o a b c d : Nat) (imm : Int) (aq rl : Bool) (U : Nat) (hU : (U : Int) = imm % 18446744073709551616) (h1 : 1 ≤ o) (h2 : o < 99) (hp : partsB (formsT.getD o 0) a b c d aq rl = true) (hi : immB (formsT.getD o 0) imm = true) :
    Sub (wordsT.getD o 0) (MF (formsT.getD o 0)) ∧ Sub (partsS a b c d aq rl) (J5 (formsT.getD o 0)) ∧ Sub (immP (formsT.getD o 0) U) (MI (formsT.getD o 0)) ∧ partsRaw a b c d aq rl = (partsS a b c d aq rl : Nat) ∧
    bits .or .u32 (bits .or .u32 ((wordsT.getD o 0 : Nat) : Int) ((partsS a b c d aq rl : Nat) : Int)) ((immP (formsT.getD o 0) U : Nat) : Int) = ((wordsT.getD o 0 + partsS a b c d aq rl + immP (formsT.getD o 0) U : Nat) : Int) := by
  have hf := forms_lt o h2
  have hz := forms_pos o h2 h1
  have sw : Sub (wordsT.getD o 0) (MF (formsT.getD o 0)) := Sub.of_and (words_fixed o h2)
  obtain ⟨ep, sp⟩ := parts_or _ hf hz a b c d aq rl hp
  have si := imm_sub _ hf hz imm U hU hi
  obtain ⟨d5, d6, d7⟩ := masksB _ hf hz
  obtain ⟨c1, c2, c3, c4, c5⟩ := masksD _ hf
  obtain ⟨m1, m2, m3⟩ := masksE _ hf
  obtain ⟨e1, s1⟩ := or32 _ _ (J6 (formsT.getD o 0)) rfl rfl sw sp m1 c5 d6 rfl
  obtain ⟨e2, s2⟩ := or32 _ _ _ e1 rfl s1 si m2 m3 d7 rfl
  exact ⟨sw, sp, si, ep, e2⟩
theorem encode_yes (op rd rs1 rs2 imm csr : Int) (aq rl : Bool) (hb : -9223372036854775808 ≤ imm ∧ imm < 9223372036854775808) (w : World) (ht : TabsE w) (h : rightB op rd rs1 rs2 imm csr aq rl = true) :
    Calls Tryz.prog 25 #[.agg (instrC op rd rs1 rs2 imm csr aq rl)] w fun e w' => e = .returned (.tuple #[.int .u32 (encS op.toNat rd.toNat rs1.toNat rs2.toNat csr.toNat aq rl (imm % 18446744073709551616).toNat : Nat), .int .i64 0]) ∧ Below w.heap.size w w' := by
  obtain ⟨o, a, b, c, d, rfl, rfl, rfl, rfl, rfl, h1, h2, hf, hz, hl, hp, hi⟩ := right_nat h
  simp only [Int.toNat_natCast]
  obtain ⟨U, hU⟩ : ∃ U : Nat, (U : Int) = imm % 18446744073709551616 := ⟨(imm % 18446744073709551616).toNat, by omega⟩
  rw [show (imm % 18446744073709551616).toNat = U from by omega]
  obtain ⟨sw, sp, si, ep, eo⟩ := enc_parts o a b c d imm aq rl U hU h1 h2 hp hi
  refine encode_raw o a b c d imm aq rl _ _ _ (formsT.getD o 0) w ht h h2 rfl (fun w => ?_) (fun w t => ?_) (fun w => immIn_any _ hl imm U (by rw [wrap_u64]; omega) (by omega) w) eo
  · rw [← ep]
    exact partsIn_any o imm a b c d aq rl w
  · rw [← hf]
    exact form_any o w t
end Go.Proofs.YtooaafbdjnlmfaaGreatDoor
