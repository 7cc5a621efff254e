/- The program's call Decode of layer 3. -/
import Derived.Test.YtooaafbdjnlmfaaGreatDoorOut
import Derived.Test.YtooaafbdjnlmfaaGreatDoorOutI
namespace Go.Proofs.YtooaafbdjnlmfaaGreatDoor
open Go.RowKit
set_option linter.unusedVariables false
set_option linter.unusedSimpArgs false
/-- has a word the bits that tell an operation? -/
def hit (x op : Nat) : Bool := (x &&& fixedT.getD (formsT.getD op 0) 0) == wordsT.getD op 0
/-- what Decode tells of a word and an operation -/
def decC (x o : Nat) : Array Value := instrC (o : Nat) (dP (formsT.getD o 0) 1 128 32 x : Nat) (dP (formsT.getD o 0) 2 32768 32 x : Nat) (dP (formsT.getD o 0) 4 1048576 32 x : Nat) (immD (formsT.getD o 0) x) (dP (formsT.getD o 0) 8 1048576 4096 x : Nat) (dB (formsT.getD o 0) 67108864 x) (dB (formsT.getD o 0) 33554432 x)
theorem fixed_lt : ∀ f, f < 17 → fixedT.getD f 0 < 4294967296 := by decide +kernel
theorem round_facts (x k : Nat) (hx : x < 4294967296) (hk : k < 99) (w : World) (t : TabsD w) (b : Bool) (hb : hit x k = b) : ∃ f q v : Nat, f < 17 ∧ f = formsT.getD k 0 ∧ w.cell? ⟨0, k, none⟩ = some (.int .u8 (f : Nat)) ∧ w.cell? ⟨1, f, none⟩ = some (.int .u32 (q : Nat)) ∧ w.cell? ⟨2, k, none⟩ = some (.int .u32 (v : Nat)) ∧ (bits .and .u32 (x : Int) (q : Int) == (v : Int)) = b := by
  have hf := forms_lt k hk
  refine ⟨_, _, _, hf, rfl, t.2.2.2.1 k hk, t.1 _ hf, t.2.1 k hk, ?_⟩
  rw [u32_and_nat x _ hx (fixed_lt _ hf), ← hb]
  unfold hit
  rw [Bool.eq_iff_iff]
  simp
  omega
theorem box8_frozen {w : World} {b : Nat} {x0 x1 x2 x3 x4 x5 x6 x7 : Value} {t : TypeId} (h : w.heap[b]? = some (.cells #[x0, x1, x2, x3, x4, x5, x6, x7] t (0, 0))) (i : Nat) : w.frozen? ⟨b, i, none⟩ = false := by
  simp only [World.frozen?, h]
  simp
set_option maxRecDepth 100000 in
set_option maxHeartbeats 1000000 in
theorem decode_hit (x o : Nat) (hx : x < 4294967296) (h1 : 1 ≤ o) (h2 : o < 99) (hh : hit x o = true) (hno : ∀ j, 1 ≤ j → j < o → hit x j = false) (w : World) (ht : TabsD w) :
    Calls Tryz.prog 23 #[.int .u32 (x : Nat)] w fun e w' => e = .returned (.tuple #[.agg (decC x o), .int .i64 0]) ∧ Below w.heap.size w w' := by
  have S : Hid (_ ∧ _ ∧ _) := ⟨ht.below ((Below.refl _ _).alloc (Nat.le_refl _) (.cells (instrC 0 0 0 0 0 0 false false) 23)), heap_alloc_new w (.cells (instrC 0 0 0 0 0 0 false false) 23), (Below.refl w.heap.size w).alloc (Nat.le_refl _) (.cells (instrC 0 0 0 0 0 0 false false) 23)⟩
  have HN : Hid _ := hno
  have HH : Hid _ := hh
  clear ht hno hh
  go_enter Tryz.func23, Tryz.ntmps23
  go_wp2
  go_loopw [4] (fun i wr => ∃ k : Nat, 1 ≤ k ∧ k ≤ o ∧ i = .int .i64 k ∧ TabsD wr ∧ wr.heap[w.heap.size]? = some (.cells (instrC 0 0 0 0 0 0 false false) 23 (0, 0)) ∧ Below w.heap.size w wr) (fun i _ => 99 - (intOf i).toNat)
  case atStart => exact ⟨1, by omega, by omega, rfl, S.out⟩
  case round =>
    obtain ⟨k, hk1, hk2, rfl, t, hz, hb⟩ := hrel
    clear S
    have C : Hid (_ ∧ _ ∧ _) := ⟨t, hz, hb⟩
    have hki : (k : Int) ≤ 98 := by omega
    have hkj : (k : Int) < 99 := by omega
    by_cases hko : k < o
    · obtain ⟨f, q, v, hf, hff, g1, g2, g3, g4⟩ := round_facts x k hx (by omega) wr t false (HN.out k hk1 hko)
      clear t hz hb hff
      go_wp2
      go_quiet (fail)
      go_wp2
      go_roundw
      case rel => exact ⟨k + 1, by omega, by omega, by go_num, TabsD.below C.out.1 (below_drewN (Below.refl _ _) _), C.out.2.1, below_drewN C.out.2.2 _⟩
      case measure => simp [intOf]; omega
    · obtain rfl : k = o := by omega
      obtain ⟨f, q, v, hf, hff, g1, g2, g3, g4⟩ := round_facts x k hx (by omega) wr t true HH.out
      have HF : Hid _ := hff
      clear t hz hb hff
      go_wp2
      go_quiet (fail)
      go_wp2_with (first | (go_at_call 53; refine (partsOf_any f hf x hx _ (by exact C.out.1.2.2)).mono ?_; rintro e w1 ⟨rfl, hb1⟩; have x1 := below_box (by exact C.out.2.1) hb1; have l1 : w.heap.size < w1.heap.size := (Array.getElem?_eq_some_iff.1 x1).1; have B1 : Hid (_ ∧ _ ∧ _) := ⟨hb1, x1, l1⟩; clear hb1 x1))
      refine (immOf_any f hf x hx _).mono ?_
      rintro e w2 ⟨rfl, hb2⟩
      have x2 := below_box (heap_alloc_new _ _) hb2
      have x3 := below_box ((heap_alloc_old w1 _ l1).trans B1.out.2.1) hb2
      obtain ⟨p0, p1, p2, p3, p4, p5, p6, p7⟩ := box8_facts x2
      obtain ⟨q0, q1, q2, q3, q4, q5, q6, q7⟩ := box8_facts x3
      have r := box8_frozen x2
      have r0 := r 0
      have r4 := r 4
      have z := box8_frozen x3
      have z0 := z 0
      have z1 := z 1
      have z2 := z 2
      have z3 := z 3
      have z4 := z 4
      have z5 := z 5
      have z6 := z 6
      have z7 := z 7
      have hne : w.heap.size ≠ w1.heap.size := Nat.ne_of_lt l1
      have hne' : w1.heap.size ≠ w.heap.size := Nat.ne_of_gt l1
      have B2 : Hid (_ ∧ _ ∧ _) := ⟨hb2, x2, x3⟩
      clear hb2 x2 x3 r z
      go_wp2
      have hd : decC x k = instrC (k : Nat) (dP f 1 128 32 x : Nat) (dP f 2 32768 32 x : Nat) (dP f 4 1048576 32 x : Nat) (immD f x) (dP f 8 1048576 4096 x : Nat) (dB f 67108864 x) (dB f 33554432 x) := by unfold decC; rw [← HF.out]
      have b1 : Below w.heap.size w w1 := (below_drewN C.out.2.2 _).trans (B1.out.1.mono C.out.2.2.size)
      have b2 : Below w.heap.size w w2 := (b1.alloc b1.size _).trans (B2.out.1.mono (by have := b1.size; simp; omega))
      rw [hd]
      clear hd
      refine bodyPost_ret (v := .tuple #[.agg (instrC (k : Nat) (dP f 1 128 32 x : Nat) (dP f 2 32768 32 x : Nat) (dP f 4 1048576 32 x : Nat) (immD f x) (dP f 8 1048576 4096 x : Nat) (dB f 67108864 x) (dB f 33554432 x)), .int .i64 0]) (by simp [results, Tryz.results14, go_sem, q0, q1, q2, q3, q4, q5, q6, q7, hne, hne']) rfl ⟨rfl, ?_⟩
      iterate 10 (refine Below.setCell ?_ (by first | exact Nat.le_refl _ | exact Nat.le_of_lt l1) _)
      exact b2
set_option maxRecDepth 100000 in
set_option maxHeartbeats 1000000 in
theorem decode_none (x : Nat) (hx : x < 4294967296) (hno : ∀ j, 1 ≤ j → j < 99 → hit x j = false) (w : World) (ht : TabsD w) :
    Calls Tryz.prog 23 #[.int .u32 (x : Nat)] w fun e w' => e = .returned (.tuple #[.agg (instrC 0 0 0 0 0 0 false false), .int .i64 31]) ∧ Below w.heap.size w w' := by
  have S : Hid (_ ∧ _ ∧ _) := ⟨ht.below ((Below.refl _ _).alloc (Nat.le_refl _) (.cells (instrC 0 0 0 0 0 0 false false) 23)), heap_alloc_new w (.cells (instrC 0 0 0 0 0 0 false false) 23), (Below.refl w.heap.size w).alloc (Nat.le_refl _) (.cells (instrC 0 0 0 0 0 0 false false) 23)⟩
  have HN : Hid _ := hno
  clear ht hno
  go_enter Tryz.func23, Tryz.ntmps23
  go_wp2
  go_loopw [4] (fun i wr => ∃ k : Nat, 1 ≤ k ∧ k ≤ 99 ∧ i = .int .i64 k ∧ TabsD wr ∧ wr.heap[w.heap.size]? = some (.cells (instrC 0 0 0 0 0 0 false false) 23 (0, 0)) ∧ Below w.heap.size w wr) (fun i _ => 99 - (intOf i).toNat)
  case atStart => exact ⟨1, by omega, by omega, rfl, S.out⟩
  case round =>
    obtain ⟨k, hk1, hk2, rfl, t, hz, hb⟩ := hrel
    clear S
    have C : Hid (_ ∧ _ ∧ _) := ⟨t, hz, hb⟩
    by_cases hko : k < 99
    · have hki : (k : Int) ≤ 98 := by omega
      have hkj : (k : Int) < 99 := by omega
      obtain ⟨f, q, v, hf, hff, g1, g2, g3, g4⟩ := round_facts x k hx (by omega) wr t false (HN.out k hk1 hko)
      clear t hz hb hff
      go_wp2
      go_quiet (fail)
      go_wp2
      go_roundw
      case rel => exact ⟨k + 1, by omega, by omega, by go_num, TabsD.below C.out.1 (below_drewN (Below.refl _ _) _), C.out.2.1, below_drewN C.out.2.2 _⟩
      case measure => simp [intOf]; omega
    · have hki : ¬ (k : Int) ≤ 98 := by omega
      obtain ⟨q0, q1, q2, q3, q4, q5, q6, q7⟩ := box8_facts hz
      have z := box8_frozen hz
      have z0 := z 0
      have z1 := z 1
      have z2 := z 2
      have z3 := z 3
      have z4 := z 4
      have z5 := z 5
      have z6 := z 6
      have z7 := z 7
      clear t hz hb z
      go_wp2
      refine bodyPost_ret (v := .tuple #[.agg (instrC 0 0 0 0 0 0 false false), .int .i64 31]) (by simp [results, Tryz.results14, go_sem, q0, q1, q2, q3, q4, q5, q6, q7]) rfl ⟨rfl, ?_⟩
      iterate 8 (refine Below.setCell ?_ (by exact Nat.le_refl _) _)
      exact C.out.2.2
end Go.Proofs.YtooaafbdjnlmfaaGreatDoor
