/- The document's Store, byte by byte. -/
import Derived.Test.YtaiagfdlglidfaaDb
import Derived.Test.YtaiagfdlglidfaaCr
namespace Go.Proofs.Ytaiagfdlglidfaa
open Go.RowKit
set_option linter.unusedVariables false
set_option linter.unusedSimpArgs false
set_option maxRecDepth 100000
theorem softR_zero (s : Bool) (a v : Nat) : softR s a 0 v = s := by unfold softR; rw [if_neg (by omega)]
theorem wordR_zero (c b a v : Nat) (hc : c < 18446744073709551616) : wordR c b a 0 v = c := by
  unfold wordR; split
  · exact put_zero c _ v hc (by omega)
  · rfl
theorem stC_zero (s : Bool) (c t a v : Nat) (hc : c < 18446744073709551616) (ht : t < 18446744073709551616) : stC s c t a 0 v = #[.bool s, .int .u64 (c : Int), .int .u64 (t : Int)] := by
  unfold stC; rw [softR_zero, wordR_zero _ _ _ _ hc, wordR_zero _ _ _ _ ht]
theorem wordR_else (c b a n v : Nat) (h : ¬ a - a % 8 = b) : wordR c b a n v = c := by unfold wordR; rw [if_neg h]
theorem softR_else (s : Bool) (a n v : Nat) (h : ¬ a = 0) : softR s a n v = s := by unfold softR; rw [if_neg (by omega)]
theorem wordR_more (c b a i v : Nat) (hb : a - a % 8 = b) (h : a % 8 + (i + 1) ≤ 8) : E.putA (wordR c b a i v) ((a + i - b) * 8 : Nat) 8 (byteAt v i) = wordR c b a (i + 1) v := by
  unfold wordR
  rw [if_pos hb, if_pos hb, show (a + i - b) * 8 = (a % 8 + i) * 8 from by omega]
  exact put_more c (a % 8) i v h
/-- one byte more -/
theorem set_more (s : Bool) (c t a v k i : Nat) (hc : c < 18446744073709551616) (ht : t < 18446744073709551616) (h : mayB a k = true) (hi : i < k) (V : World) : Calls Try.prog 21 #[.agg (stC s c t a i v), .int .u64 ((a : Int) + (i : Nat)), .int .u8 (byteAt v i : Nat)] V fun e w' => e = .returned (.agg (stC s c t a (i + 1) v)) ∧ Below V.heap.size V w' := by
  obtain ⟨k', hk1, hk2, hk3, hk4, hk5⟩ := mayB_k h
  obtain rfl : k' = k := by omega
  have hb := byteAt_le v i
  have hwc := wordR_lt c 16384 a i v hc
  have hwt := wordR_lt t 49144 a i v ht
  rw [show (a : Int) + (i : Nat) = ((a + i : Nat) : Int) from by omega]
  by_cases h1 : a - a % 8 = 16384
  · have hs := set_cmp (softR s a i v) (wordR c 16384 a i v) (wordR t 49144 a i v) (a + i) (byteAt v i) hwc hb (by omega) V
    rw [wordR_more c 16384 a i v h1 (by omega)] at hs
    have e1 : softR s a (i + 1) v = softR s a i v := by rw [softR_else s a (i + 1) v (by omega), softR_else s a i v (by omega)]
    have e2 : wordR t 49144 a (i + 1) v = wordR t 49144 a i v := by rw [wordR_else t 49144 a (i + 1) v (by omega), wordR_else t 49144 a i v (by omega)]
    unfold stC
    rw [e1, e2]
    exact hs
  by_cases h2 : a - a % 8 = 49144
  · have hs := set_now (softR s a i v) (wordR c 16384 a i v) (wordR t 49144 a i v) (a + i) (byteAt v i) hwt hb (by omega) V
    rw [wordR_more t 49144 a i v h2 (by omega)] at hs
    have e1 : softR s a (i + 1) v = softR s a i v := by rw [softR_else s a (i + 1) v (by omega), softR_else s a i v (by omega)]
    have e2 : wordR c 16384 a (i + 1) v = wordR c 16384 a i v := by rw [wordR_else c 16384 a (i + 1) v (by omega), wordR_else c 16384 a i v (by omega)]
    unfold stC
    rw [e1, e2]
    exact hs
  unfold stC
  rw [wordR_else c 16384 a i v h1, wordR_else c 16384 a (i + 1) v h1, wordR_else t 49144 a i v h2, wordR_else t 49144 a (i + 1) v h2]
  by_cases h0 : a = 0
  · subst h0
    by_cases hi0 : i = 0
    · subst hi0
      have hs := set_soft (softR s 0 0 v) c t (byteAt v 0) hb V
      rw [byte_odd] at hs
      rw [show softR s 0 (0 + 1) v = (v % 2 == 1) from by unfold softR; rw [if_pos (by omega)]]
      exact hs
    · have hs := set_else (softR s 0 i v) c t (0 + i) (byteAt v i) (by omega) (by omega) (by omega) V
      rw [show softR s 0 (i + 1) v = softR s 0 i v from by unfold softR; rw [if_pos (by omega), if_pos (by omega)]]
      exact hs
  · rw [softR_else s a (i + 1) v h0, softR_else s a i v h0]
    exact set_else s c t (a + i) (byteAt v i) (by omega) (by omega) (by omega) V
theorem dstore_no (s : Bool) (c t a v : Nat) (n : Int) (ha : a < 18446744073709551616) (h : mayB a n = false) (w : World) : Calls Try.prog 9 #[.agg #[.bool s, .int .u64 (c : Int), .int .u64 (t : Int)], .int .u64 (a : Int), .int .i64 n, .int .u64 (v : Int)] w fun e w' => e = .returned (.tuple #[.agg #[.bool s, .int .u64 (c : Int), .int .u64 (t : Int)], .bool false]) ∧ Below w.heap.size w w' := by
  have ca : ∀ w, Calls Try.prog 19 #[.int .u64 (a : Int), .int .i64 n] w fun e w' => e = .returned (.bool false) ∧ w' = w := fun w => by
    have h1 := dmay_any a n ha w
    rw [h] at h1
    exact h1
  clear h
  have X0 : Hid (Two w ((w.alloc (.cells #[.bool s, .int .u64 (c : Int), .int .u64 (t : Int)] 28)).alloc (.cells #[.bool false, .int .u64 0, .int .u64 0] 28)) #[.bool s, .int .u64 (c : Int), .int .u64 (t : Int)] #[.bool false, .int .u64 0, .int .u64 0]) := Two.new w _ _
  go_enter Try.func9, Try.ntmps9
  go_upto_region 1 with fail
  generalize (w.alloc (.cells #[.bool s, .int .u64 (c : Int), .int .u64 (t : Int)] 28)).alloc (.cells #[.bool false, .int .u64 0, .int .u64 0] 28) = V0 at *
  have f0 := cellOf X0.out.1 0 _ rfl
  have f1 := cellOf X0.out.1 1 _ rfl
  have f2 := cellOf X0.out.1 2 _ rfl
  have g0 := cellOf X0.out.2.1 0 _ rfl
  have g1 := cellOf X0.out.2.1 1 _ rfl
  have g2 := cellOf X0.out.2.1 2 _ rfl
  have z0 := frozenOf X0.out.2.1 0
  have z1 := frozenOf X0.out.2.1 1
  have z2 := frozenOf X0.out.2.1 2
  go_wp2_with fail
  refine (ca _).mono ?_
  rintro e w' ⟨rfl, hw⟩
  rw [hw]
  clear hw w' ca
  go_wp2_with fail
  refine bodyPost_ret (v := .tuple #[.agg #[.bool s, .int .u64 (c : Int), .int .u64 (t : Int)], .bool false]) (by simp [results, Try.results9, go_sem, g0, g1, g2]) rfl ⟨rfl, ?_⟩
  exact X0.out.res _ _ _
/-- how the call's memory stands behind i bytes -/
def Sto (w V : World) (C : Array Value) (g k v : Nat) : Prop := Two w V C #[.bool false, .int .u64 0, .int .u64 0] ∧ w.heap.size < g ∧ ∀ j, j < k → V.cell? ⟨g, j, none⟩ = some (.int .u8 (byteAt v j : Nat))
theorem Sto.step {w V V' : World} {C : Array Value} {g k v : Nat} (h : Sto w V C g k v) (hb : Below V.heap.size V V') : Sto w V' C g k v :=
  ⟨h.1.step hb, h.2.1, fun j hj => by rw [hb.cell (p := ⟨g, j, none⟩) (block_lt_of_cell (h.2.2 j hj))]; exact h.2.2 j hj⟩
theorem Sto.put {w V : World} {x0 x1 x2 : Value} {g k v : Nat} (h : Sto w V #[x0, x1, x2] g k v) (u0 u1 u2 : Value) : Sto w (((V.setCell ⟨w.heap.size, 0, none⟩ u0).setCell ⟨w.heap.size, 1, none⟩ u1).setCell ⟨w.heap.size, 2, none⟩ u2) #[u0, u1, u2] g k v := by
  have hu : Upon w.heap.size V (((V.setCell ⟨w.heap.size, 0, none⟩ u0).setCell ⟨w.heap.size, 1, none⟩ u1).setCell ⟨w.heap.size, 2, none⟩ u2) := (((Upon.refl _ _).set 0 u0).set 1 u1).set 2 u2
  refine ⟨((h.1.set 0 u0).set 1 u1).set 2 u2, h.2.1, fun j hj => hu.cell (h.2.2 j hj) ?_⟩
  have := h.2.1
  show g ≠ w.heap.size
  omega
set_option maxHeartbeats 2000000 in
theorem dstore_yes (s : Bool) (c t a k v : Nat) (hc : c < 18446744073709551616) (ht : t < 18446744073709551616) (hv : v < 18446744073709551616) (h : mayB a k = true) (w : World) : Calls Try.prog 9 #[.agg #[.bool s, .int .u64 (c : Int), .int .u64 (t : Int)], .int .u64 (a : Int), .int .i64 (k : Int), .int .u64 (v : Int)] w fun e w' => e = .returned (.tuple #[.agg (stC s c t a k v), .bool true]) ∧ Below w.heap.size w w' := by
  obtain ⟨k', hk1, hk2, hk3, hk4, hk5⟩ := mayB_k h
  obtain rfl : k' = k := by omega
  have ca : ∀ w, Calls Try.prog 19 #[.int .u64 (a : Int), .int .i64 (k' : Int)] w fun e w' => e = .returned (.bool true) ∧ w' = w := fun w => by
    have h1 := dmay_any a k' (by omega) w
    rw [h] at h1
    exact h1
  have cb : ∀ V, Calls Try.prog 20 #[.int .u64 (v : Int), .int .i64 (k' : Int)] V fun e w' => ∃ x, e = .returned x ∧ w'.ownsRow V.heap.size 5 1 x k' (rowK .u8 (byteAt v) k') ∧ Below V.heap.size V w' := fun V => rbytes_any v k' k' hv (by omega) V
  have HS : Hid (∀ i, i < k' → ∀ V, Calls Try.prog 21 #[.agg (stC s c t a i v), .int .u64 ((a : Int) + (i : Nat)), .int .u8 (byteAt v i : Nat)] V fun e w' => e = .returned (.agg (stC s c t a (i + 1) v)) ∧ Below V.heap.size V w') := fun i hi V => set_more s c t a v k' i hc ht h hi V
  have HK : Hid (0 < k' ∧ k' ≤ 8 ∧ a + k' ≤ 65536) := ⟨by omega, by omega, hk5⟩
  have X0 : Hid (Two w ((w.alloc (.cells #[.bool s, .int .u64 (c : Int), .int .u64 (t : Int)] 28)).alloc (.cells #[.bool false, .int .u64 0, .int .u64 0] 28)) #[.bool s, .int .u64 (c : Int), .int .u64 (t : Int)] #[.bool false, .int .u64 0, .int .u64 0]) := Two.new w _ _
  rw [← stC_zero s c t a v hc ht] at X0
  have HZ : Hid (#[.bool s, .int .u64 (c : Int), .int .u64 (t : Int)] = stC s c t a 0 v) := (stC_zero s c t a v hc ht).symm
  clear h hk1 hk2 hk3 hk4 hk5 hc ht hv
  obtain ⟨D, hD⟩ : ∃ D, stC s c t a k' v = D := ⟨_, rfl⟩
  have HD : Hid (stC s c t a k' v = D) := hD
  rw [hD]
  obtain ⟨d0, d1, d2, rfl⟩ : ∃ (d0 : Bool) (d1 d2 : Nat), D = #[.bool d0, .int .u64 (d1 : Int), .int .u64 (d2 : Int)] := ⟨_, _, _, hD.symm⟩
  clear hD
  go_enter Try.func9, Try.ntmps9
  go_upto_region 1 with fail
  rw [HZ.out]
  generalize (w.alloc (.cells (stC s c t a 0 v) 28)).alloc (.cells #[.bool false, .int .u64 0, .int .u64 0] 28) = V0 at *
  go_wp2_with fail
  refine (ca _).mono ?_
  rintro e w' ⟨rfl, hw⟩
  rw [hw]
  clear hw w' ca
  go_wp2_with fail
  refine (cb _).mono ?_
  rintro e w1 ⟨x, rfl, hown, hb1⟩
  rcases hown.2 with ⟨_, h64⟩ | ⟨g, cap, cur, rfl, hg, hbl, hnc, hcm, _, _⟩
  · have := HK.out; omega
  have X1 : Hid (Sto w w1 (stC s c t a 0 v) g k' v) := ⟨X0.out.step hb1, by have := X0.out.2.2.size; have := (Array.getElem?_eq_some_iff.1 X0.out.2.1).1; show w.heap.size < g; omega, fun j hj => by rw [hown.cellAt j (by omega)]; exact rowK_get _ _ _ _ hj⟩
  clear hown hb1 hg hbl hnc hcm cb X0 HZ
  go_wp2_with fail
  go_loopw [11] (fun i wr => ∃ j : Nat, j ≤ k' ∧ i = .int .i64 j ∧ Sto w wr (stC s c t a j v) g k' v) (fun i _ => 8 - (intOf i).toNat)
  case atStart => exact ⟨0, by omega, rfl, X1.out⟩
  case round =>
    obtain ⟨j, hj, rfl, hX⟩ := hrel
    have X : Hid (Sto w wr (stC s c t a j v) g k' v) := hX
    clear hX X1
    by_cases hlt : j < k'
    · have hl1 : (j : Int) < (k' : Int) := by omega
      have hb8 : j < 8 ∧ a + j < 65536 := by have := HK.out; omega
      have hwa : IntKind.u64.wrap ((a : Int) + (j : Int)) = (a : Int) + (j : Int) := by rw [wrap_u64]; omega
      have hwj : IntKind.u64.wrap (j : Int) = (j : Int) := by rw [wrap_u64]; omega
      have hcs := HS.out j hlt
      have hcell := X.out.2.2 j hlt
      obtain ⟨C, hC⟩ : ∃ C, stC s c t a (j + 1) v = C := ⟨_, rfl⟩
      have HC : Hid (stC s c t a (j + 1) v = C) := hC
      rw [hC] at hcs
      obtain ⟨q0, q1, q2, rfl⟩ : ∃ (q0 : Bool) (q1 q2 : Nat), C = #[.bool q0, .int .u64 (q1 : Int), .int .u64 (q2 : Int)] := ⟨_, _, _, hC.symm⟩
      clear hC
      obtain ⟨D, hD⟩ : ∃ D, stC s c t a j v = D := ⟨_, rfl⟩
      rw [hD] at hcs X
      obtain ⟨r0, r1, r2, rfl⟩ : ∃ (r0 : Bool) (r1 r2 : Nat), D = #[.bool r0, .int .u64 (r1 : Int), .int .u64 (r2 : Int)] := ⟨_, _, _, hD.symm⟩
      clear hD
      have f0 := cellOf X.out.1.1 0 _ rfl
      have f1 := cellOf X.out.1.1 1 _ rfl
      have f2 := cellOf X.out.1.1 2 _ rfl
      have z0 := frozenOf X.out.1.1 0
      have z1 := frozenOf X.out.1.1 1
      have z2 := frozenOf X.out.1.1 2
      go_upto_region 7 with fail
      go_region_with (first | (go_at_call 21; (with_reducible refine Calls.mono (hcs _) ?_); rintro e w4 ⟨rfl, hb4⟩; have X4 : Hid (Sto w w4 #[.bool r0, .int .u64 (r1 : Int), .int .u64 (r2 : Int)] g k' v) := (X.out.step (Below.drew (Below.refl _ _))).step hb4; obtain ⟨v0, v1, v2⟩ : _ ∧ _ ∧ _ := ⟨cellOf X4.out.1.1 0 _ rfl, cellOf X4.out.1.1 1 _ rfl, cellOf X4.out.1.1 2 _ rfl⟩; obtain ⟨u0, u1, u2⟩ : _ ∧ _ ∧ _ := ⟨frozenOf X4.out.1.1 0, frozenOf X4.out.1.1 1, frozenOf X4.out.1.1 2⟩; clear hb4))
      all_goals
        have X5 : Hid (Sto w (((w4.setCell ⟨w.heap.size, 0, none⟩ (.bool q0)).setCell ⟨w.heap.size, 1, none⟩ (.int .u64 (q1 : Int))).setCell ⟨w.heap.size, 2, none⟩ (.int .u64 (q2 : Int))) #[.bool q0, .int .u64 (q1 : Int), .int .u64 (q2 : Int)] g k' v) := X4.out.put _ _ _
        clear f0 f1 f2 z0 z1 z2 hcell hcs v0 v1 v2 u0 u1 u2
        go_wp2_with fail
        go_roundw
        case rel => exact ⟨j + 1, by omega, by go_num, by rw [HC.out]; exact X5.out⟩
        case measure => simp [intOf]; omega
    · obtain rfl : j = k' := by omega
      rw [HD.out] at X
      clear HS
      have f0 := cellOf X.out.1.1 0 _ rfl
      have f1 := cellOf X.out.1.1 1 _ rfl
      have f2 := cellOf X.out.1.1 2 _ rfl
      have g0 := cellOf X.out.1.2.1 0 _ rfl
      have g1 := cellOf X.out.1.2.1 1 _ rfl
      have g2 := cellOf X.out.1.2.1 2 _ rfl
      have z0 := frozenOf X.out.1.2.1 0
      have z1 := frozenOf X.out.1.2.1 1
      have z2 := frozenOf X.out.1.2.1 2
      go_wp2_with fail
      refine bodyPost_ret (v := .tuple #[.agg #[.bool d0, .int .u64 (d1 : Int), .int .u64 (d2 : Int)], .bool true]) (by simp [results, Try.results9, go_sem, g0, g1, g2]) rfl ⟨rfl, ?_⟩
      exact X.out.1.res _ _ _
end Go.Proofs.Ytaiagfdlglidfaa
