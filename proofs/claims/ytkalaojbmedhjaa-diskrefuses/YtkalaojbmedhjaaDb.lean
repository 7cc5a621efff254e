/- The document's disk: New, lay. -/
import Derived.Test.YtkalaojbmedhjaaDa
namespace Go.Proofs.Ytkalaojbmedhjaa
open Go.RowKit Go.Maps
set_option linter.unusedVariables false
set_option linter.unusedSimpArgs false
set_option maxRecDepth 100000
theorem RowAt.put {w : World} {q N : Nat} {h : Nat → Nat} (hr : RowAt w q N h) (k b : Nat) : RowAt (w.setCell ⟨q, k, none⟩ (.int .u8 (b : Nat))) q N (fun a => if a = k then b else h a) := by
  have h1 := heap_setCell_same w q k (rowK .u8 h N).toArray 5 (.int .u8 (b : Nat)) hr
  unfold RowAt
  rw [h1, ← rowK_set]
  simp
theorem RowAt.cell {w : World} {q N : Nat} {h : Nat → Nat} (hr : RowAt w q N h) (k : Nat) (hk : k < N) : w.cell? ⟨q, k, none⟩ = some (.int .u8 (h k : Nat)) := cellOf hr k _ (by rw [List.getElem?_toArray]; exact rowK_get _ _ _ _ hk)
theorem RowAt.frozen {w : World} {q N : Nat} {h : Nat → Nat} (hr : RowAt w q N h) (k : Nat) : w.frozen? ⟨q, k, none⟩ = false := frozenOf hr k
/-- the document's two boxes, and a row that is being made -/
def Ly (w W : World) (K : Dk) (g N q R : Nat) (h : Nat → Nat) : Prop := Tw w W (docC K g N) zeroC ∧ RowAt W q R h ∧ w.heap.size + 1 < q
theorem Ly.put {w W : World} {K : Dk} {g N q R : Nat} {h : Nat → Nat} (H : Ly w W K g N q R h) (k b : Nat) : Ly w (W.setCell ⟨q, k, none⟩ (.int .u8 (b : Nat))) K g N q R (fun a => if a = k then b else h a) := by
  obtain ⟨⟨h1, h2, h3⟩, h4, h5⟩ := H
  exact ⟨⟨h1.other k _ (by omega), h2.other k _ (by omega), h3.setCell (by simp; omega) _⟩, h4.put k b, h5⟩
theorem Ly.congr {w W : World} {K : Dk} {g N q R : Nat} {h h' : Nat → Nat} (H : Ly w W K g N q R h) (e : ∀ i, i < R → h i = h' i) : Ly w W K g N q R h' := ⟨H.1, H.2.1.congr e, H.2.2⟩
theorem layN_at (M : Nat → Nat) (N x n L : Nat) (f : Nat → Nat) (a : Nat) (h : a < N) : layN M N x n L f a = if x ≤ a ∧ a < x + n then (if a - x < L then f (a - x) else 0) else M a := by unfold layN; rw [if_pos h]
theorem dnew4 (l : Bool) (w : World) : Calls Try.prog 26 #[.int .u64 4, .bool l] w fun e w' => ∃ g, e = .returned (.agg (docC (newK 4 l) g 2048)) ∧ DocAt w' g 2048 (newK 4 l) ∧ w.heap.size ≤ g ∧ Below w.heap.size w w' := by
  obtain ⟨i0, hi, hz0, hz1, hz2⟩ := info_parts Try.info5
  go_enter Try.func26, Try.ntmps26
  go_upto_region 0 with fail
  refine wp_region_list ?_
  refine wpList_alloc_zero 28 zeroC 5 zinfo28 rfl rfl ?_
  have b1 : Below w.heap.size w (w.alloc (.cells zeroC 28)) := (Below.refl _ _).alloc (Nat.le_refl _) _
  have X : Hid (Box 28 (w.alloc (.cells zeroC 28)) w.heap.size zeroC ∧ Below w.heap.size w (w.alloc (.cells zeroC 28))) := ⟨Box.new 28 w _, b1⟩
  clear b1
  generalize w.alloc (.cells zeroC 28) = W at *
  go_wp2_with (first | (at_make; refine wpList_make_full _ rfl _ _ 25 rfl W.heap.size 5 i0 (.int .u8 0) 1 Try.underlying25 hi hz0 hz1 _ _ _ _ 2048 rfl rfl ?m1 ?m2 ?m3 ?m4 ?m5 ?_))
  case m1 => rfl
  case m2 => rfl
  case m3 => rw [hz2]; omega
  case m4 => unfold maxLen; omega
  case m5 => omega
  intro w1 hown0 hgrow0
  have hb0 : Below W.heap.size W w1 := Below.grown (Below.refl _ _) hgrow0 (Nat.le_refl _) (by simp)
  rw [toList_madeCells_one, rowK_zero] at hown0
  have hrow := whole_row hown0
  have Y : Hid (RowAt w1 W.heap.size 2048 (fun _ => 0) ∧ Below W.heap.size W w1 ∧ Box 28 w1 w.heap.size zeroC) := ⟨hrow, hb0, X.out.1.step hb0⟩
  clear hown0 hgrow0 hb0 hrow
  have hlt := X.out.1.lt
  generalize W.heap.size = q at *
  (refine wpList_step (fun KK hKK => ?_); go_simp; refine hKK _ _ ?_; clear hKK KK)
  (refine wpList_step (fun KK hKK => ?_); go_simp; refine hKK _ _ ?_; clear hKK KK)
  refine wpList_store28 rfl _ _ rfl w.heap.size (newK 4 l) q 2048 zeroC rfl rfl Y.out.2.2 rfl ?_
  intro W9 B9 U9
  have Z : Hid (Box 28 W9 w.heap.size (docC (newK 4 l) q 2048) ∧ DocAt W9 q 2048 (newK 4 l) ∧ Below w.heap.size w W9) := by
    have bb : Below w.heap.size w w1 := X.out.2.trans (Y.out.2.1.mono (by omega))
    exact ⟨B9, ⟨(U9.2 q Y.out.1.lt (by omega)).trans Y.out.1, rfl, newK_ok 4 l (by omega)⟩, bb.trans (U9.below (Nat.le_refl _) bb.size)⟩
  clear B9 U9
  go_wp2_with fail
  exact bodyPost_ret (v := .agg (docC (newK 4 l) q 2048)) (results1 (p := 4) rfl _ _ w.heap.size (newK 4 l) q 2048 rfl Z.out.1) rfl ⟨q, rfl, Z.out.2.1, by omega, Z.out.2.2⟩
set_option maxHeartbeats 4000000 in
theorem dlay_any (K : Dk) (g N X n L : Nat) (f : Nat → Nat) (v : Value) (w : World) (hd : DocAt w g N K) (hr : Reads .u8 w v L f) (hf : ∀ i, f i ≤ 255) (hX : X ≤ 33554432) (hn : n ≤ 1099511627776) (hL : L ≤ 1099511627776) :
    Calls Try.prog 45 #[.agg (docC K g N), .int .i64 (X : Nat), v, .int .i64 (n : Nat)] w fun e w' => ∃ q, e = .returned (.agg (docC { K with M := layN K.M N X n L f } q N)) ∧ DocAt w' q N { K with M := layN K.M N X n L f } ∧ w.heap.size ≤ q ∧ Below w.heap.size w w' := by
  obtain ⟨i0, hi, hz0, hz1, hz2⟩ := info_parts Try.info5
  obtain ⟨av, cv, rfl⟩ := reads_form hr
  have hN : N ≤ 33554432 := by have := hd.2.1; have := hd.2.2.cnt; omega
  have H : Hid (DocAt w g N K ∧ Reads .u8 w (.slice av L cv) L f ∧ (∀ i, f i ≤ 255)) := ⟨hd, hr, hf⟩
  clear hd hr hf
  go_enter Try.func45, Try.ntmps45
  go_upto_region 0 with fail
  refine wp_region_list ?_
  refine wpList_enter2 K g N _ rfl rfl rfl rfl rfl ?_
  intro W hT
  have T0 : Hid (Tw w W (docC K g N) zeroC) := hT
  clear hT
  have c0 := T0.out.1.cell 0 (.slice (some ⟨g, 0, none⟩) N N) rfl
  go_wp2_with (first | (at_make; refine wpList_make_full _ rfl _ _ 25 rfl W.heap.size 5 i0 (.int .u8 0) 1 Try.underlying25 hi hz0 hz1 _ _ _ _ N rfl rfl ?m1 ?m2 ?m3 ?m4 ?m5 ?_))
  case m1 => rfl
  case m2 => rfl
  case m3 => rw [hz2]; omega
  case m4 => unfold maxLen; omega
  case m5 => omega
  intro w1 hown0 hgrow0
  have hb0 : Below W.heap.size W w1 := Below.grown (Below.refl _ _) hgrow0 (Nat.le_refl _) (by simp)
  rw [toList_madeCells_one, rowK_zero] at hown0
  have hrow := whole_row hown0
  have Y : Hid (Ly w w1 K g N W.heap.size N (fun _ => 0)) := ⟨T0.out.step hb0, hrow, T0.out.lt⟩
  clear hown0 hgrow0 hb0 hrow T0 c0
  generalize W.heap.size = q at *
  go_wp2
  go_loopw [10] (fun i wr => ∃ k, k ≤ N ∧ i = .int .i64 ((k : Nat) : Int) ∧ Ly w wr K g N q N (fun a => if a < k then layN K.M N X n L f a else 0)) (fun i _ => N - (intOf i).toNat)
  case atStart => exact ⟨0, Nat.zero_le _, rfl, Y.out.congr (fun i _ => by rw [if_neg (by omega)])⟩
  case round =>
    obtain ⟨k, hk, rfl, hly⟩ := hrel
    clear Y
    by_cases hlt : k < N
    · have hkN : (k : Int) < N := by omega
      have c0 := hly.1.1.cell 0 (.slice (some ⟨g, 0, none⟩) N N) rfl
      have cg : wr.cell? ⟨g, k, none⟩ = some (.int .u8 (K.M k : Nat)) := (hly.1.2.2.cell (p := ⟨g, k, none⟩) H.out.1.lt).trans (H.out.1.cell k hlt)
      have cq := hly.2.1.cell k hlt
      have fq := hly.2.1.frozen k
      have L0 : Hid (Ly w wr K g N q N (fun a => if a < k then layN K.M N X n L f a else 0)) := hly
      clear hly
      go_upto_region 6 with fail
      have L1 : Hid (Ly w (wr.setCell ⟨q, k, none⟩ (.int .u8 (K.M k : Nat))) K g N q N (fun a => if a = k then K.M k else if a < k then layN K.M N X n L f a else 0)) := L0.out.put k (K.M k)
      clear c0 cg cq fq L0
      generalize wr.setCell ⟨q, k, none⟩ (.int .u8 (K.M k : Nat)) = w2 at *
      by_cases h1 : X ≤ k ∧ k < X + n
      · obtain ⟨d, hd⟩ : ∃ d, k = X + d := ⟨k - X, by omega⟩
        have h1a : (X : Int) ≤ k := by omega
        have h1b : (k : Int) < (X : Int) + (n : Int) := by omega
        have e1 : (k : Int) - (X : Int) = (d : Nat) := by omega
        have cq := L1.out.2.1.cell k hlt
        have fq := L1.out.2.1.frozen k
        rw [if_pos rfl] at cq
        have HD : Hid (k = X + d ∧ X ≤ k ∧ k < X + n) := ⟨hd, h1⟩
        clear hd h1
        go_upto_region 8 with fail
        have L2 : Hid (Ly w (w2.setCell ⟨q, k, none⟩ (.int .u8 ((0 : Nat) : Int))) K g N q N (fun a => if a = k then 0 else if a = k then K.M k else if a < k then layN K.M N X n L f a else 0)) := L1.out.put k 0
        rw [show (Value.int .u8 ((0 : Nat) : Int)) = Value.int .u8 0 from rfl] at L2
        clear cq fq L1
        generalize w2.setCell ⟨q, k, none⟩ (.int .u8 0) = w3 at *
        by_cases h2 : d < L
        · have h2a : (d : Int) < (L : Int) := by omega
          obtain ⟨bd, od, cd, ev, hcd⟩ := reads_some (reads_below H.out.2.1 L2.out.1.2.2) (by omega)
          simp only [Value.slice.injEq] at ev
          obtain ⟨rfl, -, rfl⟩ := ev
          have cd := hcd d h2
          have cq := L2.out.2.1.cell k hlt
          have fq := L2.out.2.1.frozen k
          rw [if_pos rfl] at cq
          clear hcd
          go_wp2_with fail
          have L3 : Hid (Ly w (w3.setCell ⟨q, k, none⟩ (.int .u8 (f d : Nat))) K g N q N (fun a => if a = k then f d else if a = k then 0 else if a = k then K.M k else if a < k then layN K.M N X n L f a else 0)) := L2.out.put k (f d)
          clear cd cq fq L2
          generalize w3.setCell ⟨q, k, none⟩ (.int .u8 (f d : Nat)) = w4 at *
          go_roundw
          case rel =>
            refine ⟨k + 1, by omega, by go_num, L3.out.congr (fun a ha => ?_)⟩
            obtain ⟨hd, g1, g2⟩ := HD.out
            by_cases e : a = k
            · subst e
              rw [if_pos rfl, if_pos (by omega), layN_at _ _ _ _ _ _ _ ha, if_pos ⟨g1, g2⟩, if_pos (by omega)]
              congr 1; omega
            · rw [if_neg e, if_neg e, if_neg e]
              by_cases e2 : a < k
              · rw [if_pos e2, if_pos (by omega)]
              · rw [if_neg e2, if_neg (by omega)]
          case measure => simp [intOf]; omega
        · have h2a : ¬ (d : Int) < (L : Int) := by omega
          go_wp2_with fail
          go_roundw
          case rel =>
            refine ⟨k + 1, by omega, by go_num, L2.out.congr (fun a ha => ?_)⟩
            obtain ⟨hd, g1, g2⟩ := HD.out
            by_cases e : a = k
            · subst e
              rw [if_pos rfl, if_pos (by omega), layN_at _ _ _ _ _ _ _ ha, if_pos ⟨g1, g2⟩, if_neg (by omega)]
            · rw [if_neg e, if_neg e]
              by_cases e2 : a < k
              · rw [if_pos e2, if_pos (by omega)]
              · rw [if_neg e2, if_neg (by omega)]
          case measure => simp [intOf]; omega
      · have HN : Hid (¬ (X ≤ k ∧ k < X + n)) := h1
        have fin : ∀ V, Ly w V K g N q N (fun a => if a = k then K.M k else if a < k then layN K.M N X n L f a else 0) → Ly w V K g N q N (fun a => if a < k + 1 then layN K.M N X n L f a else 0) := fun V hV => hV.congr (fun a ha => by
            by_cases e : a = k
            · subst e
              rw [if_pos rfl, if_pos (by omega), layN_at _ _ _ _ _ _ _ ha, if_neg h1]
            · rw [if_neg e]
              by_cases e2 : a < k
              · rw [if_pos e2, if_pos (by omega)]
              · rw [if_neg e2, if_neg (by omega)])
        have L2 : Hid (Ly w w2 K g N q N (fun a => if a < k + 1 then layN K.M N X n L f a else 0)) := fin _ L1.out
        clear fin L1 h1
        by_cases h3 : X ≤ k
        · have h3a : (X : Int) ≤ k := by omega
          have h3b : ¬ (k : Int) < (X : Int) + (n : Int) := by have := HN.out; omega
          go_wp2_with fail
          go_roundw
          case rel => exact ⟨k + 1, by omega, by go_num, L2.out⟩
          case measure => simp [intOf]; omega
        · have h3a : ¬ (X : Int) ≤ k := by omega
          go_wp2_with fail
          go_roundw
          case rel => exact ⟨k + 1, by omega, by go_num, L2.out⟩
          case measure => simp [intOf]; omega
    · obtain rfl : k = N := by omega
      have L1 : Hid (Ly w wr K g k q k (layN K.M k X n L f)) := hly.congr (fun i hi => by rw [if_pos hi])
      clear hly
      have c0 := L1.out.1.1.cell 0 (.slice (some ⟨g, 0, none⟩) k k) rfl
      have f0 := L1.out.1.1.frozen 0
      go_upto_region 11 with fail
      have Z1 : Hid (Tw w (wr.setCell ⟨w.heap.size, 0, none⟩ (.slice (some ⟨q, 0, none⟩) k k)) (docC { K with M := layN K.M k X n L f } q k) zeroC ∧ RowAt (wr.setCell ⟨w.heap.size, 0, none⟩ (.slice (some ⟨q, 0, none⟩) k k)) q k (layN K.M k X n L f)) := by
        refine ⟨L1.out.1.set 0 _, ?_⟩
        have := L1.out.2.2
        exact (heap_setCell_other wr ⟨w.heap.size, 0, none⟩ q _ (by simp; omega)).trans L1.out.2.1
      clear c0 f0
      generalize wr.setCell ⟨w.heap.size, 0, none⟩ (.slice (some ⟨q, 0, none⟩) k k) = w2 at *
      refine wp_region_list ?_
      refine wpList_load28 rfl _ rfl w.heap.size { K with M := layN K.M k X n L f } q k rfl Z1.out.1.1 ?_
      refine wpList_store28 rfl _ _ rfl (w.heap.size + 1) { K with M := layN K.M k X n L f } q k zeroC rfl rfl Z1.out.1.2.1 rfl ?_
      intro W9 B9 U9
      have Z : Hid (Box 28 W9 (w.heap.size + 1) (docC { K with M := layN K.M k X n L f } q k) ∧ DocAt W9 q k { K with M := layN K.M k X n L f } ∧ Below w.heap.size w W9 ∧ w.heap.size ≤ q) := by
        have hq := L1.out.2.2
        refine ⟨B9, ⟨(U9.2 q Z1.out.2.lt (by omega)).trans Z1.out.2, H.out.1.2.1, ?_⟩, (Z1.out.1.res B9 U9).2.2, by omega⟩
        have hK := H.out.1.2.2
        exact ⟨hK.cnt, hK.req, hK.flu, hK.fai, layN_le _ _ _ _ _ hK.le H.out.2.2, fun a ha => layN_out _ _ _ _ _ _ _ (by rw [H.out.1.2.1]; exact ha)⟩
      clear B9 U9 Z1
      go_wp2_with fail
      exact bodyPost_ret (v := .agg (docC { K with M := layN K.M k X n L f } q k)) (results1 (p := 8) rfl _ _ (w.heap.size + 1) _ q k rfl Z.out.1) rfl ⟨q, rfl, Z.out.2.1, Z.out.2.2.2, Z.out.2.2.1⟩
end Go.Proofs.Ytkalaojbmedhjaa
