/- The document's disk: Read, Write, Flush, Fill. -/
import Derived.Test.YtkalaojbmedhjaaDb
namespace Go.Proofs.Ytkalaojbmedhjaa
open Go.RowKit Go.Maps
set_option linter.unusedVariables false
set_option linter.unusedSimpArgs false
set_option maxRecDepth 100000
set_option maxHeartbeats 2000000 in
theorem dread_bad (K : Dk) (g N x n : Nat) (w : World) (hd : DocAt w g N K) (hx : x < 18446744073709551616) (hn : n < 18446744073709551616) (hE : readE K x n ≠ 0) : Calls Try.prog 34 #[.agg (docC K g N), .int .u64 (x : Nat), .int .u64 (n : Nat)] w fun e w' => e = .returned (.tuple #[.agg (docC (askK K) g N), .slice none 0 0, .int .i64 (readE K x n : Nat)]) ∧ Below w.heap.size w w' := by
  by_cases hf : K.fail = 1
  · have e : readE K x n = 133 := by unfold readE; rw [if_pos hf]
    rw [e]
    have C : Hid (∀ V, Calls Try.prog 43 #[.agg (docC K g N)] V fun e w' => e = .returned (.tuple #[.agg (docC (askK K) g N), .int .i64 133]) ∧ Below V.heap.size V w') := fun V => by
      have := dask_any K g N hd.2.2 V
      rw [askE_pos hf] at this
      exact this
    clear hE e hf hd
    go_enter Try.func34, Try.ntmps34
    go_upto_region 0 with fail
    refine wp_region_list ?_
    refine wpList_enter2 K g N _ rfl rfl rfl rfl rfl ?_
    intro W hT
    have T0 : Hid (Tw w W (docC K g N) zeroC) := hT
    clear hT
    go_upto_region 1 with fail
    refine wp_region_list ?_
    refine wpList_load28 rfl _ rfl w.heap.size K g N rfl T0.out.1 ?_
    refine wpList_step (fun KK hKK => ?_)
    go_simp
    refine (C.out _).mono ?_
    rintro e w2 ⟨rfl, hb2⟩
    have T2 : Hid (Tw w w2 (docC K g N) zeroC) := T0.out.step hb2
    clear hb2 T0
    refine hKK _ _ ?_
    clear hKK KK
    (refine wpList_step (fun KK hKK => ?_); go_simp; refine hKK _ _ ?_; clear hKK KK)
    refine wpList_extract_at rfl _ _ _ _ rfl rfl rfl ?_
    refine wpList_extract_at rfl _ _ _ _ rfl rfl rfl ?_
    refine wpList_store28 rfl _ _ rfl w.heap.size (askK K) g N (docC K g N) rfl rfl T2.out.1 rfl ?_
    intro W3 B3 U3
    have T3 : Hid (Tw w W3 (docC (askK K) g N) zeroC) := T2.out.own B3 U3
    clear B3 U3 T2
    go_upto_region 5 with fail
    refine wp_region_list ?_
    refine wpList_load28 rfl _ rfl w.heap.size (askK K) g N rfl T3.out.1 ?_
    (refine wpList_step (fun KK hKK => ?_); go_simp; refine hKK _ _ ?_; clear hKK KK)
    refine wpList_store28 rfl _ _ rfl (w.heap.size + 1) (askK K) g N zeroC rfl rfl T3.out.2.1 rfl ?_
    intro W9 B9 U9
    have T9 : Hid (Tw w W9 (docC (askK K) g N) (docC (askK K) g N)) := T3.out.res B9 U9
    clear B9 U9
    go_wp2_with fail
    exact bodyPost_ret (v := .tuple #[.agg (docC (askK K) g N), .slice none 0 0, .int .i64 133]) (results3 (p := 6) (t := 7) (u := 8) rfl _ _ (w.heap.size + 1) (askK K) g N rfl T9.out.2.1) rfl ⟨rfl, T9.out.2.2⟩
  · have e : readE K x n = pieceE K.count x n := by unfold readE; rw [if_neg hf]
    rw [e] at hE ⊢
    obtain ⟨q, hp⟩ : ∃ q, pieceE K.count x n = q := ⟨_, rfl⟩
    rw [hp] at hE ⊢
    have n1 : ((q : Int) == 0) = false := by simp; omega
    have n2 : (q : Int) ≠ 0 := by omega
    have C : Hid (∀ V, Calls Try.prog 43 #[.agg (docC K g N)] V fun e w' => e = .returned (.tuple #[.agg (docC (askK K) g N), .int .i64 0]) ∧ Below V.heap.size V w') := fun V => by
      have := dask_any K g N hd.2.2 V
      rw [askE_neg hf] at this
      exact this
    have P : Hid (∀ V, Calls Try.prog 44 #[.agg (docC (askK K) g N), .int .u64 (x : Nat), .int .u64 (n : Nat)] V fun e w' => e = .returned (.int .i64 (q : Nat)) ∧ Below V.heap.size V w') := fun V => by
      have := dpiece_any (askK K) g N x n hd.2.1 hd.2.2.cnt hx (by omega) V
      rw [show (askK K).count = K.count from rfl, hp] at this
      exact this
    clear hE e hf hd hp
    go_enter Try.func34, Try.ntmps34
    go_upto_region 0 with fail
    refine wp_region_list ?_
    refine wpList_enter2 K g N _ rfl rfl rfl rfl rfl ?_
    intro W hT
    have T0 : Hid (Tw w W (docC K g N) zeroC) := hT
    clear hT
    go_upto_region 1 with fail
    refine wp_region_list ?_
    refine wpList_load28 rfl _ rfl w.heap.size K g N rfl T0.out.1 ?_
    refine wpList_step (fun KK hKK => ?_)
    go_simp
    refine (C.out _).mono ?_
    rintro e w2 ⟨rfl, hb2⟩
    have T2 : Hid (Tw w w2 (docC K g N) zeroC) := T0.out.step hb2
    clear hb2 T0
    refine hKK _ _ ?_
    clear hKK KK
    (refine wpList_step (fun KK hKK => ?_); go_simp; refine hKK _ _ ?_; clear hKK KK)
    refine wpList_extract_at rfl _ _ _ _ rfl rfl rfl ?_
    refine wpList_extract_at rfl _ _ _ _ rfl rfl rfl ?_
    refine wpList_store28 rfl _ _ rfl w.heap.size (askK K) g N (docC K g N) rfl rfl T2.out.1 rfl ?_
    intro W3 B3 U3
    have T3 : Hid (Tw w W3 (docC (askK K) g N) zeroC) := T2.out.own B3 U3
    clear B3 U3 T2
    go_upto_region 3 with fail
    refine wp_region_list ?_
    refine wpList_load28 rfl _ rfl w.heap.size (askK K) g N rfl T3.out.1 ?_
    (refine wpList_step (fun KK hKK => ?_); go_simp; refine hKK _ _ ?_; clear hKK KK)
    (refine wpList_step (fun KK hKK => ?_); go_simp; refine hKK _ _ ?_; clear hKK KK)
    refine wpList_step (fun KK hKK => ?_)
    go_simp
    refine (P.out _).mono ?_
    rintro e w4 ⟨rfl, hb4⟩
    have T4 : Hid (Tw w w4 (docC (askK K) g N) zeroC) := T3.out.step hb4
    clear hb4 T3
    refine hKK _ _ ?_
    clear hKK KK
    go_upto_region 5 with fail
    refine wp_region_list ?_
    refine wpList_load28 rfl _ rfl w.heap.size (askK K) g N rfl T4.out.1 ?_
    (refine wpList_step (fun KK hKK => ?_); go_simp; refine hKK _ _ ?_; clear hKK KK)
    refine wpList_store28 rfl _ _ rfl (w.heap.size + 1) (askK K) g N zeroC rfl rfl T4.out.2.1 rfl ?_
    intro W9 B9 U9
    have T9 : Hid (Tw w W9 (docC (askK K) g N) (docC (askK K) g N)) := T4.out.res B9 U9
    clear B9 U9
    go_wp2_with fail
    exact bodyPost_ret (v := .tuple #[.agg (docC (askK K) g N), .slice none 0 0, .int .i64 (q : Nat)]) (results3 (p := 6) (t := 7) (u := 8) rfl _ _ (w.heap.size + 1) (askK K) g N rfl T9.out.2.1) rfl ⟨rfl, T9.out.2.2⟩
set_option maxHeartbeats 4000000 in
theorem dread_good (K : Dk) (g N x n : Nat) (w : World) (hd : DocAt w g N K) (hx : x < 18446744073709551616) (hn : n < 18446744073709551616) (hE : readE K x n = 0) : Calls Try.prog 34 #[.agg (docC K g N), .int .u64 (x : Nat), .int .u64 (n : Nat)] w fun e w' => ∃ q, e = .returned (.tuple #[.agg (docC (askK K) g N), .slice (some ⟨q, 0, none⟩) n n, .int .i64 0]) ∧ RowAt w' q n (fun i => K.M (x * 512 + i)) ∧ w.heap.size ≤ q ∧ Below w.heap.size w w' := by
  obtain ⟨i0, hi, hz0, hz1, hz2⟩ := info_parts Try.info5
  have hf : K.fail ≠ 1 := fun hf => by unfold readE at hE; rw [if_pos hf] at hE; cases hE
  have hp : pieceE K.count x n = 0 := by unfold readE at hE; rwa [if_neg hf] at hE
  have C : Hid (∀ V, Calls Try.prog 43 #[.agg (docC K g N)] V fun e w' => e = .returned (.tuple #[.agg (docC (askK K) g N), .int .i64 0]) ∧ Below V.heap.size V w') := fun V => by
    have := dask_any K g N hd.2.2 V
    rw [askE_neg hf] at this
    exact this
  have P : Hid (∀ V, Calls Try.prog 44 #[.agg (docC (askK K) g N), .int .u64 (x : Nat), .int .u64 (n : Nat)] V fun e w' => e = .returned (.int .i64 0) ∧ Below V.heap.size V w') := fun V => by
    have := dpiece_any (askK K) g N x n hd.2.1 hd.2.2.cnt hx (by omega) V
    rw [show (askK K).count = K.count from rfl, hp] at this
    exact this
  have hb := (piece_zero hp).2
  have hN := hd.2.1
  have hc := hd.2.2.cnt
  have hx6 : x ≤ 65536 := by omega
  have hn6 : n ≤ 33554432 := by omega
  have hxn : x * 512 + n ≤ N := by omega
  have hN6 : N ≤ 33554432 := by omega
  have H : Hid (DocAt w g N K) := hd
  clear hE hf hd hp hb hN hc
  go_enter Try.func34, Try.ntmps34
  go_upto_region 0 with fail
  refine wp_region_list ?_
  refine wpList_enter2 K g N _ rfl rfl rfl rfl rfl ?_
  intro W hT
  have T0 : Hid (Tw w W (docC K g N) zeroC) := hT
  clear hT
  go_upto_region 1 with fail
  refine wp_region_list ?_
  refine wpList_load28 rfl _ rfl w.heap.size K g N rfl T0.out.1 ?_
  refine wpList_step (fun KK hKK => ?_)
  go_simp
  refine (C.out _).mono ?_
  rintro e w2 ⟨rfl, hb2⟩
  have T2 : Hid (Tw w w2 (docC K g N) zeroC) := T0.out.step hb2
  clear hb2 T0
  refine hKK _ _ ?_
  clear hKK KK
  (refine wpList_step (fun KK hKK => ?_); go_simp; refine hKK _ _ ?_; clear hKK KK)
  refine wpList_extract_at rfl _ _ _ _ rfl rfl rfl ?_
  refine wpList_extract_at rfl _ _ _ _ rfl rfl rfl ?_
  refine wpList_store28 rfl _ _ rfl w.heap.size (askK K) g N (docC K g N) rfl rfl T2.out.1 rfl ?_
  intro W3 B3 U3
  have T3 : Hid (Tw w W3 (docC (askK K) g N) zeroC) := T2.out.own B3 U3
  clear B3 U3 T2
  go_upto_region 3 with fail
  refine wp_region_list ?_
  refine wpList_load28 rfl _ rfl w.heap.size (askK K) g N rfl T3.out.1 ?_
  (refine wpList_step (fun KK hKK => ?_); go_simp; refine hKK _ _ ?_; clear hKK KK)
  (refine wpList_step (fun KK hKK => ?_); go_simp; refine hKK _ _ ?_; clear hKK KK)
  refine wpList_step (fun KK hKK => ?_)
  go_simp
  refine (P.out _).mono ?_
  rintro e w4 ⟨rfl, hb4⟩
  have T4 : Hid (Tw w w4 (docC (askK K) g N) zeroC) := T3.out.step hb4
  clear hb4 T3
  refine hKK _ _ ?_
  clear hKK KK
  go_wp2_with (first | (at_make; refine wpList_make_full _ rfl _ _ 25 rfl w4.heap.size 5 i0 (.int .u8 0) 1 Try.underlying25 hi hz0 hz1 _ _ _ _ n rfl rfl ?m1 ?m2 ?m3 ?m4 ?m5 ?_))
  case m1 => rfl
  case m2 => rfl
  case m3 => rw [hz2]; omega
  case m4 => unfold maxLen; omega
  case m5 => omega
  intro w1 hown0 hgrow0
  have hb0 : Below w4.heap.size w4 w1 := Below.grown (Below.refl _ _) hgrow0 (Nat.le_refl _) (by simp)
  rw [toList_madeCells_one, rowK_zero] at hown0
  have hrow := whole_row hown0
  have Y : Hid (Ly w w1 (askK K) g N w4.heap.size n (fun _ => 0)) := ⟨T4.out.step hb0, hrow, T4.out.lt⟩
  clear hown0 hgrow0 hb0 hrow T4
  generalize w4.heap.size = q at *
  go_wp2
  go_loopw [11] (fun i wr => ∃ k, k ≤ n ∧ i = .int .i64 ((k : Nat) : Int) ∧ Ly w wr (askK K) g N q n (fun a => if a < k then K.M (x * 512 + a) else 0)) (fun i _ => n - (intOf i).toNat)
  case atStart => exact ⟨0, Nat.zero_le _, rfl, Y.out.congr (fun i _ => by rw [if_neg (by omega)])⟩
  case round =>
    obtain ⟨k, hk, rfl, hly⟩ := hrel
    clear Y
    by_cases hlt : k < n
    · have hkN : (k : Int) < n := by omega
      obtain ⟨p, hp⟩ : ∃ p, x * 512 + k = p := ⟨_, rfl⟩
      have hpN : p < N := by omega
      have hpI : (512 : Int) * (x : Int) + (k : Int) = (p : Nat) := by omega
      have hpN2 : (p : Int) < N := by omega
      have c0 := hly.1.1.cell 0 (.slice (some ⟨g, 0, none⟩) N N) rfl
      have cg : wr.cell? ⟨g, p, none⟩ = some (.int .u8 (K.M p : Nat)) := (hly.1.2.2.cell (p := ⟨g, p, none⟩) H.out.lt).trans (H.out.cell p hpN)
      have cq := hly.2.1.cell k hlt
      have fq := hly.2.1.frozen k
      have HP : Hid (x * 512 + k = p) := hp
      have L0 : Hid (Ly w wr (askK K) g N q n (fun a => if a < k then K.M (x * 512 + a) else 0)) := hly
      clear hly hp
      go_wp2_with fail
      have L1 : Hid (Ly w (wr.setCell ⟨q, k, none⟩ (.int .u8 (K.M p : Nat))) (askK K) g N q n (fun a => if a = k then K.M p else if a < k then K.M (x * 512 + a) else 0)) := L0.out.put k (K.M p)
      clear c0 cg cq fq L0
      generalize wr.setCell ⟨q, k, none⟩ (.int .u8 (K.M p : Nat)) = w5 at *
      go_roundw
      case rel =>
        refine ⟨k + 1, by omega, by go_num, L1.out.congr (fun a ha => ?_)⟩
        by_cases e : a = k
        · subst e
          rw [if_pos rfl, if_pos (by omega), HP.out]
        · rw [if_neg e]
          by_cases e2 : a < k
          · rw [if_pos e2, if_pos (by omega)]
          · rw [if_neg e2, if_neg (by omega)]
      case measure => simp [intOf]; omega
    · obtain rfl : k = n := by omega
      have L1 : Hid (Ly w wr (askK K) g N q k (fun a => K.M (x * 512 + a))) := hly.congr (fun i hi => by rw [if_pos hi])
      clear hly
      go_upto_region 11 with fail
      refine wp_region_list ?_
      refine wpList_load28 rfl _ rfl w.heap.size (askK K) g N rfl L1.out.1.1 ?_
      (refine wpList_step (fun KK hKK => ?_); go_simp; refine hKK _ _ ?_; clear hKK KK)
      refine wpList_store28 rfl _ _ rfl (w.heap.size + 1) (askK K) g N zeroC rfl rfl L1.out.1.2.1 rfl ?_
      intro W9 B9 U9
      have Z : Hid (Box 28 W9 (w.heap.size + 1) (docC (askK K) g N) ∧ RowAt W9 q k (fun i => K.M (x * 512 + i)) ∧ Below w.heap.size w W9 ∧ w.heap.size ≤ q) := by
        have hq := L1.out.2.2
        exact ⟨B9, (U9.2 q L1.out.2.1.lt (by omega)).trans L1.out.2.1, (L1.out.1.res B9 U9).2.2, by omega⟩
      clear B9 U9 L1
      go_wp2_with fail
      exact bodyPost_ret (v := .tuple #[.agg (docC (askK K) g N), .slice (some ⟨q, 0, none⟩) k k, .int .i64 0]) (results3 (p := 6) (t := 7) (u := 8) rfl _ _ (w.heap.size + 1) (askK K) g N rfl Z.out.1) rfl ⟨q, rfl, Z.out.2.1, Z.out.2.2.2, Z.out.2.2.1⟩
theorem up_whole {L : Nat} (h : L % 512 = 0) : up L = L := by unfold up; omega
set_option maxHeartbeats 4000000 in
theorem dwrite_any (K : Dk) (g N x L : Nat) (f : Nat → Nat) (v : Value) (w : World) (hd : DocAt w g N K) (hr : Reads .u8 w v L f) (hf : ∀ i, f i ≤ 255) (hx : x < 18446744073709551616) (hL : L ≤ 1099511627776) :
    Calls Try.prog 35 #[.agg (docC K g N), .int .u64 (x : Nat), v] w fun e w' => ∃ q, e = .returned (.tuple #[.agg (docC (writeK K x L f) q N), .int .i64 (writeE K x L : Nat)]) ∧ DocAt w' q N (writeK K x L f) ∧ (q = g ∨ w.heap.size ≤ q) ∧ Below w.heap.size w w' := by
  obtain ⟨av, cv, rfl⟩ := reads_form hr
  have hL2 : L < 18446744073709551616 := by omega
  have hwL : IntKind.u64.wrap (L : Int) = (L : Int) := by rw [wrap_u64]; omega
  by_cases hf1 : K.fail = 1
  · have e : writeE K x L = 133 := by unfold writeE; rw [if_pos hf1]
    have e2 : writeK K x L f = askK K := by unfold writeK; rw [e]; rfl
    rw [e, e2]
    have H : Hid (DocAt w g N (askK K)) := hd.same rfl rfl (askK_ok hd.2.2)
    have C : Hid (∀ V, Calls Try.prog 43 #[.agg (docC K g N)] V fun e w' => e = .returned (.tuple #[.agg (docC (askK K) g N), .int .i64 133]) ∧ Below V.heap.size V w') := fun V => by
      have := dask_any K g N hd.2.2 V
      rw [askE_pos hf1] at this
      exact this
    clear e e2 hf1 hd hr
    go_enter Try.func35, Try.ntmps35
    go_upto_region 0 with fail
    refine wp_region_list ?_
    refine wpList_enter2 K g N _ rfl rfl rfl rfl rfl ?_
    intro W hT
    have T0 : Hid (Tw w W (docC K g N) zeroC) := hT
    clear hT
    go_upto_region 1 with fail
    refine wp_region_list ?_
    refine wpList_load28 rfl _ rfl w.heap.size K g N rfl T0.out.1 ?_
    refine wpList_step (fun KK hKK => ?_)
    go_simp
    refine (C.out _).mono ?_
    rintro e w2 ⟨rfl, hb2⟩
    have T2 : Hid (Tw w w2 (docC K g N) zeroC) := T0.out.step hb2
    clear hb2 T0
    refine hKK _ _ ?_
    clear hKK KK
    (refine wpList_step (fun KK hKK => ?_); go_simp; refine hKK _ _ ?_; clear hKK KK)
    refine wpList_extract_at rfl _ _ _ _ rfl rfl rfl ?_
    refine wpList_extract_at rfl _ _ _ _ rfl rfl rfl ?_
    refine wpList_store28 rfl _ _ rfl w.heap.size (askK K) g N (docC K g N) rfl rfl T2.out.1 rfl ?_
    intro W3 B3 U3
    have T3 : Hid (Tw w W3 (docC (askK K) g N) zeroC) := T2.out.own B3 U3
    clear B3 U3 T2
    go_upto_region 7 with fail
    refine wp_region_list ?_
    refine wpList_load28 rfl _ rfl w.heap.size (askK K) g N rfl T3.out.1 ?_
    (refine wpList_step (fun KK hKK => ?_); go_simp; refine hKK _ _ ?_; clear hKK KK)
    refine wpList_store28 rfl _ _ rfl (w.heap.size + 1) (askK K) g N zeroC rfl rfl T3.out.2.1 rfl ?_
    intro W9 B9 U9
    have T9 : Hid (Tw w W9 (docC (askK K) g N) (docC (askK K) g N)) := T3.out.res B9 U9
    clear B9 U9
    go_wp2_with fail
    exact bodyPost_ret (v := .tuple #[.agg (docC (askK K) g N), .int .i64 133]) (results2 (p := 6) (t := 7) rfl _ _ (w.heap.size + 1) (askK K) g N rfl T9.out.2.1) rfl ⟨g, rfl, H.out.step T9.out.2.2, .inl rfl, T9.out.2.2⟩
  cases hl : K.locked with
  | true =>
    have e : writeE K x L = 132 := by unfold writeE; rw [if_neg hf1, if_pos hl]
    have e2 : writeK K x L f = askK K := by unfold writeK; rw [e]; rfl
    rw [e, e2]
    have H : Hid (DocAt w g N (askK K)) := hd.same rfl rfl (askK_ok hd.2.2)
    have C : Hid (∀ V, Calls Try.prog 43 #[.agg (docC K g N)] V fun e w' => e = .returned (.tuple #[.agg (docC (askK K) g N), .int .i64 0]) ∧ Below V.heap.size V w') := fun V => by
      have := dask_any K g N hd.2.2 V
      rw [askE_neg hf1] at this
      exact this
    clear e e2 hf1 hd hr
    go_enter Try.func35, Try.ntmps35
    go_upto_region 0 with fail
    refine wp_region_list ?_
    refine wpList_enter2 K g N _ rfl rfl rfl rfl rfl ?_
    intro W hT
    have T0 : Hid (Tw w W (docC K g N) zeroC) := hT
    clear hT
    go_upto_region 1 with fail
    refine wp_region_list ?_
    refine wpList_load28 rfl _ rfl w.heap.size K g N rfl T0.out.1 ?_
    refine wpList_step (fun KK hKK => ?_)
    go_simp
    refine (C.out _).mono ?_
    rintro e w2 ⟨rfl, hb2⟩
    have T2 : Hid (Tw w w2 (docC K g N) zeroC) := T0.out.step hb2
    clear hb2 T0
    refine hKK _ _ ?_
    clear hKK KK
    (refine wpList_step (fun KK hKK => ?_); go_simp; refine hKK _ _ ?_; clear hKK KK)
    refine wpList_extract_at rfl _ _ _ _ rfl rfl rfl ?_
    refine wpList_extract_at rfl _ _ _ _ rfl rfl rfl ?_
    refine wpList_store28 rfl _ _ rfl w.heap.size (askK K) g N (docC K g N) rfl rfl T2.out.1 rfl ?_
    intro W3 B3 U3
    have T3 : Hid (Tw w W3 (docC (askK K) g N) zeroC) := T2.out.own B3 U3
    clear B3 U3 T2
    have c1 := T3.out.1.cell 1 (.bool (askK K).locked) rfl
    rw [show (askK K).locked = true from hl] at c1
    go_upto_region 7 with fail
    refine wp_region_list ?_
    refine wpList_load28 rfl _ rfl w.heap.size (askK K) g N rfl T3.out.1 ?_
    (refine wpList_step (fun KK hKK => ?_); go_simp; refine hKK _ _ ?_; clear hKK KK)
    refine wpList_store28 rfl _ _ rfl (w.heap.size + 1) (askK K) g N zeroC rfl rfl T3.out.2.1 rfl ?_
    intro W9 B9 U9
    have T9 : Hid (Tw w W9 (docC (askK K) g N) (docC (askK K) g N)) := T3.out.res B9 U9
    clear B9 U9
    go_wp2_with fail
    exact bodyPost_ret (v := .tuple #[.agg (docC (askK K) g N), .int .i64 132]) (results2 (p := 6) (t := 7) rfl _ _ (w.heap.size + 1) (askK K) g N rfl T9.out.2.1) rfl ⟨g, rfl, H.out.step T9.out.2.2, .inl rfl, T9.out.2.2⟩
  | false =>
    have e : writeE K x L = pieceE K.count x L := by unfold writeE; rw [if_neg hf1, if_neg (by rw [hl]; simp)]
    by_cases hp : pieceE K.count x L = 0
    · have e2 : writeK K x L f = putK (askK K) x L f := by unfold writeK; rw [e, if_pos hp]
      rw [e, e2, hp]
      have hb := (piece_zero hp).2
      have hc := hd.2.2.cnt
      have hx6 : x ≤ 65536 := by omega
      have hL6 : L ≤ 33554432 := by omega
      have H : Hid (DocAt w g N (askK K)) := hd.same rfl rfl (askK_ok hd.2.2)
      have hX : IntKind.i64.wrap ((512 : Int) * (x : Int)) = ((x * 512 : Nat) : Int) := by simp [IntKind.wrap, IntKind.signed, IntKind.bits]; omega
      have hX2 : IntKind.i64.wrap (x : Int) = (x : Int) := by simp [IntKind.wrap, IntKind.signed, IntKind.bits]; omega
      have LY : Hid (∀ V, DocAt V g N (askK K) → Reads .u8 V (.slice av L cv) L f → Calls Try.prog 45 #[.agg (docC (askK K) g N), .int .i64 ((x * 512 : Nat) : Int), .slice av L cv, .int .i64 (L : Nat)] V fun e w' => ∃ q, e = .returned (.agg (docC (putK (askK K) x L f) q N)) ∧ DocAt w' q N (putK (askK K) x L f) ∧ V.heap.size ≤ q ∧ Below V.heap.size V w') := fun V h1 h2 => by
        have := dlay_any (askK K) g N (x * 512) L L f (.slice av L cv) V h1 h2 hf (by omega) (by omega) (by omega)
        rw [show ({ askK K with M := layN (askK K).M N (x * 512) L L f } : Dk) = putK (askK K) x L f from by
          unfold putK
          rw [up_whole (piece_zero hp).1, hd.2.1]
          rfl] at this
        exact this
      have HR : Hid (Reads .u8 w (.slice av L cv) L f) := hr
      have C : Hid (∀ V, Calls Try.prog 43 #[.agg (docC K g N)] V fun e w' => e = .returned (.tuple #[.agg (docC (askK K) g N), .int .i64 0]) ∧ Below V.heap.size V w') := fun V => by
        have := dask_any K g N hd.2.2 V
        rw [askE_neg hf1] at this
        exact this
      have P : Hid (∀ V, Calls Try.prog 44 #[.agg (docC (askK K) g N), .int .u64 (x : Nat), .int .u64 (L : Nat)] V fun e w' => e = .returned (.int .i64 0) ∧ Below V.heap.size V w') := fun V => by
        have := dpiece_any (askK K) g N x L hd.2.1 hd.2.2.cnt hx (by omega) V
        rw [show (askK K).count = K.count from rfl, hp] at this
        exact this
      clear e e2 hf1 hd hp hb hc hr
      generalize hZ : putK (askK K) x L f = Z at *
      clear hZ
      generalize x * 512 = X5 at *
      go_enter Try.func35, Try.ntmps35
      go_upto_region 0 with fail
      refine wp_region_list ?_
      refine wpList_enter2 K g N _ rfl rfl rfl rfl rfl ?_
      intro W hT
      have T0 : Hid (Tw w W (docC K g N) zeroC) := hT
      clear hT
      go_upto_region 1 with fail
      refine wp_region_list ?_
      refine wpList_load28 rfl _ rfl w.heap.size K g N rfl T0.out.1 ?_
      refine wpList_step (fun KK hKK => ?_)
      go_simp
      refine (C.out _).mono ?_
      rintro e w2 ⟨rfl, hb2⟩
      have T2 : Hid (Tw w w2 (docC K g N) zeroC) := T0.out.step hb2
      clear hb2 T0
      refine hKK _ _ ?_
      clear hKK KK
      (refine wpList_step (fun KK hKK => ?_); go_simp; refine hKK _ _ ?_; clear hKK KK)
      refine wpList_extract_at rfl _ _ _ _ rfl rfl rfl ?_
      refine wpList_extract_at rfl _ _ _ _ rfl rfl rfl ?_
      refine wpList_store28 rfl _ _ rfl w.heap.size (askK K) g N (docC K g N) rfl rfl T2.out.1 rfl ?_
      intro W3 B3 U3
      have T3 : Hid (Tw w W3 (docC (askK K) g N) zeroC) := T2.out.own B3 U3
      clear B3 U3 T2
      have c1 := T3.out.1.cell 1 (.bool (askK K).locked) rfl
      rw [show (askK K).locked = false from hl] at c1
      go_upto_region 5 with fail
      refine wp_region_list ?_
      refine wpList_load28 rfl _ rfl w.heap.size (askK K) g N rfl T3.out.1 ?_
      (refine wpList_step (fun KK hKK => ?_); go_simp; refine hKK _ _ ?_; clear hKK KK)
      (refine wpList_step (fun KK hKK => ?_); go_simp; refine hKK _ _ ?_; clear hKK KK)
      (refine wpList_step (fun KK hKK => ?_); go_simp; refine hKK _ _ ?_; clear hKK KK)
      (refine wpList_step (fun KK hKK => ?_); go_simp; refine hKK _ _ ?_; clear hKK KK)
      refine wpList_step (fun KK hKK => ?_)
      go_simp
      refine (P.out _).mono ?_
      rintro e w4 ⟨rfl, hb4⟩
      have T4 : Hid (Tw w w4 (docC (askK K) g N) zeroC) := T3.out.step hb4
      clear hb4 T3
      refine hKK _ _ ?_
      clear hKK KK
      go_upto_region 8 with fail
      refine wp_region_list ?_
      refine wpList_load28 rfl _ rfl w.heap.size (askK K) g N rfl T4.out.1 ?_
      (refine wpList_step (fun KK hKK => ?_); go_simp; refine hKK _ _ ?_; clear hKK KK)
      (refine wpList_step (fun KK hKK => ?_); go_simp; refine hKK _ _ ?_; clear hKK KK)
      (refine wpList_step (fun KK hKK => ?_); go_simp; refine hKK _ _ ?_; clear hKK KK)
      (refine wpList_step (fun KK hKK => ?_); go_simp; refine hKK _ _ ?_; clear hKK KK)
      (refine wpList_step (fun KK hKK => ?_); go_simp; refine hKK _ _ ?_; clear hKK KK)
      (refine wpList_step (fun KK hKK => ?_); go_simp; refine hKK _ _ ?_; clear hKK KK)
      refine wpList_step (fun KK hKK => ?_)
      go_simp
      refine (LY.out _ (H.out.step T4.out.2.2) (reads_below HR.out T4.out.2.2)).mono ?_
      rintro e w5 ⟨q, rfl, hd5, hq5, hb5⟩
      have T5 : Hid (Tw w w5 (docC (askK K) g N) zeroC) := T4.out.step hb5
      have D5 : Hid (DocAt w5 q N Z ∧ w.heap.size + 1 < q) := ⟨hd5, by have := T4.out.lt; omega⟩
      clear hd5 hq5 hb5 T4
      refine hKK _ _ ?_
      clear hKK KK
      refine wpList_store28 rfl _ _ rfl (w.heap.size + 1) Z q N zeroC rfl rfl T5.out.2.1 rfl ?_
      intro W9 B9 U9
      have V9 : Hid (Box 28 W9 (w.heap.size + 1) (docC Z q N) ∧ DocAt W9 q N Z ∧ Below w.heap.size w W9 ∧ w.heap.size ≤ q) := ⟨B9, D5.out.1.upon U9 (by have := D5.out.2; omega), (T5.out.res B9 U9).2.2, by have := D5.out.2; omega⟩
      clear B9 U9
      go_wp2_with fail
      exact bodyPost_ret (v := .tuple #[.agg (docC Z q N), .int .i64 0]) (results2 (p := 6) (t := 7) rfl _ _ (w.heap.size + 1) Z q N rfl V9.out.1) rfl ⟨q, rfl, V9.out.2.1, .inr V9.out.2.2.2, V9.out.2.2.1⟩
    · have e2 : writeK K x L f = askK K := by unfold writeK; rw [e, if_neg hp]
      rw [e, e2]
      have H : Hid (DocAt w g N (askK K)) := hd.same rfl rfl (askK_ok hd.2.2)
      obtain ⟨q, hq⟩ : ∃ q, pieceE K.count x L = q := ⟨_, rfl⟩
      rw [hq] at hp ⊢
      have n1 : ((q : Int) == 0) = false := by simp; omega
      have n2 : (q : Int) ≠ 0 := by omega
      clear hp
      have hp := hq
      have C : Hid (∀ V, Calls Try.prog 43 #[.agg (docC K g N)] V fun e w' => e = .returned (.tuple #[.agg (docC (askK K) g N), .int .i64 0]) ∧ Below V.heap.size V w') := fun V => by
        have := dask_any K g N hd.2.2 V
        rw [askE_neg hf1] at this
        exact this
      have P : Hid (∀ V, Calls Try.prog 44 #[.agg (docC (askK K) g N), .int .u64 (x : Nat), .int .u64 (L : Nat)] V fun e w' => e = .returned (.int .i64 (q : Nat)) ∧ Below V.heap.size V w') := fun V => by
        have := dpiece_any (askK K) g N x L hd.2.1 hd.2.2.cnt hx (by omega) V
        rw [show (askK K).count = K.count from rfl, hp] at this
        exact this
      clear e e2 hf1 hd hp hq hr
      go_enter Try.func35, Try.ntmps35
      go_upto_region 0 with fail
      refine wp_region_list ?_
      refine wpList_enter2 K g N _ rfl rfl rfl rfl rfl ?_
      intro W hT
      have T0 : Hid (Tw w W (docC K g N) zeroC) := hT
      clear hT
      go_upto_region 1 with fail
      refine wp_region_list ?_
      refine wpList_load28 rfl _ rfl w.heap.size K g N rfl T0.out.1 ?_
      refine wpList_step (fun KK hKK => ?_)
      go_simp
      refine (C.out _).mono ?_
      rintro e w2 ⟨rfl, hb2⟩
      have T2 : Hid (Tw w w2 (docC K g N) zeroC) := T0.out.step hb2
      clear hb2 T0
      refine hKK _ _ ?_
      clear hKK KK
      (refine wpList_step (fun KK hKK => ?_); go_simp; refine hKK _ _ ?_; clear hKK KK)
      refine wpList_extract_at rfl _ _ _ _ rfl rfl rfl ?_
      refine wpList_extract_at rfl _ _ _ _ rfl rfl rfl ?_
      refine wpList_store28 rfl _ _ rfl w.heap.size (askK K) g N (docC K g N) rfl rfl T2.out.1 rfl ?_
      intro W3 B3 U3
      have T3 : Hid (Tw w W3 (docC (askK K) g N) zeroC) := T2.out.own B3 U3
      clear B3 U3 T2
      have c1 := T3.out.1.cell 1 (.bool (askK K).locked) rfl
      rw [show (askK K).locked = false from hl] at c1
      go_upto_region 5 with fail
      refine wp_region_list ?_
      refine wpList_load28 rfl _ rfl w.heap.size (askK K) g N rfl T3.out.1 ?_
      (refine wpList_step (fun KK hKK => ?_); go_simp; refine hKK _ _ ?_; clear hKK KK)
      (refine wpList_step (fun KK hKK => ?_); go_simp; refine hKK _ _ ?_; clear hKK KK)
      (refine wpList_step (fun KK hKK => ?_); go_simp; refine hKK _ _ ?_; clear hKK KK)
      (refine wpList_step (fun KK hKK => ?_); go_simp; refine hKK _ _ ?_; clear hKK KK)
      refine wpList_step (fun KK hKK => ?_)
      go_simp
      refine (P.out _).mono ?_
      rintro e w4 ⟨rfl, hb4⟩
      have T4 : Hid (Tw w w4 (docC (askK K) g N) zeroC) := T3.out.step hb4
      clear hb4 T3
      refine hKK _ _ ?_
      clear hKK KK
      go_upto_region 7 with fail
      refine wp_region_list ?_
      refine wpList_load28 rfl _ rfl w.heap.size (askK K) g N rfl T4.out.1 ?_
      (refine wpList_step (fun KK hKK => ?_); go_simp; refine hKK _ _ ?_; clear hKK KK)
      refine wpList_store28 rfl _ _ rfl (w.heap.size + 1) (askK K) g N zeroC rfl rfl T4.out.2.1 rfl ?_
      intro W9 B9 U9
      have T9 : Hid (Tw w W9 (docC (askK K) g N) (docC (askK K) g N)) := T4.out.res B9 U9
      clear B9 U9
      go_wp2_with fail
      exact bodyPost_ret (v := .tuple #[.agg (docC (askK K) g N), .int .i64 (q : Nat)]) (results2 (p := 6) (t := 7) rfl _ _ (w.heap.size + 1) (askK K) g N rfl T9.out.2.1) rfl ⟨g, rfl, H.out.step T9.out.2.2, .inl rfl, T9.out.2.2⟩
end Go.Proofs.Ytkalaojbmedhjaa
