/- The document's calls Read and Raw of layer 8. -/
import Derived.Test.YtebdlefdkadhnaaDoorDWr
import Derived.Test.YtebdlefdkadhnaaDoorRd
import Derived.Test.YtebdlefdkadhnaaDoorIx
namespace Go.Proofs.YtebdlefdkadhnaaDoor
open Go.RowKit
set_option linter.unusedVariables false
set_option linter.unusedSimpArgs false
set_option maxRecDepth 100000
/-- the file's box -/
def One (w W : World) (c : Array Value) : Prop := Box 32 W w.heap.size c ∧ Below w.heap.size w W
theorem One.step {w W W' : World} {c : Array Value} (h : One w W c) (hb : Below W.heap.size W W') : One w W' c := ⟨h.1.step hb, h.2.trans (hb.mono h.2.size)⟩
theorem yield_doc {w : World} {o : Oper} {a : Act} {b : Nat} {m : Int} {K : Nat → Nat} (hw : Box 32 w b (docC m K)) (x : Operand) (hop : o.op = Op.load 32 x) (hx : a.eval x = .pointer (some ⟨b, 0, none⟩)) : (execOp a.eval o).run Tryd.prog w = .ok (.value (.agg (docC m K))) w := by
  simp only [execOp, hop, hx, Instr.loadAt, Instr.sureAddr, Sem.run_bind, Sem.run_pure, Result.andThen_ok, load_doc hw]
theorem One.new (w : World) (c : Array Value) : One w (w.alloc (.cells c 32)) c := ⟨Box.new 32 w c, (Below.refl _ _).alloc (Nat.le_refl _) _⟩
set_option maxHeartbeats 1000000 in
theorem dr_768 (m : Int) (K : Nat → Nat) (hK : Ok K) (w : World) : Calls Tryd.prog 13 #[.agg (docC m K), .int .i64 768] w fun e w' => e = .returned (.int .u64 (K 0 ||| 42949672960 : Nat)) ∧ Below w.heap.size w w' := by
  have T0 : Hid (One w (w.alloc (.cells (docC m K) 32)) (docC m K)) := One.new w _
  have h1 := fun V => ror_any (K 0) 42949672960 (hK _) (by decide) V
  generalize K 0 ||| 42949672960 = y at *
  clear hK
  go_enter Tryd.func13, Tryd.ntmps13
  go_upto_region 2 with fail
  generalize (w.alloc (.cells (docC m K) 32)) = W at *
  have c0 : W.cell? ⟨w.heap.size, 1, none⟩ = some (.int .u64 (K 0 : Nat)) := T0.out.1.cell 1 _ rfl
  go_wp2_with fail
  refine (h1 _).mono ?_
  rintro e w1 ⟨rfl, hb1⟩
  go_wp2_with fail
  go_ret
  exact ⟨rfl, (T0.out.step hb1).2⟩
set_option maxHeartbeats 1000000 in
theorem dr_256 (m : Int) (K : Nat → Nat) (hK : Ok K) (w : World) : Calls Tryd.prog 13 #[.agg (docC m K), .int .i64 256] w fun e w' => e = .returned (.int .u64 ((K 0 &&& 786722) ||| 8589934592 : Nat)) ∧ Below w.heap.size w w' := by
  have T0 : Hid (One w (w.alloc (.cells (docC m K) 32)) (docC m K)) := One.new w _
  have h1 := fun V => rand_any (K 0) 786722 (hK _) (by decide) V
  have h2 := fun V => ror_any (K 0 &&& 786722) 8589934592 (and_lt _ _ (hK _)) (by decide) V
  generalize (K 0 &&& 786722) ||| 8589934592 = y at *
  generalize K 0 &&& 786722 = z at *
  clear hK
  go_enter Tryd.func13, Tryd.ntmps13
  go_upto_region 2 with fail
  generalize (w.alloc (.cells (docC m K) 32)) = W at *
  have c0 : W.cell? ⟨w.heap.size, 1, none⟩ = some (.int .u64 (K 0 : Nat)) := T0.out.1.cell 1 _ rfl
  go_wp2_with fail
  refine (h1 _).mono ?_
  rintro e w1 ⟨rfl, hb1⟩
  go_wp2_with fail
  refine (h2 _).mono ?_
  rintro e w2 ⟨rfl, hb2⟩
  go_wp2_with fail
  go_ret
  exact ⟨rfl, ((T0.out.step hb1).step hb2).2⟩
set_option maxHeartbeats 1000000 in
theorem dr_769 (m : Int) (K : Nat → Nat) (hK : Ok K) (w : World) : Calls Tryd.prog 13 #[.agg (docC m K), .int .i64 769] w fun e w' => e = .returned (.int .u64 (9223372036856090881 : Nat)) ∧ Below w.heap.size w w' := by
  have T0 : Hid (One w (w.alloc (.cells (docC m K) 32)) (docC m K)) := One.new w _
  clear hK
  go_enter Tryd.func13, Tryd.ntmps13
  go_upto_region 2 with fail
  generalize (w.alloc (.cells (docC m K) 32)) = W at *
  go_wp2_with fail
  go_ret
  exact ⟨rfl, T0.out.2⟩
set_option maxHeartbeats 1000000 in
theorem dr_260 (m : Int) (K : Nat → Nat) (hK : Ok K) (w : World) : Calls Tryd.prog 13 #[.agg (docC m K), .int .i64 260] w fun e w' => e = .returned (.int .u64 (K 5 &&& K 4 : Nat)) ∧ Below w.heap.size w w' := by
  have T0 : Hid (One w (w.alloc (.cells (docC m K) 32)) (docC m K)) := One.new w _
  have h1 := fun V => rand_any (K 5) (K 4) (hK _) (hK _) V
  generalize K 5 &&& K 4 = y at *
  clear hK
  go_enter Tryd.func13, Tryd.ntmps13
  go_upto_region 2 with fail
  generalize (w.alloc (.cells (docC m K) 32)) = W at *
  have c5 : W.cell? ⟨w.heap.size, 6, none⟩ = some (.int .u64 (K 5 : Nat)) := T0.out.1.cell 6 _ rfl
  have c4 : W.cell? ⟨w.heap.size, 5, none⟩ = some (.int .u64 (K 4 : Nat)) := T0.out.1.cell 5 _ rfl
  go_wp2_with fail
  refine (h1 _).mono ?_
  rintro e w1 ⟨rfl, hb1⟩
  go_wp2_with fail
  go_ret
  exact ⟨rfl, (T0.out.step hb1).2⟩
set_option maxHeartbeats 1000000 in
theorem dr_836 (m : Int) (K : Nat → Nat) (hK : Ok K) (w : World) : Calls Tryd.prog 13 #[.agg (docC m K), .int .i64 836] w fun e w' => e = .returned (.int .u64 (K 1 ||| K 2 : Nat)) ∧ Below w.heap.size w w' := by
  have T0 : Hid (One w (w.alloc (.cells (docC m K) 32)) (docC m K)) := One.new w _
  have h1 : ∀ V, Calls Tryd.prog 17 #[.agg (docC m K)] V fun e w' => e = .returned (.int .u64 (K 1 ||| K 2 : Nat)) ∧ Below V.heap.size V w' := fun V => dpend_any m K hK V
  generalize K 1 ||| K 2 = y at *
  clear hK
  go_enter Tryd.func13, Tryd.ntmps13
  go_upto_region 2 with fail
  generalize (w.alloc (.cells (docC m K) 32)) = W at *
  go_upto_region 9 with fail
  refine wp_region_list ?_
  refine wpList_load_doc rfl _ rfl w.heap.size m K rfl T0.out.1 ?_
  go_wp2_with fail
  refine (h1 _).mono ?_
  rintro e w1 ⟨rfl, hb1⟩
  go_wp2_with fail
  go_ret
  exact ⟨rfl, (T0.out.step hb1).2⟩
set_option maxHeartbeats 1000000 in
theorem dr_324 (m : Int) (K : Nat → Nat) (hK : Ok K) (w : World) : Calls Tryd.prog 13 #[.agg (docC m K), .int .i64 324] w fun e w' => e = .returned (.int .u64 ((K 1 ||| K 2) &&& K 4 : Nat)) ∧ Below w.heap.size w w' := by
  have T0 : Hid (One w (w.alloc (.cells (docC m K) 32)) (docC m K)) := One.new w _
  have h1 : ∀ V, Calls Tryd.prog 17 #[.agg (docC m K)] V fun e w' => e = .returned (.int .u64 (K 1 ||| K 2 : Nat)) ∧ Below V.heap.size V w' := fun V => dpend_any m K hK V
  have h2 := fun V => rand_any (K 1 ||| K 2) (K 4) (or_lt _ _ (hK _) (hK _)) (hK _) V
  generalize (K 1 ||| K 2) &&& K 4 = y at *
  generalize K 1 ||| K 2 = z at *
  clear hK
  go_enter Tryd.func13, Tryd.ntmps13
  go_upto_region 2 with fail
  generalize (w.alloc (.cells (docC m K) 32)) = W at *
  go_upto_region 11 with fail
  have T0d : Hid (One w W.drew (docC m K)) := T0.out.step (below_drew1 _)
  refine wp_region_held_drew (S := fun V => V.cell? ⟨w.heap.size, 5, none⟩ = some (.int .u64 (K 4 : Nat)) ∧ Box 32 V w.heap.size (docC m K)) (by kernel_rfl) ⟨T0d.out.1.cell 5 _ rfl, T0d.out.1⟩ ?_
  intro hS
  refine wpAnyH_take (i := 0) (v := .agg (docC m K)) rfl (by kernel_rfl) (by kernel_rfl) (by kernel_rfl) (fun _ _ _ h => h) (Or.inl ⟨by kernel_rfl, fun V hV => yield_doc hV.2 _ rfl rfl⟩) hS ?_
  (try simp only [Act.put, List.getElem_toArray, List.getElem_cons_succ, List.getElem_cons_zero, List.setIfInBounds_toArray, List.set_cons_zero, List.set_cons_succ])
  refine wpAnyH_take (i := 2) (v := ?_) rfl (by kernel_rfl) (by kernel_rfl) (by kernel_rfl) (fun _ _ _ h => h) (Or.inl ⟨by kernel_rfl, ?_⟩) (by assumption) ?_
  rotate_left
  · intro w hSw; (try dsimp only at hSw); go_simp; try (with_reducible rfl)
  (try simp only [Act.put, List.getElem_toArray, List.getElem_cons_succ, List.getElem_cons_zero, List.setIfInBounds_toArray, List.set_cons_zero, List.set_cons_succ])
  refine wpAnyH_take (i := 3) (v := ?_) rfl (by kernel_rfl) (by kernel_rfl) (by kernel_rfl) (fun _ _ _ h => h) (Or.inl ⟨by kernel_rfl, ?_⟩) (by assumption) ?_
  rotate_left
  · intro w hSw; (try dsimp only at hSw); go_simp; try (with_reducible rfl)
  (try simp only [Act.put, List.getElem_toArray, List.getElem_cons_succ, List.getElem_cons_zero, List.setIfInBounds_toArray, List.set_cons_zero, List.set_cons_succ])
  refine wpAnyH_take (i := 4) (v := ?_) rfl (by kernel_rfl) (by kernel_rfl) (by kernel_rfl) (fun _ _ _ h => h) (Or.inl ⟨by kernel_rfl, ?_⟩) (by assumption) ?_
  rotate_left
  · intro w hSw; (try dsimp only at hSw); go_simp; try (with_reducible rfl)
  (try simp only [Act.put, List.getElem_toArray, List.getElem_cons_succ, List.getElem_cons_zero, List.setIfInBounds_toArray, List.set_cons_zero, List.set_cons_succ])
  refine wpAnyH_ready (rs := [1]) (by kernel_rfl) (by simp) ?_
  refine AllReadyH.cons rfl (fun KK hKK => ?_) AllReadyH.nil
  go_simp
  refine (h1 _).mono ?_
  rintro e w1 ⟨rfl, hb1⟩
  have T1 : Hid (One w w1 (docC m K)) := T0d.out.step hb1
  clear hb1
  refine hKK.out _ _ ⟨T1.out.1.cell 5 _ rfl, T1.out.1⟩ (fun hS2 => ?_)
  clear hKK KK hS
  (try simp only [Act.put, List.getElem_toArray, List.getElem_cons_succ, List.getElem_cons_zero, List.setIfInBounds_toArray, List.set_cons_zero, List.set_cons_succ])
  refine wpAnyH_ready (rs := [5]) (by kernel_rfl) (by simp) ?_
  refine AllReadyH.cons rfl (fun KK hKK => ?_) AllReadyH.nil
  go_simp
  refine (h2 _).mono ?_
  rintro e w2 ⟨rfl, hb2⟩
  have T2 : Hid (One w w2 (docC m K)) := T1.out.step hb2
  clear hb2
  refine hKK.out _ _ ⟨T2.out.1.cell 5 _ rfl, T2.out.1⟩ (fun hS3 => ?_)
  clear hKK KK hS2
  (try simp only [Act.put, List.getElem_toArray, List.getElem_cons_succ, List.getElem_cons_zero, List.setIfInBounds_toArray, List.set_cons_zero, List.set_cons_succ])
  refine wpAnyH_take (i := 6) (v := ?_) rfl (by kernel_rfl) (by kernel_rfl) (by kernel_rfl) (fun _ _ _ h => h) (Or.inl ⟨by kernel_rfl, ?_⟩) (by assumption) ?_
  rotate_left
  · intro w hSw; (try dsimp only at hSw); go_simp; try (with_reducible rfl)
  (try simp only [Act.put, List.getElem_toArray, List.getElem_cons_succ, List.getElem_cons_zero, List.setIfInBounds_toArray, List.set_cons_zero, List.set_cons_succ])
  refine wpAnyH_done (by kernel_rfl) ?_ _
  go_wp2_with fail
  go_ret
  exact ⟨rfl, T2.out.2⟩
set_option maxHeartbeats 1000000 in
theorem dr_row (n : Int) (a : Nat) (m : Int) (K : Nat → Nat) (w : World) (h768 : (n == 768) = false) (h256 : (n == 256) = false) (h769 : (n == 769) = false) (h836 : (n == 836) = false) (h324 : (n == 324) = false) (h260 : (n == 260) = false) (hk : knownB n = true) (ha : dAt (ix n) = a) (ha2 : a < 22) : Calls Tryd.prog 13 #[.agg (docC m K), .int .i64 n] w fun e w' => e = .returned (.int .u64 (K a : Nat)) ∧ Below w.heap.size w w' := by
  have T0 : Hid (One w (w.alloc (.cells (docC m K) 32)) (docC m K)) := One.new w _
  have hof := fun V => of_any n V
  unfold rowC at hof
  rw [ha, hk] at hof
  have hc : (docC m K)[1 + a]? = some (.int .u64 (K a : Nat)) := by rw [Nat.add_comm]; exact docC_get m K a ha2
  have HC : Hid _ := hc
  have hai : (a : Int) < 22 := by omega
  generalize dN (ix n) = z0 at *
  generalize dName (ix n) = s at *
  generalize dMask (ix n) = z3 at *
  clear hk ha ha2 hc
  go_enter Tryd.func13, Tryd.ntmps13
  go_upto_region 2 with fail
  generalize (w.alloc (.cells (docC m K) 32)) = W at *
  go_wp2_with fail
  refine (hof _).mono ?_
  rintro e w1 ⟨rfl, hb1⟩
  have T1 : Hid (One w w1 (docC m K)) := T0.out.step hb1
  clear hb1 hof
  go_upto_region 15 with fail
  have T2 : Hid (One w (w1.alloc (.cells #[.int .i64 z0, .string s, .int .i64 (a : Int), .int .u64 (z3 : Nat)] 46)) (docC m K) ∧ Box 46 (w1.alloc (.cells #[.int .i64 z0, .string s, .int .i64 (a : Int), .int .u64 (z3 : Nat)] 46)) w1.heap.size #[.int .i64 z0, .string s, .int .i64 (a : Int), .int .u64 (z3 : Nat)]) := ⟨T1.out.step ((Below.refl _ _).alloc (Nat.le_refl _) _), Box.new 46 w1 _⟩
  generalize (w1.alloc (.cells #[.int .i64 z0, .string s, .int .i64 (a : Int), .int .u64 (z3 : Nat)] 46)) = W2 at *
  generalize w1.heap.size = rb at *
  have r2 : W2.cell? ⟨rb, 2, none⟩ = some (.int .i64 (a : Int)) := T2.out.2.cell 2 _ rfl
  have c1 : W2.cell? ⟨w.heap.size, 1 + a, none⟩ = some (.int .u64 (K a : Nat)) := T2.out.1.1.cell (1 + a) _ HC.out
  clear T1 T0
  go_wp2_with fail
  go_ret
  exact ⟨rfl, T2.out.1.2⟩
set_option maxHeartbeats 1000000 in
theorem dr_not (n : Int) (m : Int) (K : Nat → Nat) (w : World) (h768 : (n == 768) = false) (h256 : (n == 256) = false) (h769 : (n == 769) = false) (h836 : (n == 836) = false) (h324 : (n == 324) = false) (h260 : (n == 260) = false) (h : knownB n = false ∨ (knownB n = true ∧ dAt (ix n) < 0)) : Calls Tryd.prog 13 #[.agg (docC m K), .int .i64 n] w fun e w' => e = .returned (.int .u64 0) ∧ Below w.heap.size w w' := by
  have T0 : Hid (One w (w.alloc (.cells (docC m K) 32)) (docC m K)) := One.new w _
  have hof := fun V => of_any n V
  unfold rowC at hof
  generalize dN (ix n) = z0 at *
  generalize dName (ix n) = s at *
  generalize dAt (ix n) = z2 at *
  generalize dMask (ix n) = z3 at *
  generalize knownB n = kb at *
  rcases h with rfl | ⟨rfl, hz⟩
  all_goals
    go_enter Tryd.func13, Tryd.ntmps13
    go_upto_region 2 with fail
    generalize (w.alloc (.cells (docC m K) 32)) = W at *
    go_wp2_with fail
    refine (hof _).mono ?_
    rintro e w1 ⟨rfl, hb1⟩
    have T1 : Hid (One w w1 (docC m K)) := T0.out.step hb1
    clear hb1 hof
    go_upto_region 15 with fail
    have T2 : Hid (One w (w1.alloc (.cells #[.int .i64 z0, .string s, .int .i64 z2, .int .u64 (z3 : Nat)] 46)) (docC m K) ∧ Box 46 (w1.alloc (.cells #[.int .i64 z0, .string s, .int .i64 z2, .int .u64 (z3 : Nat)] 46)) w1.heap.size #[.int .i64 z0, .string s, .int .i64 z2, .int .u64 (z3 : Nat)]) := ⟨T1.out.step ((Below.refl _ _).alloc (Nat.le_refl _) _), Box.new 46 w1 _⟩
    generalize (w1.alloc (.cells #[.int .i64 z0, .string s, .int .i64 z2, .int .u64 (z3 : Nat)] 46)) = W2 at *
    generalize w1.heap.size = rb at *
    have r2 : W2.cell? ⟨rb, 2, none⟩ = some (.int .i64 z2) := T2.out.2.cell 2 _ rfl
    clear T1 T0
    go_wp2_with fail
    go_ret
    exact ⟨rfl, T2.out.1.2⟩
theorem only_read : ∀ i, i < 31 → dN i ∈ ([768, 256, 769, 770, 771, 772, 260, 836, 324, 773, 261, 774, 262, 832, 320, 834, 322, 835, 323, 833, 321, 384, 2816, 3072, 2818, 3074, 3073] : List Int) ∨ dAt i < 0 := by decide +kernel
theorem dread_any (m : Int) (K : Nat → Nat) (n : Int) (hK : Ok K) (w : World) : Calls Tryd.prog 13 #[.agg (docC m K), .int .i64 n] w fun e w' => e = .returned (.int .u64 (readN K n : Nat)) ∧ Below w.heap.size w w' := by
  unfold readN
  by_cases h768 : n = 768
  · subst h768; rw [if_pos rfl]; exact dr_768 m K hK w
  rw [if_neg h768]
  by_cases h256 : n = 256
  · subst h256; rw [if_pos rfl]; exact dr_256 m K hK w
  rw [if_neg h256]
  by_cases h769 : n = 769
  · subst h769; rw [if_pos rfl]; exact dr_769 m K hK w
  rw [if_neg h769]
  by_cases h770 : n = 770
  · subst h770; rw [if_pos rfl]; exact dr_row 770 3 m K w rfl rfl rfl rfl rfl rfl (by kernel_rfl) (by kernel_rfl) (by decide)
  rw [if_neg h770]
  by_cases h771 : n = 771
  · subst h771; rw [if_pos rfl]; exact dr_row 771 4 m K w rfl rfl rfl rfl rfl rfl (by kernel_rfl) (by kernel_rfl) (by decide)
  rw [if_neg h771]
  by_cases h772 : n = 772
  · subst h772; rw [if_pos rfl]; exact dr_row 772 5 m K w rfl rfl rfl rfl rfl rfl (by kernel_rfl) (by kernel_rfl) (by decide)
  rw [if_neg h772]
  by_cases h260 : n = 260
  · subst h260; rw [if_pos rfl]; exact dr_260 m K hK w
  rw [if_neg h260]
  by_cases h836 : n = 836
  · subst h836; rw [if_pos rfl]; exact dr_836 m K hK w
  rw [if_neg h836]
  by_cases h324 : n = 324
  · subst h324; rw [if_pos rfl]; exact dr_324 m K hK w
  rw [if_neg h324]
  by_cases h773 : n = 773
  · subst h773; rw [if_pos rfl]; exact dr_row 773 6 m K w rfl rfl rfl rfl rfl rfl (by kernel_rfl) (by kernel_rfl) (by decide)
  rw [if_neg h773]
  by_cases h261 : n = 261
  · subst h261; rw [if_pos rfl]; exact dr_row 261 12 m K w rfl rfl rfl rfl rfl rfl (by kernel_rfl) (by kernel_rfl) (by decide)
  rw [if_neg h261]
  by_cases h774 : n = 774
  · subst h774; rw [if_pos rfl]; exact dr_row 774 7 m K w rfl rfl rfl rfl rfl rfl (by kernel_rfl) (by kernel_rfl) (by decide)
  rw [if_neg h774]
  by_cases h262 : n = 262
  · subst h262; rw [if_pos rfl]; exact dr_row 262 13 m K w rfl rfl rfl rfl rfl rfl (by kernel_rfl) (by kernel_rfl) (by decide)
  rw [if_neg h262]
  by_cases h832 : n = 832
  · subst h832; rw [if_pos rfl]; exact dr_row 832 8 m K w rfl rfl rfl rfl rfl rfl (by kernel_rfl) (by kernel_rfl) (by decide)
  rw [if_neg h832]
  by_cases h320 : n = 320
  · subst h320; rw [if_pos rfl]; exact dr_row 320 14 m K w rfl rfl rfl rfl rfl rfl (by kernel_rfl) (by kernel_rfl) (by decide)
  rw [if_neg h320]
  by_cases h834 : n = 834
  · subst h834; rw [if_pos rfl]; exact dr_row 834 10 m K w rfl rfl rfl rfl rfl rfl (by kernel_rfl) (by kernel_rfl) (by decide)
  rw [if_neg h834]
  by_cases h322 : n = 322
  · subst h322; rw [if_pos rfl]; exact dr_row 322 16 m K w rfl rfl rfl rfl rfl rfl (by kernel_rfl) (by kernel_rfl) (by decide)
  rw [if_neg h322]
  by_cases h835 : n = 835
  · subst h835; rw [if_pos rfl]; exact dr_row 835 11 m K w rfl rfl rfl rfl rfl rfl (by kernel_rfl) (by kernel_rfl) (by decide)
  rw [if_neg h835]
  by_cases h323 : n = 323
  · subst h323; rw [if_pos rfl]; exact dr_row 323 17 m K w rfl rfl rfl rfl rfl rfl (by kernel_rfl) (by kernel_rfl) (by decide)
  rw [if_neg h323]
  by_cases h833 : n = 833
  · subst h833; rw [if_pos rfl]; exact dr_row 833 9 m K w rfl rfl rfl rfl rfl rfl (by kernel_rfl) (by kernel_rfl) (by decide)
  rw [if_neg h833]
  by_cases h321 : n = 321
  · subst h321; rw [if_pos rfl]; exact dr_row 321 15 m K w rfl rfl rfl rfl rfl rfl (by kernel_rfl) (by kernel_rfl) (by decide)
  rw [if_neg h321]
  by_cases h384 : n = 384
  · subst h384; rw [if_pos rfl]; exact dr_row 384 18 m K w rfl rfl rfl rfl rfl rfl (by kernel_rfl) (by kernel_rfl) (by decide)
  rw [if_neg h384]
  by_cases h2816 : n = 2816
  · subst h2816; rw [if_pos rfl]; exact dr_row 2816 19 m K w rfl rfl rfl rfl rfl rfl (by kernel_rfl) (by kernel_rfl) (by decide)
  rw [if_neg h2816]
  by_cases h3072 : n = 3072
  · subst h3072; rw [if_pos rfl]; exact dr_row 3072 19 m K w rfl rfl rfl rfl rfl rfl (by kernel_rfl) (by kernel_rfl) (by decide)
  rw [if_neg h3072]
  by_cases h2818 : n = 2818
  · subst h2818; rw [if_pos rfl]; exact dr_row 2818 20 m K w rfl rfl rfl rfl rfl rfl (by kernel_rfl) (by kernel_rfl) (by decide)
  rw [if_neg h2818]
  by_cases h3074 : n = 3074
  · subst h3074; rw [if_pos rfl]; exact dr_row 3074 20 m K w rfl rfl rfl rfl rfl rfl (by kernel_rfl) (by kernel_rfl) (by decide)
  rw [if_neg h3074]
  by_cases h3073 : n = 3073
  · subst h3073; rw [if_pos rfl]; exact dr_row 3073 21 m K w rfl rfl rfl rfl rfl rfl (by kernel_rfl) (by kernel_rfl) (by decide)
  rw [if_neg h3073]
  refine dr_not n m K w (beq_eq_false_iff_ne.2 h768) (beq_eq_false_iff_ne.2 h256) (beq_eq_false_iff_ne.2 h769) (beq_eq_false_iff_ne.2 h836) (beq_eq_false_iff_ne.2 h324) (beq_eq_false_iff_ne.2 h260) ?_
  by_cases hi : ix n < 31
  · right
    refine ⟨by unfold knownB; simp [hi], ?_⟩
    rcases only_read (ix n) hi with h | h
    · rw [ix_dN n hi] at h
      simp at h
      omega
    · exact h
  · left
    unfold knownB
    simp [hi]
theorem readN_other (K : Nat → Nat) (n : Int) (y : Nat) (h1 : n ≠ 836) (h2 : n ≠ 324) : readN (upd K 2 y) n = readN K n := by
  unfold readN
  by_cases h768 : n = 768
  · rw [if_pos h768, if_pos h768]; rfl
  rw [if_neg h768, if_neg h768]
  by_cases h256 : n = 256
  · rw [if_pos h256, if_pos h256]; rfl
  rw [if_neg h256, if_neg h256]
  by_cases h769 : n = 769
  · rw [if_pos h769, if_pos h769]
  rw [if_neg h769, if_neg h769]
  by_cases h770 : n = 770
  · rw [if_pos h770, if_pos h770]; rfl
  rw [if_neg h770, if_neg h770]
  by_cases h771 : n = 771
  · rw [if_pos h771, if_pos h771]; rfl
  rw [if_neg h771, if_neg h771]
  by_cases h772 : n = 772
  · rw [if_pos h772, if_pos h772]; rfl
  rw [if_neg h772, if_neg h772]
  by_cases h260 : n = 260
  · rw [if_pos h260, if_pos h260]; rfl
  rw [if_neg h260, if_neg h260]
  rw [if_neg h1, if_neg h1]
  rw [if_neg h2, if_neg h2]
  by_cases h773 : n = 773
  · rw [if_pos h773, if_pos h773]; rfl
  rw [if_neg h773, if_neg h773]
  by_cases h261 : n = 261
  · rw [if_pos h261, if_pos h261]; rfl
  rw [if_neg h261, if_neg h261]
  by_cases h774 : n = 774
  · rw [if_pos h774, if_pos h774]; rfl
  rw [if_neg h774, if_neg h774]
  by_cases h262 : n = 262
  · rw [if_pos h262, if_pos h262]; rfl
  rw [if_neg h262, if_neg h262]
  by_cases h832 : n = 832
  · rw [if_pos h832, if_pos h832]; rfl
  rw [if_neg h832, if_neg h832]
  by_cases h320 : n = 320
  · rw [if_pos h320, if_pos h320]; rfl
  rw [if_neg h320, if_neg h320]
  by_cases h834 : n = 834
  · rw [if_pos h834, if_pos h834]; rfl
  rw [if_neg h834, if_neg h834]
  by_cases h322 : n = 322
  · rw [if_pos h322, if_pos h322]; rfl
  rw [if_neg h322, if_neg h322]
  by_cases h835 : n = 835
  · rw [if_pos h835, if_pos h835]; rfl
  rw [if_neg h835, if_neg h835]
  by_cases h323 : n = 323
  · rw [if_pos h323, if_pos h323]; rfl
  rw [if_neg h323, if_neg h323]
  by_cases h833 : n = 833
  · rw [if_pos h833, if_pos h833]; rfl
  rw [if_neg h833, if_neg h833]
  by_cases h321 : n = 321
  · rw [if_pos h321, if_pos h321]; rfl
  rw [if_neg h321, if_neg h321]
  by_cases h384 : n = 384
  · rw [if_pos h384, if_pos h384]; rfl
  rw [if_neg h384, if_neg h384]
  by_cases h2816 : n = 2816
  · rw [if_pos h2816, if_pos h2816]; rfl
  rw [if_neg h2816, if_neg h2816]
  by_cases h3072 : n = 3072
  · rw [if_pos h3072, if_pos h3072]; rfl
  rw [if_neg h3072, if_neg h3072]
  by_cases h2818 : n = 2818
  · rw [if_pos h2818, if_pos h2818]; rfl
  rw [if_neg h2818, if_neg h2818]
  by_cases h3074 : n = 3074
  · rw [if_pos h3074, if_pos h3074]; rfl
  rw [if_neg h3074, if_neg h3074]
  by_cases h3073 : n = 3073
  · rw [if_pos h3073, if_pos h3073]; rfl
  rw [if_neg h3073, if_neg h3073]
set_option maxHeartbeats 2000000 in
theorem draw_yes (m : Int) (K : Nat → Nat) (n : Int) (hn : n = 836 ∨ n = 324) (hK : Ok K) (w : World) : Calls Tryd.prog 15 #[.agg (docC m K), .int .i64 n] w fun e w' => e = .returned (.int .u64 (readN (upd K 2 (K 2 &&& 18446744073709551069)) n : Nat)) ∧ Below w.heap.size w w' := by
  have T0 : Hid (One w (w.alloc (.cells (docC m K) 32)) (docC m K)) := One.new w _
  have h1 := fun V => rand_any (K 2) 18446744073709551069 (hK _) (by decide) V
  have HR : Hid (∀ V, Calls Tryd.prog 13 #[.agg (docC m (upd K 2 (K 2 &&& 18446744073709551069))), .int .i64 n] V fun e w' => e = .returned (.int .u64 (readN (upd K 2 (K 2 &&& 18446744073709551069)) n : Nat)) ∧ Below V.heap.size V w') := fun V => dread_any m _ n (hK.upd _ _ (and_lt _ _ (hK _))) V
  generalize readN (upd K 2 (K 2 &&& 18446744073709551069)) n = z at *
  generalize K 2 &&& 18446744073709551069 = y at *
  clear hK
  rcases hn with rfl | rfl
  all_goals
    go_enter Tryd.func15, Tryd.ntmps15
    go_upto_region 1 with fail
    generalize (w.alloc (.cells (docC m K) 32)) = W at *
    have c2 : W.cell? ⟨w.heap.size, 3, none⟩ = some (.int .u64 (K 2 : Nat)) := T0.out.1.cell 3 _ rfl
    go_wp2_with fail
    refine (h1 _).mono ?_
    rintro e w1 ⟨rfl, hb1⟩
    have T1 : Hid (One w w1 (docC m K)) := T0.out.step hb1
    have d2 : w1.cell? ⟨w.heap.size, 3, none⟩ = some (.int .u64 (K 2 : Nat)) := T1.out.1.cell 3 _ rfl
    have f2 := T1.out.1.frozen 3
    clear hb1 c2
    go_upto_region 3 with fail
    have T2 : Hid (One w (w1.setCell ⟨w.heap.size, 3, none⟩ (.int .u64 (y : Nat))) (docC m (upd K 2 y))) := ⟨by rw [← (set_docC m K _).2.2.1]; exact T1.out.1.set 3 _, T1.out.2.setCell (Nat.le_refl _) _⟩
    generalize w1.setCell ⟨w.heap.size, 3, none⟩ (.int .u64 (y : Nat)) = W3 at *
    refine wp_region_list ?_
    refine wpList_load_doc rfl _ rfl w.heap.size m (upd K 2 y) rfl T2.out.1 ?_
    clear T1 T0 d2 f2
    go_wp2_with fail
    refine (HR.out _).mono ?_
    rintro e w3 ⟨rfl, hb3⟩
    go_wp2_with fail
    go_ret
    exact ⟨rfl, (T2.out.step hb3).2⟩
set_option maxHeartbeats 2000000 in
theorem draw_no (m : Int) (K : Nat → Nat) (n : Int) (h1 : (n == 836) = false) (h2 : (n == 324) = false) (hK : Ok K) (w : World) : Calls Tryd.prog 15 #[.agg (docC m K), .int .i64 n] w fun e w' => e = .returned (.int .u64 (readN K n : Nat)) ∧ Below w.heap.size w w' := by
  have T0 : Hid (One w (w.alloc (.cells (docC m K) 32)) (docC m K)) := One.new w _
  have HR : Hid (∀ V, Calls Tryd.prog 13 #[.agg (docC m K), .int .i64 n] V fun e w' => e = .returned (.int .u64 (readN K n : Nat)) ∧ Below V.heap.size V w') := fun V => dread_any m _ n hK V
  generalize readN K n = z at *
  clear hK
  go_enter Tryd.func15, Tryd.ntmps15
  go_upto_region 3 with fail
  generalize (w.alloc (.cells (docC m K) 32)) = W at *
  refine wp_region_list ?_
  refine wpList_load_doc rfl _ rfl w.heap.size m K rfl T0.out.1 ?_
  go_wp2_with fail
  refine (HR.out _).mono ?_
  rintro e w3 ⟨rfl, hb3⟩
  go_wp2_with fail
  go_ret
  exact ⟨rfl, (T0.out.step hb3).2⟩
theorem draw_any (m : Int) (K : Nat → Nat) (n : Int) (hK : Ok K) (w : World) : Calls Tryd.prog 15 #[.agg (docC m K), .int .i64 n] w fun e w' => e = .returned (.int .u64 (readN (upd K 2 (K 2 &&& 18446744073709551069)) n : Nat)) ∧ Below w.heap.size w w' := by
  by_cases h1 : n = 836
  · exact draw_yes m K n (.inl h1) hK w
  · by_cases h2 : n = 324
    · exact draw_yes m K n (.inr h2) hK w
    · rw [readN_other K n _ h1 h2]
      exact draw_no m K n (beq_eq_false_iff_ne.2 h1) (beq_eq_false_iff_ne.2 h2) hK w
end Go.Proofs.YtebdlefdkadhnaaDoor
