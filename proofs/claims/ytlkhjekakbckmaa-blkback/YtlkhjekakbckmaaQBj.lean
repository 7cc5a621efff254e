/- Layer 19: a request's beginning is told. -/
import Derived.Test.YtlkhjekakbckmaaYe
import Derived.Laws.StructEq
namespace Go.Proofs.Ytlkhjekakbckmaa
open Go.RowKit Go.Maps
set_option linter.unusedVariables false
set_option linter.unusedSimpArgs false
set_option maxRecDepth 100000
theorem parses_few (w : World) (a : Option Addr) (len0 cap0 : Nat) (h : len0 < 16) : Calls Try.prog 6 #[.slice a len0 cap0] w fun e w' => e = .returned (.bool true) ∧ Below w.heap.size w w' := by
  have e1 : decide ((len0 : Int) < 16) = true := decide_eq_true (by omega)
  have HL : Hid (len0 < 16) := h
  clear h
  go_enter Try.func6, Try.ntmps6
  go_upto_region 3 with (go_at_call 9; refine (awake_any19 _).mono ?_; rintro e w1 ⟨rfl, hb⟩; have X1 : Hid (Below w.heap.size w w1) := hb; clear hb)
  go_upto_region 4 with (go_at_call 26; refine (parse_few HL.out).mono ?_; rintro e w2 ⟨rfl, hb⟩; have X2 : Hid (Below w.heap.size w w2) := below_to X1.out hb; clear hb X1)
  have hb3 : Below w2.heap.size w2 (w2.alloc (.cells #[.int .u32 0, .int .u64 0] 58)) := (Below.refl _ _).alloc (Nat.le_refl _) _
  have X3 : Hid ((w2.alloc (.cells #[.int .u32 0, .int .u64 0] 58)).heap[w2.heap.size]? = some (.cells #[.int .u32 0, .int .u64 0] 58 (0, 0)) ∧ Below w.heap.size w (w2.alloc (.cells #[.int .u32 0, .int .u64 0] 58))) := ⟨heap_alloc_new w2 _, below_to X2.out hb3⟩
  clear X2 hb3
  generalize w2.alloc (.cells #[.int .u32 0, .int .u64 0] 58) = w3 at *
  generalize w2.heap.size = p at *
  have p0 := cellOf X3.out.1 0 (.int .u32 0) rfl
  have p1 := cellOf X3.out.1 1 (.int .u64 0) rfl
  go_wp2_with fail
  go_ret
  exact ⟨rfl, X3.out.2⟩
set_option maxHeartbeats 2000000 in
theorem parses_many (w : World) (b off len0 cap : Nat) (f : Nat → Nat) (hc : ∀ i, i < len0 → w.cell? ⟨b, off + i, none⟩ = some (.int .u8 (f i : Nat))) (hn : 16 ≤ len0) (hcap : len0 ≤ cap) (hf : ∀ i, f i ≤ 255) (hb : b < w.heap.size) : Calls Try.prog 6 #[.slice (some ⟨b, off, none⟩) len0 cap] w fun e w' => e = .returned (.bool true) ∧ Below w.heap.size w w' := by
  have e1 : decide ((len0 : Int) < 16) = false := decide_eq_false (by omega)
  have HP : Hid (∀ V, Below w.heap.size w V → Calls Try.prog 26 #[.slice (some ⟨b, off, none⟩) len0 cap] V fun e w' => e = .returned (.tuple #[.agg #[.int .u32 (h256 f 4 0 : Nat), .int .u64 (h256 (fun i => f (8 + i)) 8 0 : Nat)], .bool true]) ∧ Below V.heap.size V w') := fun V hV => parse_any (fun i hi => (hV.cell hb).trans (hc i hi)) hn hcap hf (Nat.lt_of_lt_of_le hb hV.size)
  have HA : Hid (∀ V, Below w.heap.size w V → Calls Try.prog 27 #[.slice (some ⟨b, off, none⟩) 4 cap] V fun e w' => e = .returned (.int .u64 (h256 f 4 0 : Nat)) ∧ w' = V) := fun V hV => rof_any f 4 4 _ (by decide) rfl (fun i _ => hf i) V (.inr ⟨b, off, cap, rfl, fun i hi => (hV.cell hb).trans (hc i (by omega))⟩)
  have HB : Hid (∀ V, Below w.heap.size w V → Calls Try.prog 27 #[.slice (some ⟨b, off + 8, none⟩) 8 (cap - 8)] V fun e w' => e = .returned (.int .u64 (h256 (fun i => f (8 + i)) 8 0 : Nat)) ∧ w' = V) := fun V hV => rof_any (fun i => f (8 + i)) 8 8 _ (by decide) rfl (fun i _ => hf _) V (.inr ⟨b, off + 8, cap - 8, rfl, fun i hi => by rw [Nat.add_assoc]; exact (hV.cell hb).trans (hc (8 + i) (by omega))⟩)
  have e4 : IntKind.u64.wrap ((h256 f 4 0 : Nat) : Int) = ((h256 f 4 0 : Nat) : Int) := by have := h256_4 hf; rw [wrap_u64]; omega
  have HC : Hid (16 ≤ cap ∧ 16 ≤ len0) := ⟨by omega, hn⟩
  clear hc hn hcap hf hb
  generalize h256 f 4 0 = k at *
  generalize h256 (fun i => f (8 + i)) 8 0 = s at *
  go_enter Try.func6, Try.ntmps6
  go_upto_region 3 with (go_at_call 9; refine (awake_any19 _).mono ?_; rintro e w1 ⟨rfl, hb⟩; have X1 : Hid (Below w.heap.size w w1) := hb; clear hb)
  go_upto_region 4 with (go_at_call 26; refine (HP.out _ X1.out).mono ?_; rintro e w2 ⟨rfl, hb⟩; have X2 : Hid (Below w.heap.size w w2) := below_to X1.out hb; clear hb X1 HP)
  have hb3 : Below w2.heap.size w2 (w2.alloc (.cells #[.int .u32 (k : Int), .int .u64 (s : Int)] 58)) := (Below.refl _ _).alloc (Nat.le_refl _) _
  have X3 : Hid ((w2.alloc (.cells #[.int .u32 (k : Int), .int .u64 (s : Int)] 58)).heap[w2.heap.size]? = some (.cells #[.int .u32 (k : Int), .int .u64 (s : Int)] 58 (0, 0)) ∧ Below w.heap.size w (w2.alloc (.cells #[.int .u32 (k : Int), .int .u64 (s : Int)] 58))) := ⟨heap_alloc_new w2 _, below_to X2.out hb3⟩
  clear X2 hb3
  generalize w2.alloc (.cells #[.int .u32 (k : Int), .int .u64 (s : Int)] 58) = w3 at *
  generalize w2.heap.size = p at *
  go_upto_region 6 with fail
  have Xd : Hid (w3.drew.heap[p]? = some (.cells #[.int .u32 (k : Int), .int .u64 (s : Int)] 58 (0, 0)) ∧ Below w.heap.size w w3.drew) := ⟨X3.out.1, Below.drew X3.out.2⟩
  clear X3
  have p0 := cellOf Xd.out.1 0 (.int .u32 (k : Int)) rfl
  have p1 := cellOf Xd.out.1 1 (.int .u64 (s : Int)) rfl
  refine wp_region_held_drew (S := fun Z => Z.cell? ⟨p, 0, none⟩ = some (.int .u32 (k : Int)) ∧ Z.cell? ⟨p, 1, none⟩ = some (.int .u64 (s : Int))) (by kernel_rfl) ⟨p0, p1⟩ ?_
  intro hS
  generalize w3.drew = wd at *
  refine wpAnyH_take (i := 0) (v := ?_) rfl (by kernel_rfl) (by kernel_rfl) (by kernel_rfl) (fun _ _ _ h => h) (Or.inl ⟨by kernel_rfl, ?_⟩) hS ?_
  rotate_left
  · intro w hSw; (try dsimp only at hSw); go_simp; try (with_reducible rfl)
  (try simp only [Act.put, List.getElem_toArray, List.getElem_cons_succ, List.getElem_cons_zero, List.setIfInBounds_toArray, List.set_cons_zero, List.set_cons_succ])
  refine wpAnyH_take (i := 1) (v := ?_) rfl (by kernel_rfl) (by kernel_rfl) (by kernel_rfl) (fun _ _ _ h => h) (Or.inl ⟨by kernel_rfl, ?_⟩) hS ?_
  rotate_left
  · intro w hSw; (try dsimp only at hSw); go_simp; try (with_reducible rfl)
  (try simp only [Act.put, List.getElem_toArray, List.getElem_cons_succ, List.getElem_cons_zero, List.setIfInBounds_toArray, List.set_cons_zero, List.set_cons_succ])
  refine wpAnyH_take (i := 2) (v := ?_) rfl (by kernel_rfl) (by kernel_rfl) (by kernel_rfl) (fun _ _ _ h => h) (Or.inl ⟨by kernel_rfl, ?_⟩) hS ?_
  rotate_left
  · intro w hSw; (try dsimp only at hSw); go_simp; try (with_reducible rfl)
  (try simp only [Act.put, List.getElem_toArray, List.getElem_cons_succ, List.getElem_cons_zero, List.setIfInBounds_toArray, List.set_cons_zero, List.set_cons_succ])
  refine wpAnyH_take (i := 3) (v := ?_) rfl (by kernel_rfl) (by kernel_rfl) (by kernel_rfl) (fun _ _ _ h => h) (Or.inl ⟨by kernel_rfl, ?_⟩) hS ?_
  rotate_left
  · intro w hSw; (try dsimp only at hSw); go_simp; try (with_reducible rfl)
  (try simp only [Act.put, List.getElem_toArray, List.getElem_cons_succ, List.getElem_cons_zero, List.setIfInBounds_toArray, List.set_cons_zero, List.set_cons_succ])
  refine wpAnyH_take (i := 4) (v := ?_) rfl (by kernel_rfl) (by kernel_rfl) (by kernel_rfl) (fun _ _ _ h => h) (Or.inl ⟨by kernel_rfl, ?_⟩) hS ?_
  rotate_left
  · intro w hSw; (try dsimp only at hSw); go_simp; try (with_reducible rfl)
  (try simp only [Act.put, List.getElem_toArray, List.getElem_cons_succ, List.getElem_cons_zero, List.setIfInBounds_toArray, List.set_cons_zero, List.set_cons_succ])
  refine wpAnyH_take (i := 5) (v := ?_) rfl (by kernel_rfl) (by kernel_rfl) (by kernel_rfl) (fun _ _ _ h => h) (Or.inl ⟨by kernel_rfl, ?_⟩) hS ?_
  rotate_left
  · intro w hSw; (try dsimp only at hSw); go_simp; try (with_reducible rfl)
  (try simp only [Act.put, List.getElem_toArray, List.getElem_cons_succ, List.getElem_cons_zero, List.setIfInBounds_toArray, List.set_cons_zero, List.set_cons_succ])
  refine wpAnyH_take (i := 6) (v := .slice (some ⟨b, off, none⟩) 4 cap) rfl (by kernel_rfl) (by kernel_rfl) (by kernel_rfl) (fun _ _ _ h => h) (Or.inl ⟨by kernel_rfl, by intro V _; have h := run_s4 (b := b) (off := off) (n := len0) HC.out.1 V; simp [execOp, Act.eval, h, Result.andThen]⟩) hS ?_
  (try simp only [Act.put, List.getElem_toArray, List.getElem_cons_succ, List.getElem_cons_zero, List.setIfInBounds_toArray, List.set_cons_zero, List.set_cons_succ])
  refine wpAnyH_ready (rs := [7]) (by kernel_rfl) (by simp) ?_
  refine AllReadyH.cons rfl (fun K1 hK1 => ?_) AllReadyH.nil
  rw [if_pos (by kernel_rfl)]
  go_simp
  refine (HA.out wd Xd.out.2).mono ?_
  rintro e w9 ⟨rfl, hw⟩
  rw [hw]
  clear hw w9
  refine hK1.out _ _ ⟨p0, p1⟩ (fun h2 => ?_)
  clear hK1 K1 hS
  (try simp only [Act.put, List.getElem_toArray, List.getElem_cons_succ, List.getElem_cons_zero, List.setIfInBounds_toArray, List.set_cons_zero, List.set_cons_succ])
  refine wpAnyH_take (i := 8) (v := ?_) rfl (by kernel_rfl) (by kernel_rfl) (by kernel_rfl) (fun _ _ _ h => h) (Or.inl ⟨by kernel_rfl, ?_⟩) h2 ?_
  rotate_left
  · intro w hSw; (try dsimp only at hSw); go_simp; try (with_reducible rfl)
  (try simp only [Act.put, List.getElem_toArray, List.getElem_cons_succ, List.getElem_cons_zero, List.setIfInBounds_toArray, List.set_cons_zero, List.set_cons_succ])
  refine wpAnyH_take (i := 9) (v := ?_) rfl (by kernel_rfl) (by kernel_rfl) (by kernel_rfl) (fun _ _ _ h => h) (Or.inl ⟨by kernel_rfl, ?_⟩) h2 ?_
  rotate_left
  · intro w hSw; (try dsimp only at hSw); go_simp; try (with_reducible rfl)
  (try simp only [Act.put, List.getElem_toArray, List.getElem_cons_succ, List.getElem_cons_zero, List.setIfInBounds_toArray, List.set_cons_zero, List.set_cons_succ])
  refine wpAnyH_take (i := 10) (v := ?_) rfl (by kernel_rfl) (by kernel_rfl) (by kernel_rfl) (fun _ _ _ h => h) (Or.inl ⟨by kernel_rfl, ?_⟩) h2 ?_
  rotate_left
  · intro w hSw; (try dsimp only at hSw); go_simp; try (with_reducible rfl)
  (try simp only [Act.put, List.getElem_toArray, List.getElem_cons_succ, List.getElem_cons_zero, List.setIfInBounds_toArray, List.set_cons_zero, List.set_cons_succ])
  refine wpAnyH_take (i := 11) (v := ?_) rfl (by kernel_rfl) (by kernel_rfl) (by kernel_rfl) (fun _ _ _ h => h) (Or.inl ⟨by kernel_rfl, ?_⟩) h2 ?_
  rotate_left
  · intro w hSw; (try dsimp only at hSw); go_simp; try (with_reducible rfl)
  (try simp only [Act.put, List.getElem_toArray, List.getElem_cons_succ, List.getElem_cons_zero, List.setIfInBounds_toArray, List.set_cons_zero, List.set_cons_succ])
  refine wpAnyH_take (i := 12) (v := ?_) rfl (by kernel_rfl) (by kernel_rfl) (by kernel_rfl) (fun _ _ _ h => h) (Or.inl ⟨by kernel_rfl, ?_⟩) h2 ?_
  rotate_left
  · intro w hSw; (try dsimp only at hSw); go_simp; try (with_reducible rfl)
  (try simp only [Act.put, List.getElem_toArray, List.getElem_cons_succ, List.getElem_cons_zero, List.setIfInBounds_toArray, List.set_cons_zero, List.set_cons_succ])
  refine wpAnyH_take (i := 13) (v := ?_) rfl (by kernel_rfl) (by kernel_rfl) (by kernel_rfl) (fun _ _ _ h => h) (Or.inl ⟨by kernel_rfl, ?_⟩) h2 ?_
  rotate_left
  · intro w hSw; (try dsimp only at hSw); go_simp; try (with_reducible rfl)
  (try simp only [Act.put, List.getElem_toArray, List.getElem_cons_succ, List.getElem_cons_zero, List.setIfInBounds_toArray, List.set_cons_zero, List.set_cons_succ])
  refine wpAnyH_take (i := 14) (v := .slice (some ⟨b, off + 8, none⟩) 8 (cap - 8)) rfl (by kernel_rfl) (by kernel_rfl) (by kernel_rfl) (fun _ _ _ h => h) (Or.inl ⟨by kernel_rfl, by intro V _; have h := run_s8 (b := b) (off := off) (n := len0) HC.out.1 V; simp [execOp, Act.eval, h, Result.andThen]⟩) h2 ?_
  (try simp only [Act.put, List.getElem_toArray, List.getElem_cons_succ, List.getElem_cons_zero, List.setIfInBounds_toArray, List.set_cons_zero, List.set_cons_succ])
  refine wpAnyH_ready (rs := [15]) (by kernel_rfl) (by simp) ?_
  refine AllReadyH.cons rfl (fun K1 hK1 => ?_) AllReadyH.nil
  rw [if_pos (by kernel_rfl)]
  go_simp
  refine (HB.out wd Xd.out.2).mono ?_
  rintro e w9 ⟨rfl, hw⟩
  rw [hw]
  clear hw w9
  refine hK1.out _ _ ⟨p0, p1⟩ (fun h3 => ?_)
  clear hK1 K1 h2
  (try simp only [Act.put, List.getElem_toArray, List.getElem_cons_succ, List.getElem_cons_zero, List.setIfInBounds_toArray, List.set_cons_zero, List.set_cons_succ])
  refine wpAnyH_take (i := 16) (v := ?_) rfl (by kernel_rfl) (by kernel_rfl) (by kernel_rfl) (fun _ _ _ h => h) (Or.inl ⟨by kernel_rfl, ?_⟩) h3 ?_
  rotate_left
  · intro w hSw; (try dsimp only at hSw); go_simp; try (with_reducible rfl)
  (try simp only [Act.put, List.getElem_toArray, List.getElem_cons_succ, List.getElem_cons_zero, List.setIfInBounds_toArray, List.set_cons_zero, List.set_cons_succ])
  refine wpAnyH_take (i := 17) (v := ?_) rfl (by kernel_rfl) (by kernel_rfl) (by kernel_rfl) (fun _ _ _ h => h) (Or.inl ⟨by kernel_rfl, ?_⟩) h3 ?_
  rotate_left
  · intro w hSw; (try dsimp only at hSw); go_simp; try (with_reducible rfl)
  (try simp only [Act.put, List.getElem_toArray, List.getElem_cons_succ, List.getElem_cons_zero, List.setIfInBounds_toArray, List.set_cons_zero, List.set_cons_succ])
  refine wpAnyH_take (i := 18) (v := ?_) rfl (by kernel_rfl) (by kernel_rfl) (by kernel_rfl) (fun _ _ _ h => h) (Or.inl ⟨by kernel_rfl, ?_⟩) h3 ?_
  rotate_left
  · intro w hSw; (try dsimp only at hSw); go_simp; try (with_reducible rfl)
  (try simp only [Act.put, List.getElem_toArray, List.getElem_cons_succ, List.getElem_cons_zero, List.setIfInBounds_toArray, List.set_cons_zero, List.set_cons_succ])
  refine wpAnyH_done (by kernel_rfl) ?_ _
  clear h3
  go_wp2_with fail
  go_ret
  exact ⟨rfl, Xd.out.2⟩
theorem parses_walk (w : World) (a0 : Option Addr) (len0 cap0 : Nat) (z0 : List Int) (w0 : IsRow .u8 w a0 len0 cap0 z0) : Calls Try.prog 6 #[.slice a0 len0 cap0] w fun e w' => e = .returned (.bool true) ∧ Below w.heap.size w w' := by
  by_cases h : len0 < 16
  · exact parses_few w a0 len0 cap0 h
  · obtain ⟨f, hf, hr⟩ := isRow_reads w0
    have hcap : len0 ≤ cap0 := by
      rcases w0 with ⟨_, h0, _⟩ | ⟨x, _, h1, _⟩
      · omega
      · exact h1
    rcases hr with ⟨h0, _⟩ | ⟨b, off, cap, he, hc⟩
    · omega
    · simp only [Value.slice.injEq, true_and] at he
      obtain ⟨rfl, rfl⟩ := he
      exact parses_many w b off len0 _ f hc (by omega) hcap hf (block_lt_of_cell (hc 0 (by omega)))
end Go.Proofs.Ytlkhjekakbckmaa
