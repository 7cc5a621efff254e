/- RingChecks. -/
import Derived.Test.YthnmoalomodbpaaRf
import Derived.Laws.Tables
import Derived.Laws.StructEq
namespace Go.Proofs.Ythnmoalomodbpaa
open Go.RowKit Go.Maps
set_option linter.unusedVariables false
set_option linter.unusedSimpArgs false
set_option maxRecDepth 100000
theorem below_call {w w1 w2 : World} (h1 : Below w.heap.size w w1) (h2 : Below w1.heap.size w1 w2) : Below w.heap.size w w2 := h1.trans (h2.mono h1.size)
theorem cells_alloc {w : World} {b : Nat} {o o2 : Obj} (h : w.heap[b]? = some o) : (w.alloc o2).heap[b]? = some o := below_box h ((Below.refl _ _).alloc (Nat.le_refl _) _)
theorem zero38 (w : World) : (zeroValue 38).run Try.prog w = .ok (.agg #[.int .u64 0, .int .u64 0, .int .u64 0, .int .u64 0, .int .u64 0, .int .u64 0]) w := by kernel_rfl
theorem info38 : (Try.prog.info? 38).map (·.size) = some 6 := by kernel_rfl
/-- the state behind the memory is made: the layout's box, the document's memory's box -/
def St (W V : World) (s : Int) (D A U : Nat) (p : Value) (b : Nat) (rb : Nat) (a : Option Addr) (nn c : Nat) (F : Nat → Prop) (M : Nat → Nat) : Prop :=
  V.heap[W.heap.size]? = some (.cells #[.int .i64 s, .int .u64 (D : Int), .int .u64 (A : Int), .int .u64 (U : Int)] 24 (0, 0)) ∧ V.heap[b]? = some (.cells #[.int .u64 8192, .slice a nn c] 29 (0, 0)) ∧ Both F V rb 8192 (.slice a nn c) 12000 M ∧ (∀ k, F k → W.heap.size < k) ∧ ¬ F b ∧ W.heap.size < b ∧ Below W.heap.size W V
theorem St.step {W V V' : World} {s : Int} {D A U : Nat} {p : Value} {b rb : Nat} {a : Option Addr} {nn c : Nat} {F : Nat → Prop} {M : Nat → Nat} (h : St W V s D A U p b rb a nn c F M) (hb : Below V.heap.size V V') : St W V' s D A U p b rb a nn c F M :=
  ⟨below_box h.1 hb, below_box h.2.1 hb, h.2.2.1.below hb, h.2.2.2.1, h.2.2.2.2.1, h.2.2.2.2.2.1, below_call h.2.2.2.2.2.2 hb⟩
theorem St.made {W w1 w2 : World} {s : Int} {D A U : Nat} {p : Value} {rb : Nat} {a : Option Addr} {nn c : Nat} {F : Nat → Prop} {M : Nat → Nat} (h1 : Below (W.alloc (.cells #[.int .i64 s, .int .u64 (D : Int), .int .u64 (A : Int), .int .u64 (U : Int)] 24)).heap.size (W.alloc (.cells #[.int .i64 s, .int .u64 (D : Int), .int .u64 (A : Int), .int .u64 (U : Int)] 24)) w1) (h2 : Below w1.heap.size w1 w2) (hb : Both F w2 rb 8192 (.slice a nn c) 12000 M) (hF : ∀ k, F k → w1.heap.size ≤ k) : St W (w2.alloc (.cells #[.int .u64 8192, .slice a nn c] 29)) s D A U p w2.heap.size rb a nn c F M := by
  have e1 := heap_alloc_new W (.cells #[.int .i64 s, .int .u64 (D : Int), .int .u64 (A : Int), .int .u64 (U : Int)] 24)
  have hsz : (W.alloc (.cells #[.int .i64 s, .int .u64 (D : Int), .int .u64 (A : Int), .int .u64 (U : Int)] 24)).heap.size = W.heap.size + 1 := by simp
  have h12 := below_call h1 h2
  have hs1 := h1.size
  have hs2 := h2.size
  have hlt := hb.1.lt
  exact ⟨cells_alloc (below_box e1 h12), heap_alloc_new _ _, hb.below ((Below.refl _ _).alloc (Nat.le_refl _) _), fun k hk => by have := hF k hk; omega, fun hf => by have := hlt _ hf; omega, by omega, below_call (below_call ((Below.refl _ _).alloc (Nat.le_refl _) _) h12) ((Below.refl _ _).alloc (Nat.le_refl _) _)⟩
theorem ne_types {w : World} {b p : Nat} {c d : Array Value} {t u : TypeId} {x y : Nat × Nat} (h1 : w.heap[b]? = some (.cells c t x)) (h2 : w.heap[p]? = some (.cells d u y)) (hne : t ≠ u) : b ≠ p := fun h => by
  subst h
  rw [h1] at h2
  injection h2 with h2
  injection h2 with _ h3
  exact hne h3
set_option maxHeartbeats 4000000 in
theorem checks_core (W : World) (s : Int) (D A U : Nat) (hD : D < 18446744073709551616) (hA : A < 18446744073709551616) (hU : U < 18446744073709551616) : Calls Try.prog 3 #[.agg #[.int .i64 s, .int .u64 (D : Int), .int .u64 (A : Int), .int .u64 (U : Int)]] W fun e w' => e = .returned (.bool true) ∧ Below W.heap.size W w' := by
  have hlay : Below W.heap.size W (W.alloc (.cells #[.int .i64 s, .int .u64 (D : Int), .int .u64 (A : Int), .int .u64 (U : Int)] 24)) := (Below.refl _ _).alloc (Nat.le_refl _) _
  go_enter Try.func3, Try.ntmps3
  go_wp2_with fail
  refine (awake_any _).mono ?_
  rintro e w1 ⟨rfl, hb1⟩
  have H1 : Hid (Below (W.alloc (.cells #[.int .i64 s, .int .u64 (D : Int), .int .u64 (A : Int), .int .u64 (U : Int)] 24)).heap.size (W.alloc (.cells #[.int .i64 s, .int .u64 (D : Int), .int .u64 (A : Int), .int .u64 (U : Int)] 24)) w1) := hb1
  clear hb1
  go_wp2_with fail
  refine (memory_any (.slice none 0 0) 0 (fun _ => ⟨0, none, 0, 0, fun _ => 0⟩) _ (.inl ⟨rfl, _, _, rfl⟩)).mono ?_
  rintro e w2 ⟨pv, a, nn, c, rfl, hb2, ⟨_, h0⟩ | ⟨rb, F, M, rfl, hboth, hF⟩⟩
  · omega
  have X : Hid (St W (w2.alloc (.cells #[.int .u64 8192, .slice a nn c] 29)) s D A U (.pointer none) w2.heap.size rb a nn c F M) := St.made H1.out hb2 hboth hF
  clear hb2 hboth hF H1 hlay
  go_upto_region 6 with fail
  generalize w2.heap.size = b8 at *
  generalize w2.alloc (.cells #[.int .u64 8192, .slice a nn c] 29) = w3 at *
  have Xd : Hid (St W w3.drew s D A U (.pointer none) b8 rb a nn c F M) := X.out.step (Below.drew (Below.refl _ _))
  obtain ⟨c0, c1, c2, c3⟩ := box4_facts X.out.1; obtain ⟨d0, d1, _, _⟩ := box_facts X.out.2.1
  have K11 : Hid (∀ V, St W V s D A U (.pointer none) b8 rb a nn c F M → Calls Try.prog 11 #[.pointer (some ⟨rb, 0, none⟩), .agg #[.int .i64 s, .int .u64 (D : Int), .int .u64 (A : Int), .int .u64 (U : Int)]] V fun e w' => e = .returned (.int .i64 (chkN s D A U 8192)) ∧ St W w' s D A U (.pointer none) b8 rb a nn c F M) := fun V hV => (check_any hD hA hU hV.2.2.1.1 (by omega)).mono fun e w' ⟨he, hb⟩ => ⟨he, hV.step hb⟩
  have K12 : Hid (∀ V, St W V s D A U (.pointer none) b8 rb a nn c F M → Calls Try.prog 12 #[.agg #[.int .u64 8192, .slice a nn c], .agg #[.int .i64 s, .int .u64 (D : Int), .int .u64 (A : Int), .int .u64 (U : Int)]] V fun e w' => e = .returned (.int .i64 (chkN s D A U 8192)) ∧ St W w' s D A U (.pointer none) b8 rb a nn c F M) := fun V hV => (rcheck_any hD hA hU 8192 (by omega) a nn c V).mono fun e w' ⟨he, hb⟩ => ⟨he, hV.step hb⟩
  have K13 : Hid (∀ V, St W V s D A U (.pointer none) b8 rb a nn c F M → Calls Try.prog 13 #[.int .i64 s] V fun e w' => e = .returned (.bool (powB s)) ∧ St W w' s D A U (.pointer none) b8 rb a nn c F M) := fun V hV => (power_any s V).mono fun e w' ⟨he, hw⟩ => ⟨he, by rw [hw]; exact hV⟩
  have K14 : Hid (∀ V, St W V s D A U (.pointer none) b8 rb a nn c F M → Calls Try.prog 14 #[.int .i64 s] V fun e w' => e = .returned (.bool (powB s)) ∧ St W w' s D A U (.pointer none) b8 rb a nn c F M) := fun V hV => (rpower_any s V).mono fun e w' ⟨he, q, hw⟩ => ⟨he, by rw [hw]; exact hV.step (below_drewN (Below.refl _ _) q)⟩
  generalize chkN s D A U 8192 = kk at *
  generalize hpw : powB s = pw at *
  clear hpw
  have hkk : (kk == kk) = true := by simp
  have hpp : (pw == pw) = true := by simp
  go_region_held3 (fun Z => Z.cell? ⟨W.heap.size, 0, none⟩ = some (.int .i64 s) ∧ Z.cell? ⟨W.heap.size, 1, none⟩ = some (.int .u64 (D : Int)) ∧ Z.cell? ⟨W.heap.size, 2, none⟩ = some (.int .u64 (A : Int)) ∧ Z.cell? ⟨W.heap.size, 3, none⟩ = some (.int .u64 (U : Int)) ∧ Z.cell? ⟨b8, 0, none⟩ = some (.int .u64 8192) ∧ Z.cell? ⟨b8, 1, none⟩ = some (.slice a nn c)) (go_keep) (first | (go_at_call 11; refine (K11.out _ Xd.out).mono ?_; rintro e w4 ⟨rfl, h4⟩; have XA : Hid (St W w4 s D A U (.pointer none) b8 rb a nn c F M) := h4; clear h4; obtain ⟨e0, e1, e2, e3⟩ := box4_facts XA.out.1; obtain ⟨f0, f1, _, _⟩ := box_facts XA.out.2.1) | (go_at_call 12; refine (K12.out _ XA.out).mono ?_; rintro e w5 ⟨rfl, h5⟩; have XB : Hid (St W w5 s D A U (.pointer none) b8 rb a nn c F M) := h5; clear h5; obtain ⟨g0, g1, g2, g3⟩ := box4_facts XB.out.1; obtain ⟨h0, h1, _, _⟩ := box_facts XB.out.2.1) | (go_at_call 13; refine (K13.out _ XB.out).mono ?_; rintro e w6 ⟨rfl, h6⟩; have XC : Hid (St W w6 s D A U (.pointer none) b8 rb a nn c F M) := h6; clear h6; obtain ⟨i0, i1, i2, i3⟩ := box4_facts XC.out.1; obtain ⟨j0, j1, _, _⟩ := box_facts XC.out.2.1) | (go_at_call 14; refine (K14.out _ XC.out).mono ?_; rintro e w7 ⟨rfl, h7⟩; have XD : Hid (St W w7 s D A U (.pointer none) b8 rb a nn c F M) := h7; clear h7; obtain ⟨k0, k1, k2, k3⟩ := box4_facts XD.out.1; obtain ⟨l0, l1, _, _⟩ := box_facts XD.out.2.1))
  clear Xd XA XB XC K11 K12 K13 K14 X c0 c1 c2 c3 d0 d1 e0 e1 e2 e3 f0 f1 g0 g1 g2 g3 h0 h1 i0 i1 i2 i3 j0 j1
  by_cases hs1 : s < 0
  · go_wp2_with fail
    go_ret
    exact ⟨rfl, XD.out.2.2.2.2.2.2⟩
  by_cases hs2 : (1048576 : Int) < s
  · go_wp2_with fail
    go_ret
    exact ⟨rfl, XD.out.2.2.2.2.2.2⟩
  obtain ⟨n, rfl⟩ : ∃ n : Nat, s = n := ⟨s.toNat, by omega⟩
  have hn : n ≤ 1048576 := by omega
  have HN : Hid (n ≤ 1048576) := hn
  go_upto_region 10 with fail
  clear hn hs1 hs2
  have X0 : Hid (St W w7.drew (n : Int) D A U (.pointer none) b8 rb a nn c F M) := XD.out.step (Below.drew (Below.refl _ _))
  clear XD k0 k1 k2 k3 l0 l1
  refine wp_region_held_drew (S := fun Z => Z.cell? ⟨W.heap.size, 0, none⟩ = some (.int .i64 (n : Int)) ∧ Z.cell? ⟨W.heap.size, 1, none⟩ = some (.int .u64 (D : Int)) ∧ Z.cell? ⟨W.heap.size, 2, none⟩ = some (.int .u64 (A : Int)) ∧ Z.cell? ⟨W.heap.size, 3, none⟩ = some (.int .u64 (U : Int))) (by kernel_rfl) ⟨cellOf X0.out.1 0 _ rfl, cellOf X0.out.1 1 _ rfl, cellOf X0.out.1 2 _ rfl, cellOf X0.out.1 3 _ rfl⟩ ?_
  intro hS
  generalize w7.drew = V0 at *
  refine wpAnyH_take (i := 0) (v := ?_) rfl (by kernel_rfl) (by kernel_rfl) (by kernel_rfl) (fun _ _ _ h => h) (Or.inl ⟨by kernel_rfl, ?_⟩) hS ?_
  rotate_left
  · intro w hSw; (try dsimp only at hSw); go_simp; try (with_reducible rfl)
  (try simp only [Act.put, List.getElem_toArray, List.getElem_cons_succ, List.getElem_cons_zero, List.setIfInBounds_toArray, List.set_cons_zero, List.set_cons_succ])
  refine wpAnyH_take (i := 2) (v := ?_) rfl (by kernel_rfl) (by kernel_rfl) (by kernel_rfl) (fun _ _ _ h => h) (Or.inl ⟨by kernel_rfl, ?_⟩) hS ?_
  rotate_left
  · intro w hSw; (try dsimp only at hSw); go_simp; try (with_reducible rfl)
  (try simp only [Act.put, List.getElem_toArray, List.getElem_cons_succ, List.getElem_cons_zero, List.setIfInBounds_toArray, List.set_cons_zero, List.set_cons_succ])
  refine wpAnyH_ready (rs := [1, 4]) (by kernel_rfl) (by simp) ?_
  refine AllReadyH.cons rfl (fun HH0 HH1 => ?_) (AllReadyH.cons rfl (fun HH0 HH1 => ?_) AllReadyH.nil)
  · have _hm : True := trivial
    go_simp
    refine (areas_any n D A U HN.out _).mono ?_
    rintro e w1 ⟨rfl, hb⟩
    have A1 : Hid (St W w1 (n : Int) D A U (.pointer none) b8 rb a nn c F M) := X0.out.step hb
    clear hb X0
    refine HH1.out _ _ ⟨cellOf A1.out.1 0 _ rfl, cellOf A1.out.1 1 _ rfl, cellOf A1.out.1 2 _ rfl, cellOf A1.out.1 3 _ rfl⟩ (fun hS1 => ?_)
    clear HH1 HH0 hS
    (try simp only [Act.put, List.getElem_toArray, List.getElem_cons_succ, List.getElem_cons_zero, List.setIfInBounds_toArray, List.set_cons_zero, List.set_cons_succ])
    refine wpAnyH_ready (rs := [3, 4]) (by kernel_rfl) (by simp) ?_
    refine AllReadyH.cons rfl (fun HH0 HH1 => ?_) (AllReadyH.cons rfl (fun HH0 HH1 => ?_) AllReadyH.nil)
    · have _hm : True := trivial
      go_simp
      refine (rareas_any n D A U HN.out _).mono ?_
      rintro e w2 ⟨g, rfl, hg, hcl, hb⟩
      have A2 : Hid (St W w2 (n : Int) D A U (.pointer none) b8 rb a nn c F M) := A1.out.step hb
      have G2 : Hid (w2.heap[g]? = some (.cells #[.int .u64 (D : Int), .int .u64 (16 * (n : Int)), .int .u64 (A : Int), .int .u64 (6 + 2 * (n : Int)), .int .u64 (U : Int), .int .u64 (6 + 8 * (n : Int))] 37 (0, 0))) := hcl
      clear hcl hg hb A1
      refine HH1.out _ _ ⟨cellOf A2.out.1 0 _ rfl, cellOf A2.out.1 1 _ rfl, cellOf A2.out.1 2 _ rfl, cellOf A2.out.1 3 _ rfl⟩ (fun hS2 => ?_)
      clear HH1 HH0 hS1
      (try simp only [Act.put, List.getElem_toArray, List.getElem_cons_succ, List.getElem_cons_zero, List.setIfInBounds_toArray, List.set_cons_zero, List.set_cons_succ])
      refine wpAnyH_ready (rs := [4]) (by kernel_rfl) (by simp) ?_
      refine AllReadyH.cons rfl (fun HH0 HH1 => ?_) AllReadyH.nil
      go_simp
      have hb : Below w2.heap.size w2 (w2.alloc (.cells #[.int .u64 0, .int .u64 0, .int .u64 0, .int .u64 0, .int .u64 0, .int .u64 0] 38)) := (Below.refl _ _).alloc (Nat.le_refl _) _
      have A3 : Hid (St W (w2.alloc (.cells #[.int .u64 0, .int .u64 0, .int .u64 0, .int .u64 0, .int .u64 0, .int .u64 0] 38)) (n : Int) D A U (.pointer none) b8 rb a nn c F M) := A2.out.step hb
      have G3 : Hid ((w2.alloc (.cells #[.int .u64 0, .int .u64 0, .int .u64 0, .int .u64 0, .int .u64 0, .int .u64 0] 38)).heap[g]? = some (.cells #[.int .u64 (D : Int), .int .u64 (16 * (n : Int)), .int .u64 (A : Int), .int .u64 (6 + 2 * (n : Int)), .int .u64 (U : Int), .int .u64 (6 + 8 * (n : Int))] 37 (0, 0))) := below_box G2.out hb
      have P3 : Hid ((w2.alloc (.cells #[.int .u64 0, .int .u64 0, .int .u64 0, .int .u64 0, .int .u64 0, .int .u64 0] 38)).heap[w2.heap.size]? = some (.cells #[.int .u64 0, .int .u64 0, .int .u64 0, .int .u64 0, .int .u64 0, .int .u64 0] 38 (0, 0)) ∧ W.heap.size ≤ w2.heap.size) := ⟨heap_alloc_new _ _, A2.out.2.2.2.2.2.2.size⟩
      clear hb A2 G2
      generalize w2.alloc (.cells #[.int .u64 0, .int .u64 0, .int .u64 0, .int .u64 0, .int .u64 0, .int .u64 0] 38) = w3 at *
      generalize w2.heap.size = p at *
      refine HH1.out _ _ ⟨cellOf A3.out.1 0 _ rfl, cellOf A3.out.1 1 _ rfl, cellOf A3.out.1 2 _ rfl, cellOf A3.out.1 3 _ rfl⟩ (fun hS3 => ?_)
      clear HH1 HH0 hS2
      (try simp only [Act.put, List.getElem_toArray, List.getElem_cons_succ, List.getElem_cons_zero, List.setIfInBounds_toArray, List.set_cons_zero, List.set_cons_succ])
      refine wpAnyH_ready (rs := [5]) (by kernel_rfl) (by simp) ?_
      refine AllReadyH.cons rfl (fun HH0 HH1 => ?_) AllReadyH.nil
      rw [if_pos (by kernel_rfl)]
      refine wp_store_row 38 _ _ rfl p #[.int .u64 (D : Int), .int .u64 (16 * (n : Int)), .int .u64 (A : Int), .int .u64 (6 + 2 * (n : Int)), .int .u64 (U : Int), .int .u64 (6 + 8 * (n : Int))] rfl rfl 38 #[.int .u64 0, .int .u64 0, .int .u64 0, .int .u64 0, .int .u64 0, .int .u64 0] P3.out.1 info38 rfl (by simp [Value.oneCell']) ?_
      have Y : Hid ((w3.setRow p #[.int .u64 (D : Int), .int .u64 (16 * (n : Int)), .int .u64 (A : Int), .int .u64 (6 + 2 * (n : Int)), .int .u64 (U : Int), .int .u64 (6 + 8 * (n : Int))]).heap[p]? = some (.cells #[.int .u64 (D : Int), .int .u64 (16 * (n : Int)), .int .u64 (A : Int), .int .u64 (6 + 2 * (n : Int)), .int .u64 (U : Int), .int .u64 (6 + 8 * (n : Int))] 38 (0, 0)) ∧ (w3.setRow p #[.int .u64 (D : Int), .int .u64 (16 * (n : Int)), .int .u64 (A : Int), .int .u64 (6 + 2 * (n : Int)), .int .u64 (U : Int), .int .u64 (6 + 8 * (n : Int))]).heap[g]? = some (.cells #[.int .u64 (D : Int), .int .u64 (16 * (n : Int)), .int .u64 (A : Int), .int .u64 (6 + 2 * (n : Int)), .int .u64 (U : Int), .int .u64 (6 + 8 * (n : Int))] 37 (0, 0)) ∧ (w3.setRow p #[.int .u64 (D : Int), .int .u64 (16 * (n : Int)), .int .u64 (A : Int), .int .u64 (6 + 2 * (n : Int)), .int .u64 (U : Int), .int .u64 (6 + 8 * (n : Int))]).heap[W.heap.size]? = some (.cells #[.int .i64 (n : Int), .int .u64 (D : Int), .int .u64 (A : Int), .int .u64 (U : Int)] 24 (0, 0)) ∧ Below W.heap.size W (w3.setRow p #[.int .u64 (D : Int), .int .u64 (16 * (n : Int)), .int .u64 (A : Int), .int .u64 (6 + 2 * (n : Int)), .int .u64 (U : Int), .int .u64 (6 + 8 * (n : Int))])) := ⟨setRow_heap _ _ _ _ _ _ P3.out.1, by rw [setRow_other _ _ _ _ (ne_types G3.out P3.out.1 (by decide))]; exact G3.out, by rw [setRow_other _ _ _ _ (ne_types A3.out.1 P3.out.1 (by decide))]; exact A3.out.1, below_setRow A3.out.2.2.2.2.2.2 P3.out.2 _⟩
      clear A3 P3 G3
      generalize w3.setRow p #[.int .u64 (D : Int), .int .u64 (16 * (n : Int)), .int .u64 (A : Int), .int .u64 (6 + 2 * (n : Int)), .int .u64 (U : Int), .int .u64 (6 + 8 * (n : Int))] = V9 at *
      refine HH1.out _ _ ⟨cellOf Y.out.2.2.1 0 _ rfl, cellOf Y.out.2.2.1 1 _ rfl, cellOf Y.out.2.2.1 2 _ rfl, cellOf Y.out.2.2.1 3 _ rfl⟩ (fun hS9 => ?_)
      clear HH1 HH0 hS3
      (try simp only [Act.put, List.getElem_toArray, List.getElem_cons_succ, List.getElem_cons_zero, List.setIfInBounds_toArray, List.set_cons_zero, List.set_cons_succ])
      refine wpAnyH_take (i := 6) (v := ?_) rfl (by kernel_rfl) (by kernel_rfl) (by kernel_rfl) (fun _ _ _ h => h) (Or.inl ⟨by kernel_rfl, ?_⟩) hS9 ?_
      rotate_left
      · intro w hSw; (try dsimp only at hSw); go_simp; try (with_reducible rfl)
      (try simp only [Act.put, List.getElem_toArray, List.getElem_cons_succ, List.getElem_cons_zero, List.setIfInBounds_toArray, List.set_cons_zero, List.set_cons_succ])
      refine wpAnyH_done (by kernel_rfl) ?_ _
      clear hS9
      obtain ⟨m0, m1, m2, m3, m4, m5⟩ := box6_facts Y.out.1
      obtain ⟨o0, o1, o2, o3, o4, o5⟩ := box6_facts Y.out.2.1
      go_upto_region 11 with fail
      go_quiet (fail)
      go_wp2_with fail
      go_ret
      exact ⟨ret_bool (by simp), below_drewN Y.out.2.2.2 _⟩
    · have _hm : True := trivial
      go_simp
      have hb : Below w1.heap.size w1 (w1.alloc (.cells #[.int .u64 0, .int .u64 0, .int .u64 0, .int .u64 0, .int .u64 0, .int .u64 0] 38)) := (Below.refl _ _).alloc (Nat.le_refl _) _
      have A2 : Hid (St W (w1.alloc (.cells #[.int .u64 0, .int .u64 0, .int .u64 0, .int .u64 0, .int .u64 0, .int .u64 0] 38)) (n : Int) D A U (.pointer none) b8 rb a nn c F M) := A1.out.step hb
      have P2 : Hid ((w1.alloc (.cells #[.int .u64 0, .int .u64 0, .int .u64 0, .int .u64 0, .int .u64 0, .int .u64 0] 38)).heap[w1.heap.size]? = some (.cells #[.int .u64 0, .int .u64 0, .int .u64 0, .int .u64 0, .int .u64 0, .int .u64 0] 38 (0, 0)) ∧ W.heap.size ≤ w1.heap.size) := ⟨heap_alloc_new _ _, A1.out.2.2.2.2.2.2.size⟩
      clear hb A1
      generalize w1.alloc (.cells #[.int .u64 0, .int .u64 0, .int .u64 0, .int .u64 0, .int .u64 0, .int .u64 0] 38) = w2 at *
      generalize w1.heap.size = p at *
      refine HH1.out _ _ ⟨cellOf A2.out.1 0 _ rfl, cellOf A2.out.1 1 _ rfl, cellOf A2.out.1 2 _ rfl, cellOf A2.out.1 3 _ rfl⟩ (fun hS2 => ?_)
      clear HH1 HH0 hS1
      (try simp only [Act.put, List.getElem_toArray, List.getElem_cons_succ, List.getElem_cons_zero, List.setIfInBounds_toArray, List.set_cons_zero, List.set_cons_succ])
      refine wpAnyH_ready (rs := [3]) (by kernel_rfl) (by simp) ?_
      refine AllReadyH.cons rfl (fun HH0 HH1 => ?_) AllReadyH.nil
      go_simp
      refine (rareas_any n D A U HN.out _).mono ?_
      rintro e w3 ⟨g, rfl, hg, hcl, hb⟩
      have A3 : Hid (St W w3 (n : Int) D A U (.pointer none) b8 rb a nn c F M) := A2.out.step hb
      have P3 : Hid (w3.heap[p]? = some (.cells #[.int .u64 0, .int .u64 0, .int .u64 0, .int .u64 0, .int .u64 0, .int .u64 0] 38 (0, 0)) ∧ W.heap.size ≤ p) := ⟨below_box P2.out.1 hb, P2.out.2⟩
      have G3 : Hid (w3.heap[g]? = some (.cells #[.int .u64 (D : Int), .int .u64 (16 * (n : Int)), .int .u64 (A : Int), .int .u64 (6 + 2 * (n : Int)), .int .u64 (U : Int), .int .u64 (6 + 8 * (n : Int))] 37 (0, 0))) := hcl
      clear hcl hg hb A2 P2
      refine HH1.out _ _ ⟨cellOf A3.out.1 0 _ rfl, cellOf A3.out.1 1 _ rfl, cellOf A3.out.1 2 _ rfl, cellOf A3.out.1 3 _ rfl⟩ (fun hS3 => ?_)
      clear HH1 HH0 hS2
      (try simp only [Act.put, List.getElem_toArray, List.getElem_cons_succ, List.getElem_cons_zero, List.setIfInBounds_toArray, List.set_cons_zero, List.set_cons_succ])
      refine wpAnyH_ready (rs := [5]) (by kernel_rfl) (by simp) ?_
      refine AllReadyH.cons rfl (fun HH0 HH1 => ?_) AllReadyH.nil
      rw [if_pos (by kernel_rfl)]
      refine wp_store_row 38 _ _ rfl p #[.int .u64 (D : Int), .int .u64 (16 * (n : Int)), .int .u64 (A : Int), .int .u64 (6 + 2 * (n : Int)), .int .u64 (U : Int), .int .u64 (6 + 8 * (n : Int))] rfl rfl 38 #[.int .u64 0, .int .u64 0, .int .u64 0, .int .u64 0, .int .u64 0, .int .u64 0] P3.out.1 info38 rfl (by simp [Value.oneCell']) ?_
      have Y : Hid ((w3.setRow p #[.int .u64 (D : Int), .int .u64 (16 * (n : Int)), .int .u64 (A : Int), .int .u64 (6 + 2 * (n : Int)), .int .u64 (U : Int), .int .u64 (6 + 8 * (n : Int))]).heap[p]? = some (.cells #[.int .u64 (D : Int), .int .u64 (16 * (n : Int)), .int .u64 (A : Int), .int .u64 (6 + 2 * (n : Int)), .int .u64 (U : Int), .int .u64 (6 + 8 * (n : Int))] 38 (0, 0)) ∧ (w3.setRow p #[.int .u64 (D : Int), .int .u64 (16 * (n : Int)), .int .u64 (A : Int), .int .u64 (6 + 2 * (n : Int)), .int .u64 (U : Int), .int .u64 (6 + 8 * (n : Int))]).heap[g]? = some (.cells #[.int .u64 (D : Int), .int .u64 (16 * (n : Int)), .int .u64 (A : Int), .int .u64 (6 + 2 * (n : Int)), .int .u64 (U : Int), .int .u64 (6 + 8 * (n : Int))] 37 (0, 0)) ∧ (w3.setRow p #[.int .u64 (D : Int), .int .u64 (16 * (n : Int)), .int .u64 (A : Int), .int .u64 (6 + 2 * (n : Int)), .int .u64 (U : Int), .int .u64 (6 + 8 * (n : Int))]).heap[W.heap.size]? = some (.cells #[.int .i64 (n : Int), .int .u64 (D : Int), .int .u64 (A : Int), .int .u64 (U : Int)] 24 (0, 0)) ∧ Below W.heap.size W (w3.setRow p #[.int .u64 (D : Int), .int .u64 (16 * (n : Int)), .int .u64 (A : Int), .int .u64 (6 + 2 * (n : Int)), .int .u64 (U : Int), .int .u64 (6 + 8 * (n : Int))])) := ⟨setRow_heap _ _ _ _ _ _ P3.out.1, by rw [setRow_other _ _ _ _ (ne_types G3.out P3.out.1 (by decide))]; exact G3.out, by rw [setRow_other _ _ _ _ (ne_types A3.out.1 P3.out.1 (by decide))]; exact A3.out.1, below_setRow A3.out.2.2.2.2.2.2 P3.out.2 _⟩
      clear A3 P3 G3
      generalize w3.setRow p #[.int .u64 (D : Int), .int .u64 (16 * (n : Int)), .int .u64 (A : Int), .int .u64 (6 + 2 * (n : Int)), .int .u64 (U : Int), .int .u64 (6 + 8 * (n : Int))] = V9 at *
      refine HH1.out _ _ ⟨cellOf Y.out.2.2.1 0 _ rfl, cellOf Y.out.2.2.1 1 _ rfl, cellOf Y.out.2.2.1 2 _ rfl, cellOf Y.out.2.2.1 3 _ rfl⟩ (fun hS9 => ?_)
      clear HH1 HH0 hS3
      (try simp only [Act.put, List.getElem_toArray, List.getElem_cons_succ, List.getElem_cons_zero, List.setIfInBounds_toArray, List.set_cons_zero, List.set_cons_succ])
      refine wpAnyH_take (i := 6) (v := ?_) rfl (by kernel_rfl) (by kernel_rfl) (by kernel_rfl) (fun _ _ _ h => h) (Or.inl ⟨by kernel_rfl, ?_⟩) hS9 ?_
      rotate_left
      · intro w hSw; (try dsimp only at hSw); go_simp; try (with_reducible rfl)
      (try simp only [Act.put, List.getElem_toArray, List.getElem_cons_succ, List.getElem_cons_zero, List.setIfInBounds_toArray, List.set_cons_zero, List.set_cons_succ])
      refine wpAnyH_done (by kernel_rfl) ?_ _
      clear hS9
      obtain ⟨m0, m1, m2, m3, m4, m5⟩ := box6_facts Y.out.1
      obtain ⟨o0, o1, o2, o3, o4, o5⟩ := box6_facts Y.out.2.1
      go_upto_region 11 with fail
      go_quiet (fail)
      go_wp2_with fail
      go_ret
      exact ⟨ret_bool (by simp), below_drewN Y.out.2.2.2 _⟩
  · have _hm : True := trivial
    go_simp
    have hb : Below V0.heap.size V0 (V0.alloc (.cells #[.int .u64 0, .int .u64 0, .int .u64 0, .int .u64 0, .int .u64 0, .int .u64 0] 38)) := (Below.refl _ _).alloc (Nat.le_refl _) _
    have A1 : Hid (St W (V0.alloc (.cells #[.int .u64 0, .int .u64 0, .int .u64 0, .int .u64 0, .int .u64 0, .int .u64 0] 38)) (n : Int) D A U (.pointer none) b8 rb a nn c F M) := X0.out.step hb
    have P1 : Hid ((V0.alloc (.cells #[.int .u64 0, .int .u64 0, .int .u64 0, .int .u64 0, .int .u64 0, .int .u64 0] 38)).heap[V0.heap.size]? = some (.cells #[.int .u64 0, .int .u64 0, .int .u64 0, .int .u64 0, .int .u64 0, .int .u64 0] 38 (0, 0)) ∧ W.heap.size ≤ V0.heap.size) := ⟨heap_alloc_new _ _, X0.out.2.2.2.2.2.2.size⟩
    clear hb X0
    generalize V0.alloc (.cells #[.int .u64 0, .int .u64 0, .int .u64 0, .int .u64 0, .int .u64 0, .int .u64 0] 38) = w1 at *
    generalize V0.heap.size = p at *
    refine HH1.out _ _ ⟨cellOf A1.out.1 0 _ rfl, cellOf A1.out.1 1 _ rfl, cellOf A1.out.1 2 _ rfl, cellOf A1.out.1 3 _ rfl⟩ (fun hS1 => ?_)
    clear HH1 HH0 hS
    (try simp only [Act.put, List.getElem_toArray, List.getElem_cons_succ, List.getElem_cons_zero, List.setIfInBounds_toArray, List.set_cons_zero, List.set_cons_succ])
    refine wpAnyH_ready (rs := [1]) (by kernel_rfl) (by simp) ?_
    refine AllReadyH.cons rfl (fun HH0 HH1 => ?_) AllReadyH.nil
    go_simp
    refine (areas_any n D A U HN.out _).mono ?_
    rintro e w2 ⟨rfl, hb⟩
    have A2 : Hid (St W w2 (n : Int) D A U (.pointer none) b8 rb a nn c F M) := A1.out.step hb
    have P2 : Hid (w2.heap[p]? = some (.cells #[.int .u64 0, .int .u64 0, .int .u64 0, .int .u64 0, .int .u64 0, .int .u64 0] 38 (0, 0)) ∧ W.heap.size ≤ p) := ⟨below_box P1.out.1 hb, P1.out.2⟩
    clear hb A1 P1
    refine HH1.out _ _ ⟨cellOf A2.out.1 0 _ rfl, cellOf A2.out.1 1 _ rfl, cellOf A2.out.1 2 _ rfl, cellOf A2.out.1 3 _ rfl⟩ (fun hS2 => ?_)
    clear HH1 HH0 hS1
    (try simp only [Act.put, List.getElem_toArray, List.getElem_cons_succ, List.getElem_cons_zero, List.setIfInBounds_toArray, List.set_cons_zero, List.set_cons_succ])
    refine wpAnyH_ready (rs := [3]) (by kernel_rfl) (by simp) ?_
    refine AllReadyH.cons rfl (fun HH0 HH1 => ?_) AllReadyH.nil
    go_simp
    refine (rareas_any n D A U HN.out _).mono ?_
    rintro e w3 ⟨g, rfl, hg, hcl, hb⟩
    have A3 : Hid (St W w3 (n : Int) D A U (.pointer none) b8 rb a nn c F M) := A2.out.step hb
    have P3 : Hid (w3.heap[p]? = some (.cells #[.int .u64 0, .int .u64 0, .int .u64 0, .int .u64 0, .int .u64 0, .int .u64 0] 38 (0, 0)) ∧ W.heap.size ≤ p) := ⟨below_box P2.out.1 hb, P2.out.2⟩
    have G3 : Hid (w3.heap[g]? = some (.cells #[.int .u64 (D : Int), .int .u64 (16 * (n : Int)), .int .u64 (A : Int), .int .u64 (6 + 2 * (n : Int)), .int .u64 (U : Int), .int .u64 (6 + 8 * (n : Int))] 37 (0, 0))) := hcl
    clear hcl hg hb A2 P2
    refine HH1.out _ _ ⟨cellOf A3.out.1 0 _ rfl, cellOf A3.out.1 1 _ rfl, cellOf A3.out.1 2 _ rfl, cellOf A3.out.1 3 _ rfl⟩ (fun hS3 => ?_)
    clear HH1 HH0 hS2
    (try simp only [Act.put, List.getElem_toArray, List.getElem_cons_succ, List.getElem_cons_zero, List.setIfInBounds_toArray, List.set_cons_zero, List.set_cons_succ])
    refine wpAnyH_ready (rs := [5]) (by kernel_rfl) (by simp) ?_
    refine AllReadyH.cons rfl (fun HH0 HH1 => ?_) AllReadyH.nil
    rw [if_pos (by kernel_rfl)]
    refine wp_store_row 38 _ _ rfl p #[.int .u64 (D : Int), .int .u64 (16 * (n : Int)), .int .u64 (A : Int), .int .u64 (6 + 2 * (n : Int)), .int .u64 (U : Int), .int .u64 (6 + 8 * (n : Int))] rfl rfl 38 #[.int .u64 0, .int .u64 0, .int .u64 0, .int .u64 0, .int .u64 0, .int .u64 0] P3.out.1 info38 rfl (by simp [Value.oneCell']) ?_
    have Y : Hid ((w3.setRow p #[.int .u64 (D : Int), .int .u64 (16 * (n : Int)), .int .u64 (A : Int), .int .u64 (6 + 2 * (n : Int)), .int .u64 (U : Int), .int .u64 (6 + 8 * (n : Int))]).heap[p]? = some (.cells #[.int .u64 (D : Int), .int .u64 (16 * (n : Int)), .int .u64 (A : Int), .int .u64 (6 + 2 * (n : Int)), .int .u64 (U : Int), .int .u64 (6 + 8 * (n : Int))] 38 (0, 0)) ∧ (w3.setRow p #[.int .u64 (D : Int), .int .u64 (16 * (n : Int)), .int .u64 (A : Int), .int .u64 (6 + 2 * (n : Int)), .int .u64 (U : Int), .int .u64 (6 + 8 * (n : Int))]).heap[g]? = some (.cells #[.int .u64 (D : Int), .int .u64 (16 * (n : Int)), .int .u64 (A : Int), .int .u64 (6 + 2 * (n : Int)), .int .u64 (U : Int), .int .u64 (6 + 8 * (n : Int))] 37 (0, 0)) ∧ (w3.setRow p #[.int .u64 (D : Int), .int .u64 (16 * (n : Int)), .int .u64 (A : Int), .int .u64 (6 + 2 * (n : Int)), .int .u64 (U : Int), .int .u64 (6 + 8 * (n : Int))]).heap[W.heap.size]? = some (.cells #[.int .i64 (n : Int), .int .u64 (D : Int), .int .u64 (A : Int), .int .u64 (U : Int)] 24 (0, 0)) ∧ Below W.heap.size W (w3.setRow p #[.int .u64 (D : Int), .int .u64 (16 * (n : Int)), .int .u64 (A : Int), .int .u64 (6 + 2 * (n : Int)), .int .u64 (U : Int), .int .u64 (6 + 8 * (n : Int))])) := ⟨setRow_heap _ _ _ _ _ _ P3.out.1, by rw [setRow_other _ _ _ _ (ne_types G3.out P3.out.1 (by decide))]; exact G3.out, by rw [setRow_other _ _ _ _ (ne_types A3.out.1 P3.out.1 (by decide))]; exact A3.out.1, below_setRow A3.out.2.2.2.2.2.2 P3.out.2 _⟩
    clear A3 P3 G3
    generalize w3.setRow p #[.int .u64 (D : Int), .int .u64 (16 * (n : Int)), .int .u64 (A : Int), .int .u64 (6 + 2 * (n : Int)), .int .u64 (U : Int), .int .u64 (6 + 8 * (n : Int))] = V9 at *
    refine HH1.out _ _ ⟨cellOf Y.out.2.2.1 0 _ rfl, cellOf Y.out.2.2.1 1 _ rfl, cellOf Y.out.2.2.1 2 _ rfl, cellOf Y.out.2.2.1 3 _ rfl⟩ (fun hS9 => ?_)
    clear HH1 HH0 hS3
    (try simp only [Act.put, List.getElem_toArray, List.getElem_cons_succ, List.getElem_cons_zero, List.setIfInBounds_toArray, List.set_cons_zero, List.set_cons_succ])
    refine wpAnyH_take (i := 6) (v := ?_) rfl (by kernel_rfl) (by kernel_rfl) (by kernel_rfl) (fun _ _ _ h => h) (Or.inl ⟨by kernel_rfl, ?_⟩) hS9 ?_
    rotate_left
    · intro w hSw; (try dsimp only at hSw); go_simp; try (with_reducible rfl)
    (try simp only [Act.put, List.getElem_toArray, List.getElem_cons_succ, List.getElem_cons_zero, List.setIfInBounds_toArray, List.set_cons_zero, List.set_cons_succ])
    refine wpAnyH_done (by kernel_rfl) ?_ _
    clear hS9
    obtain ⟨m0, m1, m2, m3, m4, m5⟩ := box6_facts Y.out.1
    obtain ⟨o0, o1, o2, o3, o4, o5⟩ := box6_facts Y.out.2.1
    go_upto_region 11 with fail
    go_quiet (fail)
    go_wp2_with fail
    go_ret
    exact ⟨ret_bool (by simp), below_drewN Y.out.2.2.2 _⟩
end Go.Proofs.Ythnmoalomodbpaa
