/- The document's Put, Publish and Want. -/
import Derived.Test.YthnmoalomodbpaaRn
namespace Go.Proofs.Ythnmoalomodbpaa
open Go.RowKit Go.Maps
set_option linter.unusedVariables false
set_option linter.unusedSimpArgs false
set_option maxRecDepth 100000
/-- the three boxes of a call: the memory, the layout, what is told -/
def Tri (w V : World) (va : Option Addr) (nn vc n D A U : Nat) : Prop :=
  V.heap[w.heap.size]? = some (.cells #[.int .u64 8192, .slice va nn vc] 29 (0, 0)) ∧ V.heap[w.heap.size + 1]? = some (.cells #[.int .i64 (n : Int), .int .u64 (D : Int), .int .u64 (A : Int), .int .u64 (U : Int)] 24 (0, 0)) ∧ V.heap[w.heap.size + 2]? = some (.cells #[.int .u64 0, .slice none 0 0] 29 (0, 0)) ∧ Below w.heap.size w V
theorem Tri.step {w V V' : World} {va : Option Addr} {nn vc n D A U : Nat} (h : Tri w V va nn vc n D A U) (hb : Below V.heap.size V V') : Tri w V' va nn vc n D A U := ⟨below_box h.1 hb, below_box h.2.1 hb, below_box h.2.2.1 hb, below_to h.2.2.2 hb⟩
theorem Tri.new (w : World) (va : Option Addr) (nn vc n D A U : Nat) : Tri w (((w.alloc (.cells #[.int .u64 8192, .slice va nn vc] 29)).alloc (.cells #[.int .i64 (n : Int), .int .u64 (D : Int), .int .u64 (A : Int), .int .u64 (U : Int)] 24)).alloc (.cells #[.int .u64 0, .slice none 0 0] 29)) va nn vc n D A U := by
  have h := two_in w (.cells #[.int .u64 8192, .slice va nn vc] 29) (.cells #[.int .i64 (n : Int), .int .u64 (D : Int), .int .u64 (A : Int), .int .u64 (U : Int)] 24)
  have e2 : ((w.alloc (.cells #[.int .u64 8192, .slice va nn vc] 29)).alloc (.cells #[.int .i64 (n : Int), .int .u64 (D : Int), .int .u64 (A : Int), .int .u64 (U : Int)] 24)).heap.size = w.heap.size + 2 := by simp
  have h3 := heap_alloc_new ((w.alloc (.cells #[.int .u64 8192, .slice va nn vc] 29)).alloc (.cells #[.int .i64 (n : Int), .int .u64 (D : Int), .int .u64 (A : Int), .int .u64 (U : Int)] 24)) (.cells #[.int .u64 0, .slice none 0 0] 29)
  rw [e2] at h3
  exact ⟨cells_alloc h.1, cells_alloc h.2, h3, below_to (two_boxes w _ _) (one_box _ _)⟩
def Two6 (w V : World) (F : Nat → Prop) (a6 : Option Addr) (n6 c6 n D A U : Nat) (bs6 : Nat → Nat × Nat) : Prop :=
  V.heap[w.heap.size]? = some (.cells #[.int .u64 8192, .slice a6 n6 c6] 29 (0, 0)) ∧ V.heap[w.heap.size + 1]? = some (.cells #[.int .i64 (n : Int), .int .u64 (D : Int), .int .u64 (A : Int), .int .u64 (U : Int)] 24 (0, 0)) ∧ V.heap[w.heap.size + 2]? = some (.cells #[.int .u64 0, .slice none 0 0] 29 (0, 0)) ∧ RefIn F V (.slice a6 n6 c6) n6 bs6 ∧ Below w.heap.size w V
/-- the answer is laid into the first box, then into the third -/
theorem tri_end {w V : World} {F : Nat → Prop} {va a6 : Option Addr} {nn vc n D A U n6 c6 : Nat} {bs6 : Nat → Nat × Nat} (h : Tri w V va nn vc n D A U) (hr : RefIn F V (.slice a6 n6 c6) n6 bs6) :
    Two6 w ((V.setCell ⟨w.heap.size, 0, none⟩ (.int .u64 8192)).setCell ⟨w.heap.size, 1, none⟩ (.slice a6 n6 c6)) F a6 n6 c6 n D A U bs6 := by
  have hq := (box_facts h.1).2.1
  have hq' : (V.setCell ⟨w.heap.size, 0, none⟩ (.int .u64 8192)).cell? ⟨w.heap.size, 1, none⟩ = some (.slice va nn vc) := by
    rw [World.cell?_setCell_other _ _ _ _ (fun h => by simp at h)]; exact hq
  exact ⟨box_set h.1, box_other h.2.1 (by omega), box_other h.2.2.1 (by omega), (hr.setBox hq 0 _).setBox hq' 1 _, (h.2.2.2.setCell (p := ⟨w.heap.size, 0, none⟩) (Nat.le_refl _) _).setCell (p := ⟨w.heap.size, 1, none⟩) (Nat.le_refl _) _⟩
theorem two6_end {w V : World} {F : Nat → Prop} {a6 : Option Addr} {n D A U n6 c6 : Nat} {bs6 : Nat → Nat × Nat} (h : Two6 w V F a6 n6 c6 n D A U bs6) :
    RefIn F ((V.setCell ⟨w.heap.size + 2, 0, none⟩ (.int .u64 8192)).setCell ⟨w.heap.size + 2, 1, none⟩ (.slice a6 n6 c6)) (.slice a6 n6 c6) n6 bs6 ∧ Below w.heap.size w ((V.setCell ⟨w.heap.size + 2, 0, none⟩ (.int .u64 8192)).setCell ⟨w.heap.size + 2, 1, none⟩ (.slice a6 n6 c6)) := by
  have hq := (box_facts h.2.2.1).2.1
  have hq' : (V.setCell ⟨w.heap.size + 2, 0, none⟩ (.int .u64 8192)).cell? ⟨w.heap.size + 2, 1, none⟩ = some (.slice none 0 0) := by
    rw [World.cell?_setCell_other _ _ _ _ (fun h => by simp at h)]; exact hq
  have hle : w.heap.size ≤ w.heap.size + 2 := by omega
  exact ⟨(h.2.2.2.1.setBox hq 0 _).setBox hq' 1 _, (h.2.2.2.2.setCell (p := ⟨w.heap.size + 2, 0, none⟩) hle _).setCell (p := ⟨w.heap.size + 2, 1, none⟩) hle _⟩
set_option maxHeartbeats 2000000 in
theorem rpublish_any {F : Nat → Prop} {w : World} {nn vc : Nat} {va : Option Addr} {bs : Nat → Nat × Nat} {M : Nat → Nat} (h : RefIn F w (.slice va nn vc) nn bs) (hM : ∀ a, rget bs nn a = M a) (hle : ∀ a, M a ≤ 255) (hn : nn ≤ 1000000) (hF : ∀ k, F k → k < w.heap.size) (hrg : Rng bs nn 8192) {n D A U : Nat} (hg : Gd n D A U) (m : Nat) (hm : m ≤ 65535) : Calls Try.prog 35 #[.agg #[.int .u64 8192, .slice va nn vc], .agg #[.int .i64 (n : Int), .int .u64 (D : Int), .int .u64 (A : Int), .int .u64 (U : Int)], .int .i64 (m : Int)] w fun e w' => ∃ a' n' c' bs', e = .returned (.agg #[.int .u64 8192, .slice a' n' c']) ∧ n' ≤ nn + 2 ∧ RefIn F w' (.slice a' n' c') n' bs' ∧ (∀ a, rget bs' n' a = over M (U + 2) 2 (byteAt m) a) ∧ Rng bs' n' 8192 ∧ Below w.heap.size w w' := by
  have g1 := hg.u1
  have g2 := hg.u2
  have g3 := hg.n2
  have g4 := hg.n1
  have em : IntKind.u64.wrap (m : Int) = (m : Int) := by rw [wrap_u64]; omega
  obtain ⟨x, qx⟩ : ∃ y : Nat, y = U + 2 := ⟨_, rfl⟩
  have wx : IntKind.u64.wrap ((U : Int) + 2) = (x : Int) := by rw [wrap_u64]; omega
  have HX : Hid (U + 2 = x ∧ x < 18446744073709551616) := ⟨by omega, by omega⟩
  have hin : inB x 2 2147483648 8192 = true := by simp only [inB, decide_eq_true_iff]; omega
  have HW : Hid (∀ V, Below w.heap.size w V → ∀ dv, Reads .u8 V dv 2 (byteAt m) → Calls Try.prog 45 #[.agg #[.int .u64 8192, .slice va nn vc], .int .u64 (x : Int), dv] V fun e w' => ∃ a' n' c' bs', e = .returned (.tuple #[.agg #[.int .u64 8192, .slice a' n' c'], .bool true]) ∧ (n' ≤ nn + 2 ∧ RefIn F w' (.slice a' n' c') n' bs' ∧ (∀ a, rget bs' n' a = over M x 2 (byteAt m) a) ∧ Rng bs' n' 8192) ∧ Below V.heap.size V w') := fun V hV dv hdv => (rwr_any F V x 2 (.slice va nn vc) dv nn bs (byteAt m) true hin (h.below hV) hdv (fun k hk => Nat.lt_of_lt_of_le (hF k hk) hV.size) hn HX.out.2 (by decide)).mono fun e w' ⟨a', n', c', bs', he, h1, h2, h3, h4⟩ => ⟨a', n', c', bs', he, ⟨h1, h2, fun a => by rw [h3.1 a, if_pos rfl]; exact over_congr _ _ _ hM a, h3.2 hrg⟩, h4⟩
  have HB : Hid (∀ V, Calls Try.prog 54 #[.int .u64 (m : Int), .int .i64 2] V fun e w' => ∃ ba bc, e = .returned (.slice ba 2 bc) ∧ Reads .u8 w' (.slice ba 2 bc) 2 (byteAt m) ∧ Below V.heap.size V w') := fun V => (rbytes_any m 2 2 (by omega) (by decide) V).mono fun e w' ⟨v, he, ho, hb⟩ => by
    obtain ⟨a, c, rfl⟩ := own_form ho
    exact ⟨a, c, he, reads_own ho, hb⟩
  clear g1 g2 g3 g4 hg h hM hle hn hF hrg hm hin qx
  rw [HX.out.1]
  have B0 : Hid (Tri w (((w.alloc (.cells #[.int .u64 8192, .slice va nn vc] 29)).alloc (.cells #[.int .i64 (n : Int), .int .u64 (D : Int), .int .u64 (A : Int), .int .u64 (U : Int)] 24)).alloc (.cells #[.int .u64 0, .slice none 0 0] 29)) va nn vc n D A U) := Tri.new w va nn vc n D A U
  go_enter Try.func35, Try.ntmps35
  go_upto_region 1 with fail
  generalize (((w.alloc (.cells #[.int .u64 8192, .slice va nn vc] 29)).alloc (.cells #[.int .i64 (n : Int), .int .u64 (D : Int), .int .u64 (A : Int), .int .u64 (U : Int)] 24)).alloc (.cells #[.int .u64 0, .slice none 0 0] 29)) = w0 at *
  have X0 : Hid (Tri w w0.drew va nn vc n D A U) := B0.out.step (Below.drew (Below.refl _ _))
  clear B0
  refine wp_region_held_drew (S := fun Z => Z.cell? ⟨w.heap.size + 1, 0, none⟩ = some (.int .i64 (n : Int)) ∧ Z.cell? ⟨w.heap.size + 1, 1, none⟩ = some (.int .u64 (D : Int)) ∧ Z.cell? ⟨w.heap.size + 1, 2, none⟩ = some (.int .u64 (A : Int)) ∧ Z.cell? ⟨w.heap.size + 1, 3, none⟩ = some (.int .u64 (U : Int))) (by kernel_rfl) ⟨cellOf X0.out.2.1 0 _ rfl, cellOf X0.out.2.1 1 _ rfl, cellOf X0.out.2.1 2 _ rfl, cellOf X0.out.2.1 3 _ rfl⟩ ?_
  intro hS
  generalize w0.drew = V0 at *
  refine wpAnyH_take (i := 1) (v := ?_) rfl (by kernel_rfl) (by kernel_rfl) (by kernel_rfl) (fun _ _ _ h => h) (Or.inl ⟨by kernel_rfl, ?_⟩) hS ?_
  rotate_left
  · intro w hSw; (try dsimp only at hSw); go_simp; try (with_reducible rfl)
  (try simp only [Act.put, List.getElem_toArray, List.getElem_cons_succ, List.getElem_cons_zero, List.setIfInBounds_toArray, List.set_cons_zero, List.set_cons_succ])
  refine wpAnyH_take (i := 2) (v := ?_) rfl (by kernel_rfl) (by kernel_rfl) (by kernel_rfl) (fun _ _ _ h => h) (Or.inl ⟨by kernel_rfl, ?_⟩) hS ?_
  rotate_left
  · intro w hSw; (try dsimp only at hSw); go_simp; try (with_reducible rfl)
  (try simp only [Act.put, List.getElem_toArray, List.getElem_cons_succ, List.getElem_cons_zero, List.setIfInBounds_toArray, List.set_cons_zero, List.set_cons_succ])
  refine wpAnyH_take (i := 3) (v := ?_) rfl (by kernel_rfl) (by kernel_rfl) (by kernel_rfl) (fun _ _ _ h => h) (Or.inl ⟨by kernel_rfl, ?_⟩) hS ?_
  rotate_left
  · intro w hSw; (try dsimp only at hSw); go_simp; try (with_reducible rfl)
  (try simp only [Act.put, List.getElem_toArray, List.getElem_cons_succ, List.getElem_cons_zero, List.setIfInBounds_toArray, List.set_cons_zero, List.set_cons_succ])
  refine wpAnyH_take (i := 4) (v := ?_) rfl (by kernel_rfl) (by kernel_rfl) (by kernel_rfl) (fun _ _ _ h => h) (Or.inl ⟨by kernel_rfl, ?_⟩) hS ?_
  rotate_left
  · intro w hSw; (try dsimp only at hSw); go_simp; try (with_reducible rfl)
  (try simp only [Act.put, List.getElem_toArray, List.getElem_cons_succ, List.getElem_cons_zero, List.setIfInBounds_toArray, List.set_cons_zero, List.set_cons_succ])
  refine wpAnyH_take (i := 5) (v := ?_) rfl (by kernel_rfl) (by kernel_rfl) (by kernel_rfl) (fun _ _ _ h => h) (Or.inl ⟨by kernel_rfl, ?_⟩) hS ?_
  rotate_left
  · intro w hSw; (try dsimp only at hSw); go_simp; try (with_reducible rfl)
  (try simp only [Act.put, List.getElem_toArray, List.getElem_cons_succ, List.getElem_cons_zero, List.setIfInBounds_toArray, List.set_cons_zero, List.set_cons_succ])
  refine wpAnyH_ready (rs := [0, 6]) (by kernel_rfl) (by simp) ?_
  refine AllReadyH.cons rfl (fun HH0 HH1 => ?_) (AllReadyH.cons rfl (fun HH0 HH1 => ?_) AllReadyH.nil)
  · have _hm : True := trivial
    have f0 := cellOf X0.out.1 0 _ rfl
    have f1 := cellOf X0.out.1 1 _ rfl
    go_simp
    refine HH1.out _ _ ⟨cellOf X0.out.2.1 0 _ rfl, cellOf X0.out.2.1 1 _ rfl, cellOf X0.out.2.1 2 _ rfl, cellOf X0.out.2.1 3 _ rfl⟩ (fun hS1 => ?_)
    clear HH1 HH0 hS f0 f1
    (try simp only [Act.put, List.getElem_toArray, List.getElem_cons_succ, List.getElem_cons_zero, List.setIfInBounds_toArray, List.set_cons_zero, List.set_cons_succ])
    refine wpAnyH_ready (rs := [6]) (by kernel_rfl) (by simp) ?_
    refine AllReadyH.cons rfl (fun HH0 HH1 => ?_) AllReadyH.nil
    go_simp
    refine (HB.out _).mono ?_
    rintro e w2 ⟨ba, bc, rfl, hr, hb⟩
    have X2 : Hid (Tri w w2 va nn vc n D A U ∧ Reads .u8 w2 (.slice ba 2 bc) 2 (byteAt m)) := ⟨X0.out.step hb, hr⟩
    clear hr hb X0
    refine HH1.out _ _ ⟨cellOf X2.out.1.2.1 0 _ rfl, cellOf X2.out.1.2.1 1 _ rfl, cellOf X2.out.1.2.1 2 _ rfl, cellOf X2.out.1.2.1 3 _ rfl⟩ (fun hS2 => ?_)
    clear HH1 HH0 hS1
    (try simp only [Act.put, List.getElem_toArray, List.getElem_cons_succ, List.getElem_cons_zero, List.setIfInBounds_toArray, List.set_cons_zero, List.set_cons_succ])
    refine wpAnyH_ready (rs := [7]) (by kernel_rfl) (by simp) ?_
    refine AllReadyH.cons rfl (fun HH0 HH1 => ?_) AllReadyH.nil
    go_simp
    refine (HW.out _ X2.out.1.2.2.2 _ X2.out.2).mono ?_
    rintro e w6 ⟨a6, n6, c6, bs6, rfl, h6, hb⟩
    have X6 : Hid (Tri w w6 va nn vc n D A U ∧ n6 ≤ nn + 2 ∧ RefIn F w6 (.slice a6 n6 c6) n6 bs6 ∧ (∀ a, rget bs6 n6 a = over M x 2 (byteAt m) a) ∧ Rng bs6 n6 8192) := ⟨X2.out.1.step hb, h6⟩
    clear h6 hb X2
    refine HH1.out _ _ ⟨cellOf X6.out.1.2.1 0 _ rfl, cellOf X6.out.1.2.1 1 _ rfl, cellOf X6.out.1.2.1 2 _ rfl, cellOf X6.out.1.2.1 3 _ rfl⟩ (fun hS6 => ?_)
    clear HH1 HH0 hS2
    (try simp only [Act.put, List.getElem_toArray, List.getElem_cons_succ, List.getElem_cons_zero, List.setIfInBounds_toArray, List.set_cons_zero, List.set_cons_succ])
    refine wpAnyH_take (i := 8) (v := ?_) rfl (by kernel_rfl) (by kernel_rfl) (by kernel_rfl) (fun _ _ _ h => h) (Or.inl ⟨by kernel_rfl, ?_⟩) hS6 ?_
    rotate_left
    · intro w hSw; (try dsimp only at hSw); go_simp; try (with_reducible rfl)
    (try simp only [Act.put, List.getElem_toArray, List.getElem_cons_succ, List.getElem_cons_zero, List.setIfInBounds_toArray, List.set_cons_zero, List.set_cons_succ])
    refine wpAnyH_take (i := 9) (v := ?_) rfl (by kernel_rfl) (by kernel_rfl) (by kernel_rfl) (fun _ _ _ h => h) (Or.inl ⟨by kernel_rfl, ?_⟩) hS6 ?_
    rotate_left
    · intro w hSw; (try dsimp only at hSw); go_simp; try (with_reducible rfl)
    (try simp only [Act.put, List.getElem_toArray, List.getElem_cons_succ, List.getElem_cons_zero, List.setIfInBounds_toArray, List.set_cons_zero, List.set_cons_succ])
    refine wpAnyH_take (i := 10) (v := ?_) rfl (by kernel_rfl) (by kernel_rfl) (by kernel_rfl) (fun _ _ _ h => h) (Or.inl ⟨by kernel_rfl, ?_⟩) hS6 ?_
    rotate_left
    · intro w hSw; (try dsimp only at hSw); go_simp; try (with_reducible rfl)
    (try simp only [Act.put, List.getElem_toArray, List.getElem_cons_succ, List.getElem_cons_zero, List.setIfInBounds_toArray, List.set_cons_zero, List.set_cons_succ])
    have a0 := cellOf X6.out.1.1 0 _ rfl
    have a1 := cellOf X6.out.1.1 1 _ rfl
    have z0 := frozenOf X6.out.1.1 0
    have z1 := frozenOf X6.out.1.1 1
    refine wpAnyH_ready (rs := [11]) (by kernel_rfl) (by simp) ?_
    refine AllReadyH.cons rfl (fun HH0 HH1 => ?_) AllReadyH.nil
    go_simp
    have Y9 : Hid ((Two6 w ((w6.setCell ⟨w.heap.size, 0, none⟩ (.int .u64 8192)).setCell ⟨w.heap.size, 1, none⟩ (.slice a6 n6 c6)) F a6 n6 c6 n D A U bs6) ∧ n6 ≤ nn + 2 ∧ (∀ a, rget bs6 n6 a = over M x 2 (byteAt m) a) ∧ Rng bs6 n6 8192) := ⟨tri_end X6.out.1 X6.out.2.2.1, X6.out.2.1, X6.out.2.2.2.1, X6.out.2.2.2.2⟩
    clear X6 a0 a1 z0 z1
    generalize (w6.setCell ⟨w.heap.size, 0, none⟩ (.int .u64 8192)).setCell ⟨w.heap.size, 1, none⟩ (.slice a6 n6 c6) = w9 at *
    refine HH1.out _ _ ⟨cellOf Y9.out.1.2.1 0 _ rfl, cellOf Y9.out.1.2.1 1 _ rfl, cellOf Y9.out.1.2.1 2 _ rfl, cellOf Y9.out.1.2.1 3 _ rfl⟩ (fun hS9 => ?_)
    clear HH1 HH0 hS6
    (try simp only [Act.put, List.getElem_toArray, List.getElem_cons_succ, List.getElem_cons_zero, List.setIfInBounds_toArray, List.set_cons_zero, List.set_cons_succ])
    refine wpAnyH_done (by kernel_rfl) ?_ _
    clear hS9
    have a0 := cellOf Y9.out.1.1 0 _ rfl
    have a1 := cellOf Y9.out.1.1 1 _ rfl
    have b0 := cellOf Y9.out.1.2.2.1 0 _ rfl
    have b1 := cellOf Y9.out.1.2.2.1 1 _ rfl
    have z0 := frozenOf Y9.out.1.2.2.1 0
    have z1 := frozenOf Y9.out.1.2.2.1 1
    have Y10 := two6_end Y9.out.1
    have H10 : Hid (_ ∧ _) := Y10
    clear Y10
    go_wp2_with fail
    refine bodyPost_ret (v := .agg #[.int .u64 8192, .slice a6 n6 c6]) (by simp [results, Try.results35, go_sem, b0, b1]) rfl ⟨a6, n6, c6, bs6, rfl, Y9.out.2.1, H10.out.1, Y9.out.2.2.1, Y9.out.2.2.2, H10.out.2⟩
  · have _hm : True := trivial
    go_simp
    refine (HB.out _).mono ?_
    rintro e w2 ⟨ba, bc, rfl, hr, hb⟩
    have X2 : Hid (Tri w w2 va nn vc n D A U ∧ Reads .u8 w2 (.slice ba 2 bc) 2 (byteAt m)) := ⟨X0.out.step hb, hr⟩
    clear hr hb X0
    refine HH1.out _ _ ⟨cellOf X2.out.1.2.1 0 _ rfl, cellOf X2.out.1.2.1 1 _ rfl, cellOf X2.out.1.2.1 2 _ rfl, cellOf X2.out.1.2.1 3 _ rfl⟩ (fun hS2 => ?_)
    clear HH1 HH0 hS
    (try simp only [Act.put, List.getElem_toArray, List.getElem_cons_succ, List.getElem_cons_zero, List.setIfInBounds_toArray, List.set_cons_zero, List.set_cons_succ])
    refine wpAnyH_ready (rs := [0]) (by kernel_rfl) (by simp) ?_
    refine AllReadyH.cons rfl (fun HH0 HH1 => ?_) AllReadyH.nil
    have f0 := cellOf X2.out.1.1 0 _ rfl
    have f1 := cellOf X2.out.1.1 1 _ rfl
    go_simp
    refine HH1.out _ _ ⟨cellOf X2.out.1.2.1 0 _ rfl, cellOf X2.out.1.2.1 1 _ rfl, cellOf X2.out.1.2.1 2 _ rfl, cellOf X2.out.1.2.1 3 _ rfl⟩ (fun hS1 => ?_)
    clear HH1 HH0 hS2 f0 f1
    (try simp only [Act.put, List.getElem_toArray, List.getElem_cons_succ, List.getElem_cons_zero, List.setIfInBounds_toArray, List.set_cons_zero, List.set_cons_succ])
    refine wpAnyH_ready (rs := [7]) (by kernel_rfl) (by simp) ?_
    refine AllReadyH.cons rfl (fun HH0 HH1 => ?_) AllReadyH.nil
    go_simp
    refine (HW.out _ X2.out.1.2.2.2 _ X2.out.2).mono ?_
    rintro e w6 ⟨a6, n6, c6, bs6, rfl, h6, hb⟩
    have X6 : Hid (Tri w w6 va nn vc n D A U ∧ n6 ≤ nn + 2 ∧ RefIn F w6 (.slice a6 n6 c6) n6 bs6 ∧ (∀ a, rget bs6 n6 a = over M x 2 (byteAt m) a) ∧ Rng bs6 n6 8192) := ⟨X2.out.1.step hb, h6⟩
    clear h6 hb X2
    refine HH1.out _ _ ⟨cellOf X6.out.1.2.1 0 _ rfl, cellOf X6.out.1.2.1 1 _ rfl, cellOf X6.out.1.2.1 2 _ rfl, cellOf X6.out.1.2.1 3 _ rfl⟩ (fun hS6 => ?_)
    clear HH1 HH0 hS1
    (try simp only [Act.put, List.getElem_toArray, List.getElem_cons_succ, List.getElem_cons_zero, List.setIfInBounds_toArray, List.set_cons_zero, List.set_cons_succ])
    refine wpAnyH_take (i := 8) (v := ?_) rfl (by kernel_rfl) (by kernel_rfl) (by kernel_rfl) (fun _ _ _ h => h) (Or.inl ⟨by kernel_rfl, ?_⟩) hS6 ?_
    rotate_left
    · intro w hSw; (try dsimp only at hSw); go_simp; try (with_reducible rfl)
    (try simp only [Act.put, List.getElem_toArray, List.getElem_cons_succ, List.getElem_cons_zero, List.setIfInBounds_toArray, List.set_cons_zero, List.set_cons_succ])
    refine wpAnyH_take (i := 9) (v := ?_) rfl (by kernel_rfl) (by kernel_rfl) (by kernel_rfl) (fun _ _ _ h => h) (Or.inl ⟨by kernel_rfl, ?_⟩) hS6 ?_
    rotate_left
    · intro w hSw; (try dsimp only at hSw); go_simp; try (with_reducible rfl)
    (try simp only [Act.put, List.getElem_toArray, List.getElem_cons_succ, List.getElem_cons_zero, List.setIfInBounds_toArray, List.set_cons_zero, List.set_cons_succ])
    refine wpAnyH_take (i := 10) (v := ?_) rfl (by kernel_rfl) (by kernel_rfl) (by kernel_rfl) (fun _ _ _ h => h) (Or.inl ⟨by kernel_rfl, ?_⟩) hS6 ?_
    rotate_left
    · intro w hSw; (try dsimp only at hSw); go_simp; try (with_reducible rfl)
    (try simp only [Act.put, List.getElem_toArray, List.getElem_cons_succ, List.getElem_cons_zero, List.setIfInBounds_toArray, List.set_cons_zero, List.set_cons_succ])
    have a0 := cellOf X6.out.1.1 0 _ rfl
    have a1 := cellOf X6.out.1.1 1 _ rfl
    have z0 := frozenOf X6.out.1.1 0
    have z1 := frozenOf X6.out.1.1 1
    refine wpAnyH_ready (rs := [11]) (by kernel_rfl) (by simp) ?_
    refine AllReadyH.cons rfl (fun HH0 HH1 => ?_) AllReadyH.nil
    go_simp
    have Y9 : Hid ((Two6 w ((w6.setCell ⟨w.heap.size, 0, none⟩ (.int .u64 8192)).setCell ⟨w.heap.size, 1, none⟩ (.slice a6 n6 c6)) F a6 n6 c6 n D A U bs6) ∧ n6 ≤ nn + 2 ∧ (∀ a, rget bs6 n6 a = over M x 2 (byteAt m) a) ∧ Rng bs6 n6 8192) := ⟨tri_end X6.out.1 X6.out.2.2.1, X6.out.2.1, X6.out.2.2.2.1, X6.out.2.2.2.2⟩
    clear X6 a0 a1 z0 z1
    generalize (w6.setCell ⟨w.heap.size, 0, none⟩ (.int .u64 8192)).setCell ⟨w.heap.size, 1, none⟩ (.slice a6 n6 c6) = w9 at *
    refine HH1.out _ _ ⟨cellOf Y9.out.1.2.1 0 _ rfl, cellOf Y9.out.1.2.1 1 _ rfl, cellOf Y9.out.1.2.1 2 _ rfl, cellOf Y9.out.1.2.1 3 _ rfl⟩ (fun hS9 => ?_)
    clear HH1 HH0 hS6
    (try simp only [Act.put, List.getElem_toArray, List.getElem_cons_succ, List.getElem_cons_zero, List.setIfInBounds_toArray, List.set_cons_zero, List.set_cons_succ])
    refine wpAnyH_done (by kernel_rfl) ?_ _
    clear hS9
    have a0 := cellOf Y9.out.1.1 0 _ rfl
    have a1 := cellOf Y9.out.1.1 1 _ rfl
    have b0 := cellOf Y9.out.1.2.2.1 0 _ rfl
    have b1 := cellOf Y9.out.1.2.2.1 1 _ rfl
    have z0 := frozenOf Y9.out.1.2.2.1 0
    have z1 := frozenOf Y9.out.1.2.2.1 1
    have Y10 := two6_end Y9.out.1
    have H10 : Hid (_ ∧ _) := Y10
    clear Y10
    go_wp2_with fail
    refine bodyPost_ret (v := .agg #[.int .u64 8192, .slice a6 n6 c6]) (by simp [results, Try.results35, go_sem, b0, b1]) rfl ⟨a6, n6, c6, bs6, rfl, Y9.out.2.1, H10.out.1, Y9.out.2.2.1, Y9.out.2.2.2, H10.out.2⟩
set_option maxHeartbeats 2000000 in
theorem rwant_any {F : Nat → Prop} {w : World} {nn vc : Nat} {va : Option Addr} {bs : Nat → Nat × Nat} {M : Nat → Nat} (h : RefIn F w (.slice va nn vc) nn bs) (hM : ∀ a, rget bs nn a = M a) (hle : ∀ a, M a ≤ 255) (hn : nn ≤ 1000000) (hF : ∀ k, F k → k < w.heap.size) (hrg : Rng bs nn 8192) {n D A U : Nat} (hg : Gd n D A U) (m : Nat) (hm : m ≤ 65535) : Calls Try.prog 37 #[.agg #[.int .u64 8192, .slice va nn vc], .agg #[.int .i64 (n : Int), .int .u64 (D : Int), .int .u64 (A : Int), .int .u64 (U : Int)], .int .i64 (m : Int)] w fun e w' => ∃ a' n' c' bs', e = .returned (.agg #[.int .u64 8192, .slice a' n' c']) ∧ n' ≤ nn + 2 ∧ RefIn F w' (.slice a' n' c') n' bs' ∧ (∀ a, rget bs' n' a = over M (U + 4 + 8 * n) 2 (byteAt m) a) ∧ Rng bs' n' 8192 ∧ Below w.heap.size w w' := by
  have g1 := hg.u1
  have g2 := hg.u2
  have g3 := hg.n2
  have g4 := hg.n1
  have em : IntKind.u64.wrap (m : Int) = (m : Int) := by rw [wrap_u64]; omega
  have en : IntKind.u64.wrap (n : Int) = (n : Int) := by rw [wrap_u64]; omega
  obtain ⟨U4, qU4⟩ : ∃ y : Nat, y = U + 4 := ⟨_, rfl⟩
  have wU4 : IntKind.u64.wrap ((U : Int) + 4) = (U4 : Int) := by rw [wrap_u64]; omega
  obtain ⟨n8, qn8⟩ : ∃ y : Nat, y = 8 * n := ⟨_, rfl⟩
  have wn8 : IntKind.u64.wrap (8 * (n : Int)) = (n8 : Int) := by rw [wrap_u64]; omega
  obtain ⟨x, qx⟩ : ∃ y : Nat, y = U4 + n8 := ⟨_, rfl⟩
  have wx : IntKind.u64.wrap ((U4 : Int) + (n8 : Int)) = (x : Int) := by rw [wrap_u64]; omega
  have HX : Hid (U + 4 + 8 * n = x ∧ x < 18446744073709551616) := ⟨by omega, by omega⟩
  have hin : inB x 2 2147483648 8192 = true := by simp only [inB, decide_eq_true_iff]; omega
  have HW : Hid (∀ V, Below w.heap.size w V → ∀ dv, Reads .u8 V dv 2 (byteAt m) → Calls Try.prog 45 #[.agg #[.int .u64 8192, .slice va nn vc], .int .u64 (x : Int), dv] V fun e w' => ∃ a' n' c' bs', e = .returned (.tuple #[.agg #[.int .u64 8192, .slice a' n' c'], .bool true]) ∧ (n' ≤ nn + 2 ∧ RefIn F w' (.slice a' n' c') n' bs' ∧ (∀ a, rget bs' n' a = over M x 2 (byteAt m) a) ∧ Rng bs' n' 8192) ∧ Below V.heap.size V w') := fun V hV dv hdv => (rwr_any F V x 2 (.slice va nn vc) dv nn bs (byteAt m) true hin (h.below hV) hdv (fun k hk => Nat.lt_of_lt_of_le (hF k hk) hV.size) hn HX.out.2 (by decide)).mono fun e w' ⟨a', n', c', bs', he, h1, h2, h3, h4⟩ => ⟨a', n', c', bs', he, ⟨h1, h2, fun a => by rw [h3.1 a, if_pos rfl]; exact over_congr _ _ _ hM a, h3.2 hrg⟩, h4⟩
  have HB : Hid (∀ V, Calls Try.prog 54 #[.int .u64 (m : Int), .int .i64 2] V fun e w' => ∃ ba bc, e = .returned (.slice ba 2 bc) ∧ Reads .u8 w' (.slice ba 2 bc) 2 (byteAt m) ∧ Below V.heap.size V w') := fun V => (rbytes_any m 2 2 (by omega) (by decide) V).mono fun e w' ⟨v, he, ho, hb⟩ => by
    obtain ⟨a, c, rfl⟩ := own_form ho
    exact ⟨a, c, he, reads_own ho, hb⟩
  clear g1 g2 g3 g4 hg h hM hle hn hF hrg hm hin qU4 qn8 qx
  rw [HX.out.1]
  have B0 : Hid (Tri w (((w.alloc (.cells #[.int .u64 8192, .slice va nn vc] 29)).alloc (.cells #[.int .i64 (n : Int), .int .u64 (D : Int), .int .u64 (A : Int), .int .u64 (U : Int)] 24)).alloc (.cells #[.int .u64 0, .slice none 0 0] 29)) va nn vc n D A U) := Tri.new w va nn vc n D A U
  go_enter Try.func37, Try.ntmps37
  go_upto_region 1 with fail
  generalize (((w.alloc (.cells #[.int .u64 8192, .slice va nn vc] 29)).alloc (.cells #[.int .i64 (n : Int), .int .u64 (D : Int), .int .u64 (A : Int), .int .u64 (U : Int)] 24)).alloc (.cells #[.int .u64 0, .slice none 0 0] 29)) = w0 at *
  have X0 : Hid (Tri w w0.drew va nn vc n D A U) := B0.out.step (Below.drew (Below.refl _ _))
  clear B0
  refine wp_region_held_drew (S := fun Z => Z.cell? ⟨w.heap.size + 1, 0, none⟩ = some (.int .i64 (n : Int)) ∧ Z.cell? ⟨w.heap.size + 1, 1, none⟩ = some (.int .u64 (D : Int)) ∧ Z.cell? ⟨w.heap.size + 1, 2, none⟩ = some (.int .u64 (A : Int)) ∧ Z.cell? ⟨w.heap.size + 1, 3, none⟩ = some (.int .u64 (U : Int))) (by kernel_rfl) ⟨cellOf X0.out.2.1 0 _ rfl, cellOf X0.out.2.1 1 _ rfl, cellOf X0.out.2.1 2 _ rfl, cellOf X0.out.2.1 3 _ rfl⟩ ?_
  intro hS
  generalize w0.drew = V0 at *
  refine wpAnyH_take (i := 1) (v := ?_) rfl (by kernel_rfl) (by kernel_rfl) (by kernel_rfl) (fun _ _ _ h => h) (Or.inl ⟨by kernel_rfl, ?_⟩) hS ?_
  rotate_left
  · intro w hSw; (try dsimp only at hSw); go_simp; try (with_reducible rfl)
  (try simp only [Act.put, List.getElem_toArray, List.getElem_cons_succ, List.getElem_cons_zero, List.setIfInBounds_toArray, List.set_cons_zero, List.set_cons_succ])
  refine wpAnyH_take (i := 2) (v := ?_) rfl (by kernel_rfl) (by kernel_rfl) (by kernel_rfl) (fun _ _ _ h => h) (Or.inl ⟨by kernel_rfl, ?_⟩) hS ?_
  rotate_left
  · intro w hSw; (try dsimp only at hSw); go_simp; try (with_reducible rfl)
  (try simp only [Act.put, List.getElem_toArray, List.getElem_cons_succ, List.getElem_cons_zero, List.setIfInBounds_toArray, List.set_cons_zero, List.set_cons_succ])
  refine wpAnyH_take (i := 3) (v := ?_) rfl (by kernel_rfl) (by kernel_rfl) (by kernel_rfl) (fun _ _ _ h => h) (Or.inl ⟨by kernel_rfl, ?_⟩) hS ?_
  rotate_left
  · intro w hSw; (try dsimp only at hSw); go_simp; try (with_reducible rfl)
  (try simp only [Act.put, List.getElem_toArray, List.getElem_cons_succ, List.getElem_cons_zero, List.setIfInBounds_toArray, List.set_cons_zero, List.set_cons_succ])
  refine wpAnyH_take (i := 4) (v := ?_) rfl (by kernel_rfl) (by kernel_rfl) (by kernel_rfl) (fun _ _ _ h => h) (Or.inl ⟨by kernel_rfl, ?_⟩) hS ?_
  rotate_left
  · intro w hSw; (try dsimp only at hSw); go_simp; try (with_reducible rfl)
  (try simp only [Act.put, List.getElem_toArray, List.getElem_cons_succ, List.getElem_cons_zero, List.setIfInBounds_toArray, List.set_cons_zero, List.set_cons_succ])
  refine wpAnyH_take (i := 5) (v := ?_) rfl (by kernel_rfl) (by kernel_rfl) (by kernel_rfl) (fun _ _ _ h => h) (Or.inl ⟨by kernel_rfl, ?_⟩) hS ?_
  rotate_left
  · intro w hSw; (try dsimp only at hSw); go_simp; try (with_reducible rfl)
  (try simp only [Act.put, List.getElem_toArray, List.getElem_cons_succ, List.getElem_cons_zero, List.setIfInBounds_toArray, List.set_cons_zero, List.set_cons_succ])
  refine wpAnyH_take (i := 6) (v := ?_) rfl (by kernel_rfl) (by kernel_rfl) (by kernel_rfl) (fun _ _ _ h => h) (Or.inl ⟨by kernel_rfl, ?_⟩) hS ?_
  rotate_left
  · intro w hSw; (try dsimp only at hSw); go_simp; try (with_reducible rfl)
  (try simp only [Act.put, List.getElem_toArray, List.getElem_cons_succ, List.getElem_cons_zero, List.setIfInBounds_toArray, List.set_cons_zero, List.set_cons_succ])
  refine wpAnyH_take (i := 7) (v := ?_) rfl (by kernel_rfl) (by kernel_rfl) (by kernel_rfl) (fun _ _ _ h => h) (Or.inl ⟨by kernel_rfl, ?_⟩) hS ?_
  rotate_left
  · intro w hSw; (try dsimp only at hSw); go_simp; try (with_reducible rfl)
  (try simp only [Act.put, List.getElem_toArray, List.getElem_cons_succ, List.getElem_cons_zero, List.setIfInBounds_toArray, List.set_cons_zero, List.set_cons_succ])
  refine wpAnyH_take (i := 8) (v := ?_) rfl (by kernel_rfl) (by kernel_rfl) (by kernel_rfl) (fun _ _ _ h => h) (Or.inl ⟨by kernel_rfl, ?_⟩) hS ?_
  rotate_left
  · intro w hSw; (try dsimp only at hSw); go_simp; try (with_reducible rfl)
  (try simp only [Act.put, List.getElem_toArray, List.getElem_cons_succ, List.getElem_cons_zero, List.setIfInBounds_toArray, List.set_cons_zero, List.set_cons_succ])
  refine wpAnyH_take (i := 9) (v := ?_) rfl (by kernel_rfl) (by kernel_rfl) (by kernel_rfl) (fun _ _ _ h => h) (Or.inl ⟨by kernel_rfl, ?_⟩) hS ?_
  rotate_left
  · intro w hSw; (try dsimp only at hSw); go_simp; try (with_reducible rfl)
  (try simp only [Act.put, List.getElem_toArray, List.getElem_cons_succ, List.getElem_cons_zero, List.setIfInBounds_toArray, List.set_cons_zero, List.set_cons_succ])
  refine wpAnyH_take (i := 10) (v := ?_) rfl (by kernel_rfl) (by kernel_rfl) (by kernel_rfl) (fun _ _ _ h => h) (Or.inl ⟨by kernel_rfl, ?_⟩) hS ?_
  rotate_left
  · intro w hSw; (try dsimp only at hSw); go_simp; try (with_reducible rfl)
  (try simp only [Act.put, List.getElem_toArray, List.getElem_cons_succ, List.getElem_cons_zero, List.setIfInBounds_toArray, List.set_cons_zero, List.set_cons_succ])
  refine wpAnyH_ready (rs := [0, 11]) (by kernel_rfl) (by simp) ?_
  refine AllReadyH.cons rfl (fun HH0 HH1 => ?_) (AllReadyH.cons rfl (fun HH0 HH1 => ?_) AllReadyH.nil)
  · have _hm : True := trivial
    have f0 := cellOf X0.out.1 0 _ rfl
    have f1 := cellOf X0.out.1 1 _ rfl
    go_simp
    refine HH1.out _ _ ⟨cellOf X0.out.2.1 0 _ rfl, cellOf X0.out.2.1 1 _ rfl, cellOf X0.out.2.1 2 _ rfl, cellOf X0.out.2.1 3 _ rfl⟩ (fun hS1 => ?_)
    clear HH1 HH0 hS f0 f1
    (try simp only [Act.put, List.getElem_toArray, List.getElem_cons_succ, List.getElem_cons_zero, List.setIfInBounds_toArray, List.set_cons_zero, List.set_cons_succ])
    refine wpAnyH_ready (rs := [11]) (by kernel_rfl) (by simp) ?_
    refine AllReadyH.cons rfl (fun HH0 HH1 => ?_) AllReadyH.nil
    go_simp
    refine (HB.out _).mono ?_
    rintro e w2 ⟨ba, bc, rfl, hr, hb⟩
    have X2 : Hid (Tri w w2 va nn vc n D A U ∧ Reads .u8 w2 (.slice ba 2 bc) 2 (byteAt m)) := ⟨X0.out.step hb, hr⟩
    clear hr hb X0
    refine HH1.out _ _ ⟨cellOf X2.out.1.2.1 0 _ rfl, cellOf X2.out.1.2.1 1 _ rfl, cellOf X2.out.1.2.1 2 _ rfl, cellOf X2.out.1.2.1 3 _ rfl⟩ (fun hS2 => ?_)
    clear HH1 HH0 hS1
    (try simp only [Act.put, List.getElem_toArray, List.getElem_cons_succ, List.getElem_cons_zero, List.setIfInBounds_toArray, List.set_cons_zero, List.set_cons_succ])
    refine wpAnyH_ready (rs := [12]) (by kernel_rfl) (by simp) ?_
    refine AllReadyH.cons rfl (fun HH0 HH1 => ?_) AllReadyH.nil
    go_simp
    refine (HW.out _ X2.out.1.2.2.2 _ X2.out.2).mono ?_
    rintro e w6 ⟨a6, n6, c6, bs6, rfl, h6, hb⟩
    have X6 : Hid (Tri w w6 va nn vc n D A U ∧ n6 ≤ nn + 2 ∧ RefIn F w6 (.slice a6 n6 c6) n6 bs6 ∧ (∀ a, rget bs6 n6 a = over M x 2 (byteAt m) a) ∧ Rng bs6 n6 8192) := ⟨X2.out.1.step hb, h6⟩
    clear h6 hb X2
    refine HH1.out _ _ ⟨cellOf X6.out.1.2.1 0 _ rfl, cellOf X6.out.1.2.1 1 _ rfl, cellOf X6.out.1.2.1 2 _ rfl, cellOf X6.out.1.2.1 3 _ rfl⟩ (fun hS6 => ?_)
    clear HH1 HH0 hS2
    (try simp only [Act.put, List.getElem_toArray, List.getElem_cons_succ, List.getElem_cons_zero, List.setIfInBounds_toArray, List.set_cons_zero, List.set_cons_succ])
    refine wpAnyH_take (i := 13) (v := ?_) rfl (by kernel_rfl) (by kernel_rfl) (by kernel_rfl) (fun _ _ _ h => h) (Or.inl ⟨by kernel_rfl, ?_⟩) hS6 ?_
    rotate_left
    · intro w hSw; (try dsimp only at hSw); go_simp; try (with_reducible rfl)
    (try simp only [Act.put, List.getElem_toArray, List.getElem_cons_succ, List.getElem_cons_zero, List.setIfInBounds_toArray, List.set_cons_zero, List.set_cons_succ])
    refine wpAnyH_take (i := 14) (v := ?_) rfl (by kernel_rfl) (by kernel_rfl) (by kernel_rfl) (fun _ _ _ h => h) (Or.inl ⟨by kernel_rfl, ?_⟩) hS6 ?_
    rotate_left
    · intro w hSw; (try dsimp only at hSw); go_simp; try (with_reducible rfl)
    (try simp only [Act.put, List.getElem_toArray, List.getElem_cons_succ, List.getElem_cons_zero, List.setIfInBounds_toArray, List.set_cons_zero, List.set_cons_succ])
    refine wpAnyH_take (i := 15) (v := ?_) rfl (by kernel_rfl) (by kernel_rfl) (by kernel_rfl) (fun _ _ _ h => h) (Or.inl ⟨by kernel_rfl, ?_⟩) hS6 ?_
    rotate_left
    · intro w hSw; (try dsimp only at hSw); go_simp; try (with_reducible rfl)
    (try simp only [Act.put, List.getElem_toArray, List.getElem_cons_succ, List.getElem_cons_zero, List.setIfInBounds_toArray, List.set_cons_zero, List.set_cons_succ])
    have a0 := cellOf X6.out.1.1 0 _ rfl
    have a1 := cellOf X6.out.1.1 1 _ rfl
    have z0 := frozenOf X6.out.1.1 0
    have z1 := frozenOf X6.out.1.1 1
    refine wpAnyH_ready (rs := [16]) (by kernel_rfl) (by simp) ?_
    refine AllReadyH.cons rfl (fun HH0 HH1 => ?_) AllReadyH.nil
    go_simp
    have Y9 : Hid ((Two6 w ((w6.setCell ⟨w.heap.size, 0, none⟩ (.int .u64 8192)).setCell ⟨w.heap.size, 1, none⟩ (.slice a6 n6 c6)) F a6 n6 c6 n D A U bs6) ∧ n6 ≤ nn + 2 ∧ (∀ a, rget bs6 n6 a = over M x 2 (byteAt m) a) ∧ Rng bs6 n6 8192) := ⟨tri_end X6.out.1 X6.out.2.2.1, X6.out.2.1, X6.out.2.2.2.1, X6.out.2.2.2.2⟩
    clear X6 a0 a1 z0 z1
    generalize (w6.setCell ⟨w.heap.size, 0, none⟩ (.int .u64 8192)).setCell ⟨w.heap.size, 1, none⟩ (.slice a6 n6 c6) = w9 at *
    refine HH1.out _ _ ⟨cellOf Y9.out.1.2.1 0 _ rfl, cellOf Y9.out.1.2.1 1 _ rfl, cellOf Y9.out.1.2.1 2 _ rfl, cellOf Y9.out.1.2.1 3 _ rfl⟩ (fun hS9 => ?_)
    clear HH1 HH0 hS6
    (try simp only [Act.put, List.getElem_toArray, List.getElem_cons_succ, List.getElem_cons_zero, List.setIfInBounds_toArray, List.set_cons_zero, List.set_cons_succ])
    refine wpAnyH_done (by kernel_rfl) ?_ _
    clear hS9
    have a0 := cellOf Y9.out.1.1 0 _ rfl
    have a1 := cellOf Y9.out.1.1 1 _ rfl
    have b0 := cellOf Y9.out.1.2.2.1 0 _ rfl
    have b1 := cellOf Y9.out.1.2.2.1 1 _ rfl
    have z0 := frozenOf Y9.out.1.2.2.1 0
    have z1 := frozenOf Y9.out.1.2.2.1 1
    have Y10 := two6_end Y9.out.1
    have H10 : Hid (_ ∧ _) := Y10
    clear Y10
    go_wp2_with fail
    refine bodyPost_ret (v := .agg #[.int .u64 8192, .slice a6 n6 c6]) (by simp [results, Try.results37, go_sem, b0, b1]) rfl ⟨a6, n6, c6, bs6, rfl, Y9.out.2.1, H10.out.1, Y9.out.2.2.1, Y9.out.2.2.2, H10.out.2⟩
  · have _hm : True := trivial
    go_simp
    refine (HB.out _).mono ?_
    rintro e w2 ⟨ba, bc, rfl, hr, hb⟩
    have X2 : Hid (Tri w w2 va nn vc n D A U ∧ Reads .u8 w2 (.slice ba 2 bc) 2 (byteAt m)) := ⟨X0.out.step hb, hr⟩
    clear hr hb X0
    refine HH1.out _ _ ⟨cellOf X2.out.1.2.1 0 _ rfl, cellOf X2.out.1.2.1 1 _ rfl, cellOf X2.out.1.2.1 2 _ rfl, cellOf X2.out.1.2.1 3 _ rfl⟩ (fun hS2 => ?_)
    clear HH1 HH0 hS
    (try simp only [Act.put, List.getElem_toArray, List.getElem_cons_succ, List.getElem_cons_zero, List.setIfInBounds_toArray, List.set_cons_zero, List.set_cons_succ])
    refine wpAnyH_ready (rs := [0]) (by kernel_rfl) (by simp) ?_
    refine AllReadyH.cons rfl (fun HH0 HH1 => ?_) AllReadyH.nil
    have f0 := cellOf X2.out.1.1 0 _ rfl
    have f1 := cellOf X2.out.1.1 1 _ rfl
    go_simp
    refine HH1.out _ _ ⟨cellOf X2.out.1.2.1 0 _ rfl, cellOf X2.out.1.2.1 1 _ rfl, cellOf X2.out.1.2.1 2 _ rfl, cellOf X2.out.1.2.1 3 _ rfl⟩ (fun hS1 => ?_)
    clear HH1 HH0 hS2 f0 f1
    (try simp only [Act.put, List.getElem_toArray, List.getElem_cons_succ, List.getElem_cons_zero, List.setIfInBounds_toArray, List.set_cons_zero, List.set_cons_succ])
    refine wpAnyH_ready (rs := [12]) (by kernel_rfl) (by simp) ?_
    refine AllReadyH.cons rfl (fun HH0 HH1 => ?_) AllReadyH.nil
    go_simp
    refine (HW.out _ X2.out.1.2.2.2 _ X2.out.2).mono ?_
    rintro e w6 ⟨a6, n6, c6, bs6, rfl, h6, hb⟩
    have X6 : Hid (Tri w w6 va nn vc n D A U ∧ n6 ≤ nn + 2 ∧ RefIn F w6 (.slice a6 n6 c6) n6 bs6 ∧ (∀ a, rget bs6 n6 a = over M x 2 (byteAt m) a) ∧ Rng bs6 n6 8192) := ⟨X2.out.1.step hb, h6⟩
    clear h6 hb X2
    refine HH1.out _ _ ⟨cellOf X6.out.1.2.1 0 _ rfl, cellOf X6.out.1.2.1 1 _ rfl, cellOf X6.out.1.2.1 2 _ rfl, cellOf X6.out.1.2.1 3 _ rfl⟩ (fun hS6 => ?_)
    clear HH1 HH0 hS1
    (try simp only [Act.put, List.getElem_toArray, List.getElem_cons_succ, List.getElem_cons_zero, List.setIfInBounds_toArray, List.set_cons_zero, List.set_cons_succ])
    refine wpAnyH_take (i := 13) (v := ?_) rfl (by kernel_rfl) (by kernel_rfl) (by kernel_rfl) (fun _ _ _ h => h) (Or.inl ⟨by kernel_rfl, ?_⟩) hS6 ?_
    rotate_left
    · intro w hSw; (try dsimp only at hSw); go_simp; try (with_reducible rfl)
    (try simp only [Act.put, List.getElem_toArray, List.getElem_cons_succ, List.getElem_cons_zero, List.setIfInBounds_toArray, List.set_cons_zero, List.set_cons_succ])
    refine wpAnyH_take (i := 14) (v := ?_) rfl (by kernel_rfl) (by kernel_rfl) (by kernel_rfl) (fun _ _ _ h => h) (Or.inl ⟨by kernel_rfl, ?_⟩) hS6 ?_
    rotate_left
    · intro w hSw; (try dsimp only at hSw); go_simp; try (with_reducible rfl)
    (try simp only [Act.put, List.getElem_toArray, List.getElem_cons_succ, List.getElem_cons_zero, List.setIfInBounds_toArray, List.set_cons_zero, List.set_cons_succ])
    refine wpAnyH_take (i := 15) (v := ?_) rfl (by kernel_rfl) (by kernel_rfl) (by kernel_rfl) (fun _ _ _ h => h) (Or.inl ⟨by kernel_rfl, ?_⟩) hS6 ?_
    rotate_left
    · intro w hSw; (try dsimp only at hSw); go_simp; try (with_reducible rfl)
    (try simp only [Act.put, List.getElem_toArray, List.getElem_cons_succ, List.getElem_cons_zero, List.setIfInBounds_toArray, List.set_cons_zero, List.set_cons_succ])
    have a0 := cellOf X6.out.1.1 0 _ rfl
    have a1 := cellOf X6.out.1.1 1 _ rfl
    have z0 := frozenOf X6.out.1.1 0
    have z1 := frozenOf X6.out.1.1 1
    refine wpAnyH_ready (rs := [16]) (by kernel_rfl) (by simp) ?_
    refine AllReadyH.cons rfl (fun HH0 HH1 => ?_) AllReadyH.nil
    go_simp
    have Y9 : Hid ((Two6 w ((w6.setCell ⟨w.heap.size, 0, none⟩ (.int .u64 8192)).setCell ⟨w.heap.size, 1, none⟩ (.slice a6 n6 c6)) F a6 n6 c6 n D A U bs6) ∧ n6 ≤ nn + 2 ∧ (∀ a, rget bs6 n6 a = over M x 2 (byteAt m) a) ∧ Rng bs6 n6 8192) := ⟨tri_end X6.out.1 X6.out.2.2.1, X6.out.2.1, X6.out.2.2.2.1, X6.out.2.2.2.2⟩
    clear X6 a0 a1 z0 z1
    generalize (w6.setCell ⟨w.heap.size, 0, none⟩ (.int .u64 8192)).setCell ⟨w.heap.size, 1, none⟩ (.slice a6 n6 c6) = w9 at *
    refine HH1.out _ _ ⟨cellOf Y9.out.1.2.1 0 _ rfl, cellOf Y9.out.1.2.1 1 _ rfl, cellOf Y9.out.1.2.1 2 _ rfl, cellOf Y9.out.1.2.1 3 _ rfl⟩ (fun hS9 => ?_)
    clear HH1 HH0 hS6
    (try simp only [Act.put, List.getElem_toArray, List.getElem_cons_succ, List.getElem_cons_zero, List.setIfInBounds_toArray, List.set_cons_zero, List.set_cons_succ])
    refine wpAnyH_done (by kernel_rfl) ?_ _
    clear hS9
    have a0 := cellOf Y9.out.1.1 0 _ rfl
    have a1 := cellOf Y9.out.1.1 1 _ rfl
    have b0 := cellOf Y9.out.1.2.2.1 0 _ rfl
    have b1 := cellOf Y9.out.1.2.2.1 1 _ rfl
    have z0 := frozenOf Y9.out.1.2.2.1 0
    have z1 := frozenOf Y9.out.1.2.2.1 1
    have Y10 := two6_end Y9.out.1
    have H10 : Hid (_ ∧ _) := Y10
    clear Y10
    go_wp2_with fail
    refine bodyPost_ret (v := .agg #[.int .u64 8192, .slice a6 n6 c6]) (by simp [results, Try.results37, go_sem, b0, b1]) rfl ⟨a6, n6, c6, bs6, rfl, Y9.out.2.1, H10.out.1, Y9.out.2.2.1, Y9.out.2.2.2, H10.out.2⟩
end Go.Proofs.Ythnmoalomodbpaa
