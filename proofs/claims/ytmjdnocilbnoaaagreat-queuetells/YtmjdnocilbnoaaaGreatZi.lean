/- Texts put together. -/
import Derived.Test.YtmjdnocilbnoaaaGreatZc
import Derived.BigQuiet
import Derived.Deep.QuietTactic
import Derived.Test.YtmjdnocilbnoaaaGreatZh
import Derived.Test.YtmjdnocilbnoaaaGreatZg
import Derived.Test.YtmjdnocilbnoaaaGreatZd
import Derived.Defers
import Derived.Recover
import Derived.Test.YtmjdnocilbnoaaaGreatZb
import Derived.Laws.StructEq
import Derived.Deep.RegionHeld3
/- The document's Put, Publish and Want. -/
namespace Go.Proofs.YtmjdnocilbnoaaaGreat
open Go.RowKit Go.Maps
set_option linter.unusedVariables false
set_option linter.unusedSimpArgs false
set_option maxRecDepth 100000
/-- the three boxes of a call: the memory, the layout, what is told -/
def Tri (w V : World) (va : Option Addr) (nn vc n D A U : Nat) : Prop :=
  V.heap[w.heap.size]? = some (.cells #[.int .u64 8192, .slice va nn vc] 33 (0, 0)) ∧ V.heap[w.heap.size + 1]? = some (.cells #[.int .i64 (n : Int), .int .u64 (D : Int), .int .u64 (A : Int), .int .u64 (U : Int)] 25 (0, 0)) ∧ V.heap[w.heap.size + 2]? = some (.cells #[.int .u64 0, .slice none 0 0] 33 (0, 0)) ∧ Below w.heap.size w V
theorem Tri.step {w V V' : World} {va : Option Addr} {nn vc n D A U : Nat} (h : Tri w V va nn vc n D A U) (hb : Below V.heap.size V V') : Tri w V' va nn vc n D A U := ⟨below_box h.1 hb, below_box h.2.1 hb, below_box h.2.2.1 hb, below_to h.2.2.2 hb⟩
theorem Tri.new (w : World) (va : Option Addr) (nn vc n D A U : Nat) : Tri w (((w.alloc (.cells #[.int .u64 8192, .slice va nn vc] 33)).alloc (.cells #[.int .i64 (n : Int), .int .u64 (D : Int), .int .u64 (A : Int), .int .u64 (U : Int)] 25)).alloc (.cells #[.int .u64 0, .slice none 0 0] 33)) va nn vc n D A U := by
  have h := two_in w (.cells #[.int .u64 8192, .slice va nn vc] 33) (.cells #[.int .i64 (n : Int), .int .u64 (D : Int), .int .u64 (A : Int), .int .u64 (U : Int)] 25)
  have e2 : ((w.alloc (.cells #[.int .u64 8192, .slice va nn vc] 33)).alloc (.cells #[.int .i64 (n : Int), .int .u64 (D : Int), .int .u64 (A : Int), .int .u64 (U : Int)] 25)).heap.size = w.heap.size + 2 := by simp
  have h3 := heap_alloc_new ((w.alloc (.cells #[.int .u64 8192, .slice va nn vc] 33)).alloc (.cells #[.int .i64 (n : Int), .int .u64 (D : Int), .int .u64 (A : Int), .int .u64 (U : Int)] 25)) (.cells #[.int .u64 0, .slice none 0 0] 33)
  rw [e2] at h3
  exact ⟨cells_alloc h.1, cells_alloc h.2, h3, below_to (two_boxes w _ _) (one_box _ _)⟩
def Two6 (w V : World) (F : Nat → Prop) (a6 : Option Addr) (n6 c6 n D A U : Nat) (bs6 : Nat → Nat × Nat) : Prop :=
  V.heap[w.heap.size]? = some (.cells #[.int .u64 8192, .slice a6 n6 c6] 33 (0, 0)) ∧ V.heap[w.heap.size + 1]? = some (.cells #[.int .i64 (n : Int), .int .u64 (D : Int), .int .u64 (A : Int), .int .u64 (U : Int)] 25 (0, 0)) ∧ V.heap[w.heap.size + 2]? = some (.cells #[.int .u64 0, .slice none 0 0] 33 (0, 0)) ∧ RefIn F V (.slice a6 n6 c6) n6 bs6 ∧ Below w.heap.size w V
/-- the answer is laid into the first box, then into the third -/
theorem tri_end {w V : World} {F : Nat → Prop} {va a6 : Option Addr} {nn vc n D A U n6 c6 : Nat} {bs6 : Nat → Nat × Nat} (h : Tri w V va nn vc n D A U) (hr : RefIn F V (.slice a6 n6 c6) n6 bs6) :
    Two6 w ((V.setCell ⟨w.heap.size, 0, none⟩ (.int .u64 8192)).setCell ⟨w.heap.size, 1, none⟩ (.slice a6 n6 c6)) F a6 n6 c6 n D A U bs6 := by
  have hq := (box_facts h.1).2.1
  have hq' : (V.setCell ⟨w.heap.size, 0, none⟩ (.int .u64 8192)).cell? ⟨w.heap.size, 1, none⟩ = some (.slice va nn vc) := by
    rw [World.cell?_setCell_other _ _ _ _ (fun h => by simp at h)]; exact hq
  exact ⟨box_set h.1, box_other h.2.1 (by omega), box_other h.2.2.1 (by omega), (hr.setBox hq 0 _).setBox hq' 1 _, (h.2.2.2.setCell (p := ⟨w.heap.size, 0, none⟩) (Nat.le_refl _) _).setCell (p := ⟨w.heap.size, 1, none⟩) (Nat.le_refl _) _⟩
theorem two6_end {w V : World} {F : Nat → Prop} {a6 : Option Addr} {n D A U n6 c6 : Nat} {bs6 : Nat → Nat × Nat} (h : Two6 w V F a6 n6 c6 n D A U bs6) :
    RefIn F ((V.setCell ⟨w.heap.size + 2, 0, none⟩ (.int .u64 8192)).setCell ⟨w.heap.size + 2, 1, none⟩ (.slice a6 n6 c6)) (.slice a6 n6 c6) n6 bs6 ∧ Below w.heap.size w ((V.setCell ⟨w.heap.size + 2, 0, none⟩ (.int .u64 8192)).setCell ⟨w.heap.size + 2, 1, none⟩ (.slice a6 n6 c6)) := by
  have hq := (box_facts h.2.2.1).2.1
  have hq' : (V.setCell ⟨w.heap.size + 2, 0, none⟩ (.int .u64 8192)).cell? ⟨w.heap.size + 2, 1, none⟩ = some (.slice none 0 0) := by
    rw [World.cell?_setCell_other _ _ _ _ (fun h => by simp at h)]; exact hq
  have hle : w.heap.size ≤ w.heap.size + 2 := by omega
  exact ⟨(h.2.2.2.1.setBox hq 0 _).setBox hq' 1 _, (h.2.2.2.2.setCell (p := ⟨w.heap.size + 2, 0, none⟩) hle _).setCell (p := ⟨w.heap.size + 2, 1, none⟩) hle _⟩
set_option maxHeartbeats 2000000 in
theorem rpublish_any {F : Nat → Prop} {w : World} {nn vc : Nat} {va : Option Addr} {bs : Nat → Nat × Nat} {M : Nat → Nat} (h : RefIn F w (.slice va nn vc) nn bs) (hM : ∀ a, rget bs nn a = M a) (hle : ∀ a, M a ≤ 255) (hn : nn ≤ 1000000) (hF : ∀ k, F k → k < w.heap.size) (hrg : Rng bs nn 8192) {n D A U : Nat} (hg : Gd n D A U) (m : Nat) (hm : m ≤ 65535) : Calls Tryz.prog 57 #[.agg #[.int .u64 8192, .slice va nn vc], .agg #[.int .i64 (n : Int), .int .u64 (D : Int), .int .u64 (A : Int), .int .u64 (U : Int)], .int .i64 (m : Int)] w fun e w' => ∃ a' n' c' bs', e = .returned (.agg #[.int .u64 8192, .slice a' n' c']) ∧ n' ≤ nn + 2 ∧ RefIn F w' (.slice a' n' c') n' bs' ∧ (∀ a, rget bs' n' a = over M (U + 2) 2 (byteAt m) a) ∧ Rng bs' n' 8192 ∧ Below w.heap.size w w' := by
  have g1 := hg.u1
  have g2 := hg.u2
  have g3 := hg.n2
  have g4 := hg.n1
  have em : IntKind.u64.wrap (m : Int) = (m : Int) := by rw [wrap_u64]; omega
  obtain ⟨x, qx⟩ : ∃ y : Nat, y = U + 2 := ⟨_, rfl⟩
  have wx : IntKind.u64.wrap ((U : Int) + 2) = (x : Int) := by rw [wrap_u64]; omega
  have HX : Hid (U + 2 = x ∧ x < 18446744073709551616) := ⟨by omega, by omega⟩
  have hin : inB x 2 2147483648 8192 = true := by simp only [inB, decide_eq_true_iff]; omega
  have HW : Hid (∀ V, Below w.heap.size w V → ∀ dv, Reads .u8 V dv 2 (byteAt m) → Calls Tryz.prog 31 #[.agg #[.int .u64 8192, .slice va nn vc], .int .u64 (x : Int), dv] V fun e w' => ∃ a' n' c' bs', e = .returned (.tuple #[.agg #[.int .u64 8192, .slice a' n' c'], .bool true]) ∧ (n' ≤ nn + 2 ∧ RefIn F w' (.slice a' n' c') n' bs' ∧ (∀ a, rget bs' n' a = over M x 2 (byteAt m) a) ∧ Rng bs' n' 8192) ∧ Below V.heap.size V w') := fun V hV dv hdv => (rwr_any F V x 2 (.slice va nn vc) dv nn bs (byteAt m) true hin (h.below hV) hdv (fun k hk => Nat.lt_of_lt_of_le (hF k hk) hV.size) hn HX.out.2 (by decide)).mono fun e w' ⟨a', n', c', bs', he, h1, h2, h3, h4⟩ => ⟨a', n', c', bs', he, ⟨h1, h2, fun a => by rw [h3.1 a, if_pos rfl]; exact over_congr _ _ _ hM a, h3.2 hrg⟩, h4⟩
  have HB : Hid (∀ V, Calls Tryz.prog 91 #[.int .u64 (m : Int), .int .i64 2] V fun e w' => ∃ ba bc, e = .returned (.slice ba 2 bc) ∧ Reads .u8 w' (.slice ba 2 bc) 2 (byteAt m) ∧ Below V.heap.size V w') := fun V => (rbytes_any m 2 2 (by omega) (by decide) V).mono fun e w' ⟨v, he, ho, hb⟩ => by
    obtain ⟨a, c, rfl⟩ := own_form ho
    exact ⟨a, c, he, reads_own ho, hb⟩
  clear g1 g2 g3 g4 hg h hM hle hn hF hrg hm hin qx
  rw [HX.out.1]
  have B0 : Hid (Tri w (((w.alloc (.cells #[.int .u64 8192, .slice va nn vc] 33)).alloc (.cells #[.int .i64 (n : Int), .int .u64 (D : Int), .int .u64 (A : Int), .int .u64 (U : Int)] 25)).alloc (.cells #[.int .u64 0, .slice none 0 0] 33)) va nn vc n D A U) := Tri.new w va nn vc n D A U
  go_enter Tryz.func57, Tryz.ntmps57
  go_upto_region 1 with fail
  generalize (((w.alloc (.cells #[.int .u64 8192, .slice va nn vc] 33)).alloc (.cells #[.int .i64 (n : Int), .int .u64 (D : Int), .int .u64 (A : Int), .int .u64 (U : Int)] 25)).alloc (.cells #[.int .u64 0, .slice none 0 0] 33)) = w0 at *
  have X0 : Hid (Tri w w0.drew va nn vc n D A U) := B0.out.step (Below.drew (Below.refl _ _))
  clear B0
  refine wp_region_held_drew (S := fun Z => Z.cell? ⟨w.heap.size + 1, 0, none⟩ = some (.int .i64 (n : Int)) ∧ Z.cell? ⟨w.heap.size + 1, 1, none⟩ = some (.int .u64 (D : Int)) ∧ Z.cell? ⟨w.heap.size + 1, 2, none⟩ = some (.int .u64 (A : Int)) ∧ Z.cell? ⟨w.heap.size + 1, 3, none⟩ = some (.int .u64 (U : Int))) (by kernel_rfl) ⟨cellOf X0.out.2.1 0 _ rfl, cellOf X0.out.2.1 1 _ rfl, cellOf X0.out.2.1 2 _ rfl, cellOf X0.out.2.1 3 _ rfl⟩ ?_
  intro hS
  generalize w0.drew = V0 at *
  refine wpAnyH_take (i := 1) (v := ?_) rfl (by kernel_rfl) (by kernel_rfl) (by kernel_rfl) (fun _ _ _ h => h) (Or.inl ⟨by kernel_rfl, ?_⟩) hS ?_
  rotate_left
  · intro w hSw; (try dsimp only at hSw); go_simp; try (with_reducible rfl)
  (try simp only [Act.put, List.getElem_toArray, List.getElem_cons_succ, List.getElem_cons_zero, List.setIfInBounds_toArray, List.set_cons_zero, List.set_cons_succ])
  refine wpAnyH_take (i := 2) (v := ?_) rfl (by kernel_rfl) (by kernel_rfl) (by kernel_rfl) (fun _ _ _ h => h) (Or.inl ⟨by kernel_rfl, ?_⟩) hS ?_
  rotate_left
  · intro w hSw; (try dsimp only at hSw); go_simp; try (with_reducible rfl)
  (try simp only [Act.put, List.getElem_toArray, List.getElem_cons_succ, List.getElem_cons_zero, List.setIfInBounds_toArray, List.set_cons_zero, List.set_cons_succ])
  refine wpAnyH_take (i := 3) (v := ?_) rfl (by kernel_rfl) (by kernel_rfl) (by kernel_rfl) (fun _ _ _ h => h) (Or.inl ⟨by kernel_rfl, ?_⟩) hS ?_
  rotate_left
  · intro w hSw; (try dsimp only at hSw); go_simp; try (with_reducible rfl)
  (try simp only [Act.put, List.getElem_toArray, List.getElem_cons_succ, List.getElem_cons_zero, List.setIfInBounds_toArray, List.set_cons_zero, List.set_cons_succ])
  refine wpAnyH_take (i := 4) (v := ?_) rfl (by kernel_rfl) (by kernel_rfl) (by kernel_rfl) (fun _ _ _ h => h) (Or.inl ⟨by kernel_rfl, ?_⟩) hS ?_
  rotate_left
  · intro w hSw; (try dsimp only at hSw); go_simp; try (with_reducible rfl)
  (try simp only [Act.put, List.getElem_toArray, List.getElem_cons_succ, List.getElem_cons_zero, List.setIfInBounds_toArray, List.set_cons_zero, List.set_cons_succ])
  refine wpAnyH_take (i := 5) (v := ?_) rfl (by kernel_rfl) (by kernel_rfl) (by kernel_rfl) (fun _ _ _ h => h) (Or.inl ⟨by kernel_rfl, ?_⟩) hS ?_
  rotate_left
  · intro w hSw; (try dsimp only at hSw); go_simp; try (with_reducible rfl)
  (try simp only [Act.put, List.getElem_toArray, List.getElem_cons_succ, List.getElem_cons_zero, List.setIfInBounds_toArray, List.set_cons_zero, List.set_cons_succ])
  refine wpAnyH_ready (rs := [0, 6]) (by kernel_rfl) (by simp) ?_
  refine AllReadyH.cons rfl (fun HH0 HH1 => ?_) (AllReadyH.cons rfl (fun HH0 HH1 => ?_) AllReadyH.nil)
  · have _hm : True := trivial
    have f0 := cellOf X0.out.1 0 _ rfl
    have f1 := cellOf X0.out.1 1 _ rfl
    go_simp
    refine HH1.out _ _ ⟨cellOf X0.out.2.1 0 _ rfl, cellOf X0.out.2.1 1 _ rfl, cellOf X0.out.2.1 2 _ rfl, cellOf X0.out.2.1 3 _ rfl⟩ (fun hS1 => ?_)
    clear HH1 HH0 hS f0 f1
    (try simp only [Act.put, List.getElem_toArray, List.getElem_cons_succ, List.getElem_cons_zero, List.setIfInBounds_toArray, List.set_cons_zero, List.set_cons_succ])
    refine wpAnyH_ready (rs := [6]) (by kernel_rfl) (by simp) ?_
    refine AllReadyH.cons rfl (fun HH0 HH1 => ?_) AllReadyH.nil
    go_simp
    refine (HB.out _).mono ?_
    rintro e w2 ⟨ba, bc, rfl, hr, hb⟩
    have X2 : Hid (Tri w w2 va nn vc n D A U ∧ Reads .u8 w2 (.slice ba 2 bc) 2 (byteAt m)) := ⟨X0.out.step hb, hr⟩
    clear hr hb X0
    refine HH1.out _ _ ⟨cellOf X2.out.1.2.1 0 _ rfl, cellOf X2.out.1.2.1 1 _ rfl, cellOf X2.out.1.2.1 2 _ rfl, cellOf X2.out.1.2.1 3 _ rfl⟩ (fun hS2 => ?_)
    clear HH1 HH0 hS1
    (try simp only [Act.put, List.getElem_toArray, List.getElem_cons_succ, List.getElem_cons_zero, List.setIfInBounds_toArray, List.set_cons_zero, List.set_cons_succ])
    refine wpAnyH_ready (rs := [7]) (by kernel_rfl) (by simp) ?_
    refine AllReadyH.cons rfl (fun HH0 HH1 => ?_) AllReadyH.nil
    go_simp
    refine (HW.out _ X2.out.1.2.2.2 _ X2.out.2).mono ?_
    rintro e w6 ⟨a6, n6, c6, bs6, rfl, h6, hb⟩
    have X6 : Hid (Tri w w6 va nn vc n D A U ∧ n6 ≤ nn + 2 ∧ RefIn F w6 (.slice a6 n6 c6) n6 bs6 ∧ (∀ a, rget bs6 n6 a = over M x 2 (byteAt m) a) ∧ Rng bs6 n6 8192) := ⟨X2.out.1.step hb, h6⟩
    clear h6 hb X2
    refine HH1.out _ _ ⟨cellOf X6.out.1.2.1 0 _ rfl, cellOf X6.out.1.2.1 1 _ rfl, cellOf X6.out.1.2.1 2 _ rfl, cellOf X6.out.1.2.1 3 _ rfl⟩ (fun hS6 => ?_)
    clear HH1 HH0 hS2
    (try simp only [Act.put, List.getElem_toArray, List.getElem_cons_succ, List.getElem_cons_zero, List.setIfInBounds_toArray, List.set_cons_zero, List.set_cons_succ])
    refine wpAnyH_take (i := 8) (v := ?_) rfl (by kernel_rfl) (by kernel_rfl) (by kernel_rfl) (fun _ _ _ h => h) (Or.inl ⟨by kernel_rfl, ?_⟩) hS6 ?_
    rotate_left
    · intro w hSw; (try dsimp only at hSw); go_simp; try (with_reducible rfl)
    (try simp only [Act.put, List.getElem_toArray, List.getElem_cons_succ, List.getElem_cons_zero, List.setIfInBounds_toArray, List.set_cons_zero, List.set_cons_succ])
    refine wpAnyH_take (i := 9) (v := ?_) rfl (by kernel_rfl) (by kernel_rfl) (by kernel_rfl) (fun _ _ _ h => h) (Or.inl ⟨by kernel_rfl, ?_⟩) hS6 ?_
    rotate_left
    · intro w hSw; (try dsimp only at hSw); go_simp; try (with_reducible rfl)
    (try simp only [Act.put, List.getElem_toArray, List.getElem_cons_succ, List.getElem_cons_zero, List.setIfInBounds_toArray, List.set_cons_zero, List.set_cons_succ])
    refine wpAnyH_take (i := 10) (v := ?_) rfl (by kernel_rfl) (by kernel_rfl) (by kernel_rfl) (fun _ _ _ h => h) (Or.inl ⟨by kernel_rfl, ?_⟩) hS6 ?_
    rotate_left
    · intro w hSw; (try dsimp only at hSw); go_simp; try (with_reducible rfl)
    (try simp only [Act.put, List.getElem_toArray, List.getElem_cons_succ, List.getElem_cons_zero, List.setIfInBounds_toArray, List.set_cons_zero, List.set_cons_succ])
    have a0 := cellOf X6.out.1.1 0 _ rfl
    have a1 := cellOf X6.out.1.1 1 _ rfl
    have z0 := frozenOf X6.out.1.1 0
    have z1 := frozenOf X6.out.1.1 1
    refine wpAnyH_ready (rs := [11]) (by kernel_rfl) (by simp) ?_
    refine AllReadyH.cons rfl (fun HH0 HH1 => ?_) AllReadyH.nil
    go_simp
    have Y9 : Hid ((Two6 w ((w6.setCell ⟨w.heap.size, 0, none⟩ (.int .u64 8192)).setCell ⟨w.heap.size, 1, none⟩ (.slice a6 n6 c6)) F a6 n6 c6 n D A U bs6) ∧ n6 ≤ nn + 2 ∧ (∀ a, rget bs6 n6 a = over M x 2 (byteAt m) a) ∧ Rng bs6 n6 8192) := ⟨tri_end X6.out.1 X6.out.2.2.1, X6.out.2.1, X6.out.2.2.2.1, X6.out.2.2.2.2⟩
    clear X6 a0 a1 z0 z1
    generalize (w6.setCell ⟨w.heap.size, 0, none⟩ (.int .u64 8192)).setCell ⟨w.heap.size, 1, none⟩ (.slice a6 n6 c6) = w9 at *
    refine HH1.out _ _ ⟨cellOf Y9.out.1.2.1 0 _ rfl, cellOf Y9.out.1.2.1 1 _ rfl, cellOf Y9.out.1.2.1 2 _ rfl, cellOf Y9.out.1.2.1 3 _ rfl⟩ (fun hS9 => ?_)
    clear HH1 HH0 hS6
    (try simp only [Act.put, List.getElem_toArray, List.getElem_cons_succ, List.getElem_cons_zero, List.setIfInBounds_toArray, List.set_cons_zero, List.set_cons_succ])
    refine wpAnyH_done (by kernel_rfl) ?_ _
    clear hS9
    have a0 := cellOf Y9.out.1.1 0 _ rfl
    have a1 := cellOf Y9.out.1.1 1 _ rfl
    have b0 := cellOf Y9.out.1.2.2.1 0 _ rfl
    have b1 := cellOf Y9.out.1.2.2.1 1 _ rfl
    have z0 := frozenOf Y9.out.1.2.2.1 0
    have z1 := frozenOf Y9.out.1.2.2.1 1
    have Y10 := two6_end Y9.out.1
    have H10 : Hid (_ ∧ _) := Y10
    clear Y10
    go_wp2_with fail
    refine bodyPost_ret (v := .agg #[.int .u64 8192, .slice a6 n6 c6]) (by simp [results, Tryz.results57, go_sem, b0, b1]) rfl ⟨a6, n6, c6, bs6, rfl, Y9.out.2.1, H10.out.1, Y9.out.2.2.1, Y9.out.2.2.2, H10.out.2⟩
  · have _hm : True := trivial
    go_simp
    refine (HB.out _).mono ?_
    rintro e w2 ⟨ba, bc, rfl, hr, hb⟩
    have X2 : Hid (Tri w w2 va nn vc n D A U ∧ Reads .u8 w2 (.slice ba 2 bc) 2 (byteAt m)) := ⟨X0.out.step hb, hr⟩
    clear hr hb X0
    refine HH1.out _ _ ⟨cellOf X2.out.1.2.1 0 _ rfl, cellOf X2.out.1.2.1 1 _ rfl, cellOf X2.out.1.2.1 2 _ rfl, cellOf X2.out.1.2.1 3 _ rfl⟩ (fun hS2 => ?_)
    clear HH1 HH0 hS
    (try simp only [Act.put, List.getElem_toArray, List.getElem_cons_succ, List.getElem_cons_zero, List.setIfInBounds_toArray, List.set_cons_zero, List.set_cons_succ])
    refine wpAnyH_ready (rs := [0]) (by kernel_rfl) (by simp) ?_
    refine AllReadyH.cons rfl (fun HH0 HH1 => ?_) AllReadyH.nil
    have f0 := cellOf X2.out.1.1 0 _ rfl
    have f1 := cellOf X2.out.1.1 1 _ rfl
    go_simp
    refine HH1.out _ _ ⟨cellOf X2.out.1.2.1 0 _ rfl, cellOf X2.out.1.2.1 1 _ rfl, cellOf X2.out.1.2.1 2 _ rfl, cellOf X2.out.1.2.1 3 _ rfl⟩ (fun hS1 => ?_)
    clear HH1 HH0 hS2 f0 f1
    (try simp only [Act.put, List.getElem_toArray, List.getElem_cons_succ, List.getElem_cons_zero, List.setIfInBounds_toArray, List.set_cons_zero, List.set_cons_succ])
    refine wpAnyH_ready (rs := [7]) (by kernel_rfl) (by simp) ?_
    refine AllReadyH.cons rfl (fun HH0 HH1 => ?_) AllReadyH.nil
    go_simp
    refine (HW.out _ X2.out.1.2.2.2 _ X2.out.2).mono ?_
    rintro e w6 ⟨a6, n6, c6, bs6, rfl, h6, hb⟩
    have X6 : Hid (Tri w w6 va nn vc n D A U ∧ n6 ≤ nn + 2 ∧ RefIn F w6 (.slice a6 n6 c6) n6 bs6 ∧ (∀ a, rget bs6 n6 a = over M x 2 (byteAt m) a) ∧ Rng bs6 n6 8192) := ⟨X2.out.1.step hb, h6⟩
    clear h6 hb X2
    refine HH1.out _ _ ⟨cellOf X6.out.1.2.1 0 _ rfl, cellOf X6.out.1.2.1 1 _ rfl, cellOf X6.out.1.2.1 2 _ rfl, cellOf X6.out.1.2.1 3 _ rfl⟩ (fun hS6 => ?_)
    clear HH1 HH0 hS1
    (try simp only [Act.put, List.getElem_toArray, List.getElem_cons_succ, List.getElem_cons_zero, List.setIfInBounds_toArray, List.set_cons_zero, List.set_cons_succ])
    refine wpAnyH_take (i := 8) (v := ?_) rfl (by kernel_rfl) (by kernel_rfl) (by kernel_rfl) (fun _ _ _ h => h) (Or.inl ⟨by kernel_rfl, ?_⟩) hS6 ?_
    rotate_left
    · intro w hSw; (try dsimp only at hSw); go_simp; try (with_reducible rfl)
    (try simp only [Act.put, List.getElem_toArray, List.getElem_cons_succ, List.getElem_cons_zero, List.setIfInBounds_toArray, List.set_cons_zero, List.set_cons_succ])
    refine wpAnyH_take (i := 9) (v := ?_) rfl (by kernel_rfl) (by kernel_rfl) (by kernel_rfl) (fun _ _ _ h => h) (Or.inl ⟨by kernel_rfl, ?_⟩) hS6 ?_
    rotate_left
    · intro w hSw; (try dsimp only at hSw); go_simp; try (with_reducible rfl)
    (try simp only [Act.put, List.getElem_toArray, List.getElem_cons_succ, List.getElem_cons_zero, List.setIfInBounds_toArray, List.set_cons_zero, List.set_cons_succ])
    refine wpAnyH_take (i := 10) (v := ?_) rfl (by kernel_rfl) (by kernel_rfl) (by kernel_rfl) (fun _ _ _ h => h) (Or.inl ⟨by kernel_rfl, ?_⟩) hS6 ?_
    rotate_left
    · intro w hSw; (try dsimp only at hSw); go_simp; try (with_reducible rfl)
    (try simp only [Act.put, List.getElem_toArray, List.getElem_cons_succ, List.getElem_cons_zero, List.setIfInBounds_toArray, List.set_cons_zero, List.set_cons_succ])
    have a0 := cellOf X6.out.1.1 0 _ rfl
    have a1 := cellOf X6.out.1.1 1 _ rfl
    have z0 := frozenOf X6.out.1.1 0
    have z1 := frozenOf X6.out.1.1 1
    refine wpAnyH_ready (rs := [11]) (by kernel_rfl) (by simp) ?_
    refine AllReadyH.cons rfl (fun HH0 HH1 => ?_) AllReadyH.nil
    go_simp
    have Y9 : Hid ((Two6 w ((w6.setCell ⟨w.heap.size, 0, none⟩ (.int .u64 8192)).setCell ⟨w.heap.size, 1, none⟩ (.slice a6 n6 c6)) F a6 n6 c6 n D A U bs6) ∧ n6 ≤ nn + 2 ∧ (∀ a, rget bs6 n6 a = over M x 2 (byteAt m) a) ∧ Rng bs6 n6 8192) := ⟨tri_end X6.out.1 X6.out.2.2.1, X6.out.2.1, X6.out.2.2.2.1, X6.out.2.2.2.2⟩
    clear X6 a0 a1 z0 z1
    generalize (w6.setCell ⟨w.heap.size, 0, none⟩ (.int .u64 8192)).setCell ⟨w.heap.size, 1, none⟩ (.slice a6 n6 c6) = w9 at *
    refine HH1.out _ _ ⟨cellOf Y9.out.1.2.1 0 _ rfl, cellOf Y9.out.1.2.1 1 _ rfl, cellOf Y9.out.1.2.1 2 _ rfl, cellOf Y9.out.1.2.1 3 _ rfl⟩ (fun hS9 => ?_)
    clear HH1 HH0 hS6
    (try simp only [Act.put, List.getElem_toArray, List.getElem_cons_succ, List.getElem_cons_zero, List.setIfInBounds_toArray, List.set_cons_zero, List.set_cons_succ])
    refine wpAnyH_done (by kernel_rfl) ?_ _
    clear hS9
    have a0 := cellOf Y9.out.1.1 0 _ rfl
    have a1 := cellOf Y9.out.1.1 1 _ rfl
    have b0 := cellOf Y9.out.1.2.2.1 0 _ rfl
    have b1 := cellOf Y9.out.1.2.2.1 1 _ rfl
    have z0 := frozenOf Y9.out.1.2.2.1 0
    have z1 := frozenOf Y9.out.1.2.2.1 1
    have Y10 := two6_end Y9.out.1
    have H10 : Hid (_ ∧ _) := Y10
    clear Y10
    go_wp2_with fail
    refine bodyPost_ret (v := .agg #[.int .u64 8192, .slice a6 n6 c6]) (by simp [results, Tryz.results57, go_sem, b0, b1]) rfl ⟨a6, n6, c6, bs6, rfl, Y9.out.2.1, H10.out.1, Y9.out.2.2.1, Y9.out.2.2.2, H10.out.2⟩
set_option maxHeartbeats 2000000 in
theorem rwant_any {F : Nat → Prop} {w : World} {nn vc : Nat} {va : Option Addr} {bs : Nat → Nat × Nat} {M : Nat → Nat} (h : RefIn F w (.slice va nn vc) nn bs) (hM : ∀ a, rget bs nn a = M a) (hle : ∀ a, M a ≤ 255) (hn : nn ≤ 1000000) (hF : ∀ k, F k → k < w.heap.size) (hrg : Rng bs nn 8192) {n D A U : Nat} (hg : Gd n D A U) (m : Nat) (hm : m ≤ 65535) : Calls Tryz.prog 65 #[.agg #[.int .u64 8192, .slice va nn vc], .agg #[.int .i64 (n : Int), .int .u64 (D : Int), .int .u64 (A : Int), .int .u64 (U : Int)], .int .i64 (m : Int)] w fun e w' => ∃ a' n' c' bs', e = .returned (.agg #[.int .u64 8192, .slice a' n' c']) ∧ n' ≤ nn + 2 ∧ RefIn F w' (.slice a' n' c') n' bs' ∧ (∀ a, rget bs' n' a = over M (U + 4 + 8 * n) 2 (byteAt m) a) ∧ Rng bs' n' 8192 ∧ Below w.heap.size w w' := by
  have g1 := hg.u1
  have g2 := hg.u2
  have g3 := hg.n2
  have g4 := hg.n1
  have em : IntKind.u64.wrap (m : Int) = (m : Int) := by rw [wrap_u64]; omega
  have en : IntKind.u64.wrap (n : Int) = (n : Int) := by rw [wrap_u64]; omega
  obtain ⟨U4, qU4⟩ : ∃ y : Nat, y = U + 4 := ⟨_, rfl⟩
  have wU4 : IntKind.u64.wrap ((U : Int) + 4) = (U4 : Int) := by rw [wrap_u64]; omega
  obtain ⟨n8, qn8⟩ : ∃ y : Nat, y = 8 * n := ⟨_, rfl⟩
  have wn8 : IntKind.u64.wrap (8 * (n : Int)) = (n8 : Int) := by rw [wrap_u64]; omega
  obtain ⟨x, qx⟩ : ∃ y : Nat, y = U4 + n8 := ⟨_, rfl⟩
  have wx : IntKind.u64.wrap ((U4 : Int) + (n8 : Int)) = (x : Int) := by rw [wrap_u64]; omega
  have HX : Hid (U + 4 + 8 * n = x ∧ x < 18446744073709551616) := ⟨by omega, by omega⟩
  have hin : inB x 2 2147483648 8192 = true := by simp only [inB, decide_eq_true_iff]; omega
  have HW : Hid (∀ V, Below w.heap.size w V → ∀ dv, Reads .u8 V dv 2 (byteAt m) → Calls Tryz.prog 31 #[.agg #[.int .u64 8192, .slice va nn vc], .int .u64 (x : Int), dv] V fun e w' => ∃ a' n' c' bs', e = .returned (.tuple #[.agg #[.int .u64 8192, .slice a' n' c'], .bool true]) ∧ (n' ≤ nn + 2 ∧ RefIn F w' (.slice a' n' c') n' bs' ∧ (∀ a, rget bs' n' a = over M x 2 (byteAt m) a) ∧ Rng bs' n' 8192) ∧ Below V.heap.size V w') := fun V hV dv hdv => (rwr_any F V x 2 (.slice va nn vc) dv nn bs (byteAt m) true hin (h.below hV) hdv (fun k hk => Nat.lt_of_lt_of_le (hF k hk) hV.size) hn HX.out.2 (by decide)).mono fun e w' ⟨a', n', c', bs', he, h1, h2, h3, h4⟩ => ⟨a', n', c', bs', he, ⟨h1, h2, fun a => by rw [h3.1 a, if_pos rfl]; exact over_congr _ _ _ hM a, h3.2 hrg⟩, h4⟩
  have HB : Hid (∀ V, Calls Tryz.prog 91 #[.int .u64 (m : Int), .int .i64 2] V fun e w' => ∃ ba bc, e = .returned (.slice ba 2 bc) ∧ Reads .u8 w' (.slice ba 2 bc) 2 (byteAt m) ∧ Below V.heap.size V w') := fun V => (rbytes_any m 2 2 (by omega) (by decide) V).mono fun e w' ⟨v, he, ho, hb⟩ => by
    obtain ⟨a, c, rfl⟩ := own_form ho
    exact ⟨a, c, he, reads_own ho, hb⟩
  clear g1 g2 g3 g4 hg h hM hle hn hF hrg hm hin qU4 qn8 qx
  rw [HX.out.1]
  have B0 : Hid (Tri w (((w.alloc (.cells #[.int .u64 8192, .slice va nn vc] 33)).alloc (.cells #[.int .i64 (n : Int), .int .u64 (D : Int), .int .u64 (A : Int), .int .u64 (U : Int)] 25)).alloc (.cells #[.int .u64 0, .slice none 0 0] 33)) va nn vc n D A U) := Tri.new w va nn vc n D A U
  go_enter Tryz.func65, Tryz.ntmps65
  go_upto_region 1 with fail
  generalize (((w.alloc (.cells #[.int .u64 8192, .slice va nn vc] 33)).alloc (.cells #[.int .i64 (n : Int), .int .u64 (D : Int), .int .u64 (A : Int), .int .u64 (U : Int)] 25)).alloc (.cells #[.int .u64 0, .slice none 0 0] 33)) = w0 at *
  have X0 : Hid (Tri w w0.drew va nn vc n D A U) := B0.out.step (Below.drew (Below.refl _ _))
  clear B0
  refine wp_region_held_drew (S := fun Z => Z.cell? ⟨w.heap.size + 1, 0, none⟩ = some (.int .i64 (n : Int)) ∧ Z.cell? ⟨w.heap.size + 1, 1, none⟩ = some (.int .u64 (D : Int)) ∧ Z.cell? ⟨w.heap.size + 1, 2, none⟩ = some (.int .u64 (A : Int)) ∧ Z.cell? ⟨w.heap.size + 1, 3, none⟩ = some (.int .u64 (U : Int))) (by kernel_rfl) ⟨cellOf X0.out.2.1 0 _ rfl, cellOf X0.out.2.1 1 _ rfl, cellOf X0.out.2.1 2 _ rfl, cellOf X0.out.2.1 3 _ rfl⟩ ?_
  intro hS
  generalize w0.drew = V0 at *
  refine wpAnyH_take (i := 1) (v := ?_) rfl (by kernel_rfl) (by kernel_rfl) (by kernel_rfl) (fun _ _ _ h => h) (Or.inl ⟨by kernel_rfl, ?_⟩) hS ?_
  rotate_left
  · intro w hSw; (try dsimp only at hSw); go_simp; try (with_reducible rfl)
  (try simp only [Act.put, List.getElem_toArray, List.getElem_cons_succ, List.getElem_cons_zero, List.setIfInBounds_toArray, List.set_cons_zero, List.set_cons_succ])
  refine wpAnyH_take (i := 2) (v := ?_) rfl (by kernel_rfl) (by kernel_rfl) (by kernel_rfl) (fun _ _ _ h => h) (Or.inl ⟨by kernel_rfl, ?_⟩) hS ?_
  rotate_left
  · intro w hSw; (try dsimp only at hSw); go_simp; try (with_reducible rfl)
  (try simp only [Act.put, List.getElem_toArray, List.getElem_cons_succ, List.getElem_cons_zero, List.setIfInBounds_toArray, List.set_cons_zero, List.set_cons_succ])
  refine wpAnyH_take (i := 3) (v := ?_) rfl (by kernel_rfl) (by kernel_rfl) (by kernel_rfl) (fun _ _ _ h => h) (Or.inl ⟨by kernel_rfl, ?_⟩) hS ?_
  rotate_left
  · intro w hSw; (try dsimp only at hSw); go_simp; try (with_reducible rfl)
  (try simp only [Act.put, List.getElem_toArray, List.getElem_cons_succ, List.getElem_cons_zero, List.setIfInBounds_toArray, List.set_cons_zero, List.set_cons_succ])
  refine wpAnyH_take (i := 4) (v := ?_) rfl (by kernel_rfl) (by kernel_rfl) (by kernel_rfl) (fun _ _ _ h => h) (Or.inl ⟨by kernel_rfl, ?_⟩) hS ?_
  rotate_left
  · intro w hSw; (try dsimp only at hSw); go_simp; try (with_reducible rfl)
  (try simp only [Act.put, List.getElem_toArray, List.getElem_cons_succ, List.getElem_cons_zero, List.setIfInBounds_toArray, List.set_cons_zero, List.set_cons_succ])
  refine wpAnyH_take (i := 5) (v := ?_) rfl (by kernel_rfl) (by kernel_rfl) (by kernel_rfl) (fun _ _ _ h => h) (Or.inl ⟨by kernel_rfl, ?_⟩) hS ?_
  rotate_left
  · intro w hSw; (try dsimp only at hSw); go_simp; try (with_reducible rfl)
  (try simp only [Act.put, List.getElem_toArray, List.getElem_cons_succ, List.getElem_cons_zero, List.setIfInBounds_toArray, List.set_cons_zero, List.set_cons_succ])
  refine wpAnyH_take (i := 6) (v := ?_) rfl (by kernel_rfl) (by kernel_rfl) (by kernel_rfl) (fun _ _ _ h => h) (Or.inl ⟨by kernel_rfl, ?_⟩) hS ?_
  rotate_left
  · intro w hSw; (try dsimp only at hSw); go_simp; try (with_reducible rfl)
  (try simp only [Act.put, List.getElem_toArray, List.getElem_cons_succ, List.getElem_cons_zero, List.setIfInBounds_toArray, List.set_cons_zero, List.set_cons_succ])
  refine wpAnyH_take (i := 7) (v := ?_) rfl (by kernel_rfl) (by kernel_rfl) (by kernel_rfl) (fun _ _ _ h => h) (Or.inl ⟨by kernel_rfl, ?_⟩) hS ?_
  rotate_left
  · intro w hSw; (try dsimp only at hSw); go_simp; try (with_reducible rfl)
  (try simp only [Act.put, List.getElem_toArray, List.getElem_cons_succ, List.getElem_cons_zero, List.setIfInBounds_toArray, List.set_cons_zero, List.set_cons_succ])
  refine wpAnyH_take (i := 8) (v := ?_) rfl (by kernel_rfl) (by kernel_rfl) (by kernel_rfl) (fun _ _ _ h => h) (Or.inl ⟨by kernel_rfl, ?_⟩) hS ?_
  rotate_left
  · intro w hSw; (try dsimp only at hSw); go_simp; try (with_reducible rfl)
  (try simp only [Act.put, List.getElem_toArray, List.getElem_cons_succ, List.getElem_cons_zero, List.setIfInBounds_toArray, List.set_cons_zero, List.set_cons_succ])
  refine wpAnyH_take (i := 9) (v := ?_) rfl (by kernel_rfl) (by kernel_rfl) (by kernel_rfl) (fun _ _ _ h => h) (Or.inl ⟨by kernel_rfl, ?_⟩) hS ?_
  rotate_left
  · intro w hSw; (try dsimp only at hSw); go_simp; try (with_reducible rfl)
  (try simp only [Act.put, List.getElem_toArray, List.getElem_cons_succ, List.getElem_cons_zero, List.setIfInBounds_toArray, List.set_cons_zero, List.set_cons_succ])
  refine wpAnyH_take (i := 10) (v := ?_) rfl (by kernel_rfl) (by kernel_rfl) (by kernel_rfl) (fun _ _ _ h => h) (Or.inl ⟨by kernel_rfl, ?_⟩) hS ?_
  rotate_left
  · intro w hSw; (try dsimp only at hSw); go_simp; try (with_reducible rfl)
  (try simp only [Act.put, List.getElem_toArray, List.getElem_cons_succ, List.getElem_cons_zero, List.setIfInBounds_toArray, List.set_cons_zero, List.set_cons_succ])
  refine wpAnyH_ready (rs := [0, 11]) (by kernel_rfl) (by simp) ?_
  refine AllReadyH.cons rfl (fun HH0 HH1 => ?_) (AllReadyH.cons rfl (fun HH0 HH1 => ?_) AllReadyH.nil)
  · have _hm : True := trivial
    have f0 := cellOf X0.out.1 0 _ rfl
    have f1 := cellOf X0.out.1 1 _ rfl
    go_simp
    refine HH1.out _ _ ⟨cellOf X0.out.2.1 0 _ rfl, cellOf X0.out.2.1 1 _ rfl, cellOf X0.out.2.1 2 _ rfl, cellOf X0.out.2.1 3 _ rfl⟩ (fun hS1 => ?_)
    clear HH1 HH0 hS f0 f1
    (try simp only [Act.put, List.getElem_toArray, List.getElem_cons_succ, List.getElem_cons_zero, List.setIfInBounds_toArray, List.set_cons_zero, List.set_cons_succ])
    refine wpAnyH_ready (rs := [11]) (by kernel_rfl) (by simp) ?_
    refine AllReadyH.cons rfl (fun HH0 HH1 => ?_) AllReadyH.nil
    go_simp
    refine (HB.out _).mono ?_
    rintro e w2 ⟨ba, bc, rfl, hr, hb⟩
    have X2 : Hid (Tri w w2 va nn vc n D A U ∧ Reads .u8 w2 (.slice ba 2 bc) 2 (byteAt m)) := ⟨X0.out.step hb, hr⟩
    clear hr hb X0
    refine HH1.out _ _ ⟨cellOf X2.out.1.2.1 0 _ rfl, cellOf X2.out.1.2.1 1 _ rfl, cellOf X2.out.1.2.1 2 _ rfl, cellOf X2.out.1.2.1 3 _ rfl⟩ (fun hS2 => ?_)
    clear HH1 HH0 hS1
    (try simp only [Act.put, List.getElem_toArray, List.getElem_cons_succ, List.getElem_cons_zero, List.setIfInBounds_toArray, List.set_cons_zero, List.set_cons_succ])
    refine wpAnyH_ready (rs := [12]) (by kernel_rfl) (by simp) ?_
    refine AllReadyH.cons rfl (fun HH0 HH1 => ?_) AllReadyH.nil
    go_simp
    refine (HW.out _ X2.out.1.2.2.2 _ X2.out.2).mono ?_
    rintro e w6 ⟨a6, n6, c6, bs6, rfl, h6, hb⟩
    have X6 : Hid (Tri w w6 va nn vc n D A U ∧ n6 ≤ nn + 2 ∧ RefIn F w6 (.slice a6 n6 c6) n6 bs6 ∧ (∀ a, rget bs6 n6 a = over M x 2 (byteAt m) a) ∧ Rng bs6 n6 8192) := ⟨X2.out.1.step hb, h6⟩
    clear h6 hb X2
    refine HH1.out _ _ ⟨cellOf X6.out.1.2.1 0 _ rfl, cellOf X6.out.1.2.1 1 _ rfl, cellOf X6.out.1.2.1 2 _ rfl, cellOf X6.out.1.2.1 3 _ rfl⟩ (fun hS6 => ?_)
    clear HH1 HH0 hS2
    (try simp only [Act.put, List.getElem_toArray, List.getElem_cons_succ, List.getElem_cons_zero, List.setIfInBounds_toArray, List.set_cons_zero, List.set_cons_succ])
    refine wpAnyH_take (i := 13) (v := ?_) rfl (by kernel_rfl) (by kernel_rfl) (by kernel_rfl) (fun _ _ _ h => h) (Or.inl ⟨by kernel_rfl, ?_⟩) hS6 ?_
    rotate_left
    · intro w hSw; (try dsimp only at hSw); go_simp; try (with_reducible rfl)
    (try simp only [Act.put, List.getElem_toArray, List.getElem_cons_succ, List.getElem_cons_zero, List.setIfInBounds_toArray, List.set_cons_zero, List.set_cons_succ])
    refine wpAnyH_take (i := 14) (v := ?_) rfl (by kernel_rfl) (by kernel_rfl) (by kernel_rfl) (fun _ _ _ h => h) (Or.inl ⟨by kernel_rfl, ?_⟩) hS6 ?_
    rotate_left
    · intro w hSw; (try dsimp only at hSw); go_simp; try (with_reducible rfl)
    (try simp only [Act.put, List.getElem_toArray, List.getElem_cons_succ, List.getElem_cons_zero, List.setIfInBounds_toArray, List.set_cons_zero, List.set_cons_succ])
    refine wpAnyH_take (i := 15) (v := ?_) rfl (by kernel_rfl) (by kernel_rfl) (by kernel_rfl) (fun _ _ _ h => h) (Or.inl ⟨by kernel_rfl, ?_⟩) hS6 ?_
    rotate_left
    · intro w hSw; (try dsimp only at hSw); go_simp; try (with_reducible rfl)
    (try simp only [Act.put, List.getElem_toArray, List.getElem_cons_succ, List.getElem_cons_zero, List.setIfInBounds_toArray, List.set_cons_zero, List.set_cons_succ])
    have a0 := cellOf X6.out.1.1 0 _ rfl
    have a1 := cellOf X6.out.1.1 1 _ rfl
    have z0 := frozenOf X6.out.1.1 0
    have z1 := frozenOf X6.out.1.1 1
    refine wpAnyH_ready (rs := [16]) (by kernel_rfl) (by simp) ?_
    refine AllReadyH.cons rfl (fun HH0 HH1 => ?_) AllReadyH.nil
    go_simp
    have Y9 : Hid ((Two6 w ((w6.setCell ⟨w.heap.size, 0, none⟩ (.int .u64 8192)).setCell ⟨w.heap.size, 1, none⟩ (.slice a6 n6 c6)) F a6 n6 c6 n D A U bs6) ∧ n6 ≤ nn + 2 ∧ (∀ a, rget bs6 n6 a = over M x 2 (byteAt m) a) ∧ Rng bs6 n6 8192) := ⟨tri_end X6.out.1 X6.out.2.2.1, X6.out.2.1, X6.out.2.2.2.1, X6.out.2.2.2.2⟩
    clear X6 a0 a1 z0 z1
    generalize (w6.setCell ⟨w.heap.size, 0, none⟩ (.int .u64 8192)).setCell ⟨w.heap.size, 1, none⟩ (.slice a6 n6 c6) = w9 at *
    refine HH1.out _ _ ⟨cellOf Y9.out.1.2.1 0 _ rfl, cellOf Y9.out.1.2.1 1 _ rfl, cellOf Y9.out.1.2.1 2 _ rfl, cellOf Y9.out.1.2.1 3 _ rfl⟩ (fun hS9 => ?_)
    clear HH1 HH0 hS6
    (try simp only [Act.put, List.getElem_toArray, List.getElem_cons_succ, List.getElem_cons_zero, List.setIfInBounds_toArray, List.set_cons_zero, List.set_cons_succ])
    refine wpAnyH_done (by kernel_rfl) ?_ _
    clear hS9
    have a0 := cellOf Y9.out.1.1 0 _ rfl
    have a1 := cellOf Y9.out.1.1 1 _ rfl
    have b0 := cellOf Y9.out.1.2.2.1 0 _ rfl
    have b1 := cellOf Y9.out.1.2.2.1 1 _ rfl
    have z0 := frozenOf Y9.out.1.2.2.1 0
    have z1 := frozenOf Y9.out.1.2.2.1 1
    have Y10 := two6_end Y9.out.1
    have H10 : Hid (_ ∧ _) := Y10
    clear Y10
    go_wp2_with fail
    refine bodyPost_ret (v := .agg #[.int .u64 8192, .slice a6 n6 c6]) (by simp [results, Tryz.results65, go_sem, b0, b1]) rfl ⟨a6, n6, c6, bs6, rfl, Y9.out.2.1, H10.out.1, Y9.out.2.2.1, Y9.out.2.2.2, H10.out.2⟩
  · have _hm : True := trivial
    go_simp
    refine (HB.out _).mono ?_
    rintro e w2 ⟨ba, bc, rfl, hr, hb⟩
    have X2 : Hid (Tri w w2 va nn vc n D A U ∧ Reads .u8 w2 (.slice ba 2 bc) 2 (byteAt m)) := ⟨X0.out.step hb, hr⟩
    clear hr hb X0
    refine HH1.out _ _ ⟨cellOf X2.out.1.2.1 0 _ rfl, cellOf X2.out.1.2.1 1 _ rfl, cellOf X2.out.1.2.1 2 _ rfl, cellOf X2.out.1.2.1 3 _ rfl⟩ (fun hS2 => ?_)
    clear HH1 HH0 hS
    (try simp only [Act.put, List.getElem_toArray, List.getElem_cons_succ, List.getElem_cons_zero, List.setIfInBounds_toArray, List.set_cons_zero, List.set_cons_succ])
    refine wpAnyH_ready (rs := [0]) (by kernel_rfl) (by simp) ?_
    refine AllReadyH.cons rfl (fun HH0 HH1 => ?_) AllReadyH.nil
    have f0 := cellOf X2.out.1.1 0 _ rfl
    have f1 := cellOf X2.out.1.1 1 _ rfl
    go_simp
    refine HH1.out _ _ ⟨cellOf X2.out.1.2.1 0 _ rfl, cellOf X2.out.1.2.1 1 _ rfl, cellOf X2.out.1.2.1 2 _ rfl, cellOf X2.out.1.2.1 3 _ rfl⟩ (fun hS1 => ?_)
    clear HH1 HH0 hS2 f0 f1
    (try simp only [Act.put, List.getElem_toArray, List.getElem_cons_succ, List.getElem_cons_zero, List.setIfInBounds_toArray, List.set_cons_zero, List.set_cons_succ])
    refine wpAnyH_ready (rs := [12]) (by kernel_rfl) (by simp) ?_
    refine AllReadyH.cons rfl (fun HH0 HH1 => ?_) AllReadyH.nil
    go_simp
    refine (HW.out _ X2.out.1.2.2.2 _ X2.out.2).mono ?_
    rintro e w6 ⟨a6, n6, c6, bs6, rfl, h6, hb⟩
    have X6 : Hid (Tri w w6 va nn vc n D A U ∧ n6 ≤ nn + 2 ∧ RefIn F w6 (.slice a6 n6 c6) n6 bs6 ∧ (∀ a, rget bs6 n6 a = over M x 2 (byteAt m) a) ∧ Rng bs6 n6 8192) := ⟨X2.out.1.step hb, h6⟩
    clear h6 hb X2
    refine HH1.out _ _ ⟨cellOf X6.out.1.2.1 0 _ rfl, cellOf X6.out.1.2.1 1 _ rfl, cellOf X6.out.1.2.1 2 _ rfl, cellOf X6.out.1.2.1 3 _ rfl⟩ (fun hS6 => ?_)
    clear HH1 HH0 hS1
    (try simp only [Act.put, List.getElem_toArray, List.getElem_cons_succ, List.getElem_cons_zero, List.setIfInBounds_toArray, List.set_cons_zero, List.set_cons_succ])
    refine wpAnyH_take (i := 13) (v := ?_) rfl (by kernel_rfl) (by kernel_rfl) (by kernel_rfl) (fun _ _ _ h => h) (Or.inl ⟨by kernel_rfl, ?_⟩) hS6 ?_
    rotate_left
    · intro w hSw; (try dsimp only at hSw); go_simp; try (with_reducible rfl)
    (try simp only [Act.put, List.getElem_toArray, List.getElem_cons_succ, List.getElem_cons_zero, List.setIfInBounds_toArray, List.set_cons_zero, List.set_cons_succ])
    refine wpAnyH_take (i := 14) (v := ?_) rfl (by kernel_rfl) (by kernel_rfl) (by kernel_rfl) (fun _ _ _ h => h) (Or.inl ⟨by kernel_rfl, ?_⟩) hS6 ?_
    rotate_left
    · intro w hSw; (try dsimp only at hSw); go_simp; try (with_reducible rfl)
    (try simp only [Act.put, List.getElem_toArray, List.getElem_cons_succ, List.getElem_cons_zero, List.setIfInBounds_toArray, List.set_cons_zero, List.set_cons_succ])
    refine wpAnyH_take (i := 15) (v := ?_) rfl (by kernel_rfl) (by kernel_rfl) (by kernel_rfl) (fun _ _ _ h => h) (Or.inl ⟨by kernel_rfl, ?_⟩) hS6 ?_
    rotate_left
    · intro w hSw; (try dsimp only at hSw); go_simp; try (with_reducible rfl)
    (try simp only [Act.put, List.getElem_toArray, List.getElem_cons_succ, List.getElem_cons_zero, List.setIfInBounds_toArray, List.set_cons_zero, List.set_cons_succ])
    have a0 := cellOf X6.out.1.1 0 _ rfl
    have a1 := cellOf X6.out.1.1 1 _ rfl
    have z0 := frozenOf X6.out.1.1 0
    have z1 := frozenOf X6.out.1.1 1
    refine wpAnyH_ready (rs := [16]) (by kernel_rfl) (by simp) ?_
    refine AllReadyH.cons rfl (fun HH0 HH1 => ?_) AllReadyH.nil
    go_simp
    have Y9 : Hid ((Two6 w ((w6.setCell ⟨w.heap.size, 0, none⟩ (.int .u64 8192)).setCell ⟨w.heap.size, 1, none⟩ (.slice a6 n6 c6)) F a6 n6 c6 n D A U bs6) ∧ n6 ≤ nn + 2 ∧ (∀ a, rget bs6 n6 a = over M x 2 (byteAt m) a) ∧ Rng bs6 n6 8192) := ⟨tri_end X6.out.1 X6.out.2.2.1, X6.out.2.1, X6.out.2.2.2.1, X6.out.2.2.2.2⟩
    clear X6 a0 a1 z0 z1
    generalize (w6.setCell ⟨w.heap.size, 0, none⟩ (.int .u64 8192)).setCell ⟨w.heap.size, 1, none⟩ (.slice a6 n6 c6) = w9 at *
    refine HH1.out _ _ ⟨cellOf Y9.out.1.2.1 0 _ rfl, cellOf Y9.out.1.2.1 1 _ rfl, cellOf Y9.out.1.2.1 2 _ rfl, cellOf Y9.out.1.2.1 3 _ rfl⟩ (fun hS9 => ?_)
    clear HH1 HH0 hS6
    (try simp only [Act.put, List.getElem_toArray, List.getElem_cons_succ, List.getElem_cons_zero, List.setIfInBounds_toArray, List.set_cons_zero, List.set_cons_succ])
    refine wpAnyH_done (by kernel_rfl) ?_ _
    clear hS9
    have a0 := cellOf Y9.out.1.1 0 _ rfl
    have a1 := cellOf Y9.out.1.1 1 _ rfl
    have b0 := cellOf Y9.out.1.2.2.1 0 _ rfl
    have b1 := cellOf Y9.out.1.2.2.1 1 _ rfl
    have z0 := frozenOf Y9.out.1.2.2.1 0
    have z1 := frozenOf Y9.out.1.2.2.1 1
    have Y10 := two6_end Y9.out.1
    have H10 : Hid (_ ∧ _) := Y10
    clear Y10
    go_wp2_with fail
    refine bodyPost_ret (v := .agg #[.int .u64 8192, .slice a6 n6 c6]) (by simp [results, Tryz.results65, go_sem, b0, b1]) rfl ⟨a6, n6, c6, bs6, rfl, Y9.out.2.1, H10.out.1, Y9.out.2.2.1, Y9.out.2.2.2, H10.out.2⟩
end Go.Proofs.YtmjdnocilbnoaaaGreat

/- The document's Put. -/
namespace Go.Proofs.YtmjdnocilbnoaaaGreat
open Go.RowKit Go.Maps
set_option linter.unusedVariables false
set_option linter.unusedSimpArgs false
set_option maxRecDepth 100000
theorem tri_low {w V V' : World} {va : Option Addr} {nn vc n D A U : Nat} (h : Tri w V va nn vc n D A U) (hb : Below (w.heap.size + 3) V V') : Tri w V' va nn vc n D A U :=
  ⟨(hb.block _ (by omega)).trans h.1, (hb.block _ (by omega)).trans h.2.1, (hb.block _ (by omega)).trans h.2.2.1, h.2.2.2.trans (hb.mono (by omega))⟩
set_option maxHeartbeats 2000000 in
theorem rput15_any {F : Nat → Prop} {w : World} {nn vc : Nat} {va : Option Addr} {bs : Nat → Nat × Nat} {M : Nat → Nat} (h : RefIn F w (.slice va nn vc) nn bs) (hM : ∀ a, rget bs nn a = M a) (hle : ∀ a, M a ≤ 255) (hn : nn ≤ 1000000) (hF : ∀ k, F k → k < w.heap.size) (hrg : Rng bs nn 8192) {n D A U : Nat} (hg : Gd n D A U) (m r d c : Nat) (hm : m ≤ 65535) (hr : r = m % n) (hd : d ≤ 65535) (hc : c ≤ 4294967295) : Calls Tryz.prog 56 #[.agg #[.int .u64 8192, .slice va nn vc], .agg #[.int .i64 (n : Int), .int .u64 (D : Int), .int .u64 (A : Int), .int .u64 (U : Int)], .int .i64 (m : Int), .int .i64 (d : Int), .int .u32 (c : Int)] w fun e w' => ∃ a' n' c' bs', e = .returned (.agg #[.int .u64 8192, .slice a' n' c']) ∧ n' ≤ nn + 8 ∧ RefIn F w' (.slice a' n' c') n' bs' ∧ (∀ a, rget bs' n' a = over M (U + 4 + 8 * r) 8 (eB d c) a) ∧ Rng bs' n' 8192 ∧ Below w.heap.size w w' := by
  have g1 := hg.u1
  have g2 := hg.u2
  have g3 := hg.n2
  have g4 := hg.n1
  have g5 : r < n := by rw [hr]; exact Nat.mod_lt _ (by omega)
  have gm : (m : Int).tmod (n : Int) = (r : Int) := by rw [Int.tmod_eq_emod_of_nonneg (by omega), hr]; simp
  have gn0 : ¬ n = 0 := by omega
  have er : IntKind.u64.wrap (r : Int) = (r : Int) := by rw [wrap_u64]; omega
  have ed : IntKind.u64.wrap (d : Int) = (d : Int) := by rw [wrap_u64]; omega
  have ec : IntKind.u64.wrap (c : Int) = (c : Int) := by rw [wrap_u64]; omega
  obtain ⟨U4, qU4⟩ : ∃ y : Nat, y = U + 4 := ⟨_, rfl⟩
  have wU4 : IntKind.u64.wrap ((U : Int) + 4) = (U4 : Int) := by rw [wrap_u64]; omega
  obtain ⟨r8, qr8⟩ : ∃ y : Nat, y = 8 * r := ⟨_, rfl⟩
  have wr8 : IntKind.u64.wrap (8 * (r : Int)) = (r8 : Int) := by rw [wrap_u64]; omega
  obtain ⟨x, qx⟩ : ∃ y : Nat, y = U4 + r8 := ⟨_, rfl⟩
  have wx : IntKind.u64.wrap ((U4 : Int) + (r8 : Int)) = (x : Int) := by rw [wrap_u64]; omega
  have HX : Hid (U + 4 + 8 * r = x ∧ x < 18446744073709551616) := ⟨by omega, by omega⟩
  have hin : inB x 8 2147483648 8192 = true := by simp only [inB, decide_eq_true_iff]; omega
  have HW : Hid (∀ V, Below w.heap.size w V → ∀ dv, Reads .u8 V dv 8 (eB d c) → Calls Tryz.prog 31 #[.agg #[.int .u64 8192, .slice va nn vc], .int .u64 (x : Int), dv] V fun e w' => ∃ a' n' c' bs', e = .returned (.tuple #[.agg #[.int .u64 8192, .slice a' n' c'], .bool true]) ∧ (n' ≤ nn + 8 ∧ RefIn F w' (.slice a' n' c') n' bs' ∧ (∀ a, rget bs' n' a = over M x 8 (eB d c) a) ∧ Rng bs' n' 8192) ∧ Below V.heap.size V w') := fun V hV dv hdv => (rwr_any F V x 8 (.slice va nn vc) dv nn bs (eB d c) true hin (h.below hV) hdv (fun k hk => Nat.lt_of_lt_of_le (hF k hk) hV.size) hn HX.out.2 (by decide)).mono fun e w' ⟨a', n', c', bs', he, h1, h2, h3, h4⟩ => ⟨a', n', c', bs', he, ⟨h1, h2, fun a => by rw [h3.1 a, if_pos rfl]; exact over_congr _ _ _ hM a, h3.2 hrg⟩, h4⟩
  have HD : Hid (d < 18446744073709551616 ∧ c < 18446744073709551616) := ⟨by omega, by omega⟩
  clear g1 g2 g3 g4 g5 hg h hM hle hn hF hrg hm hin hr hd hc qU4 qr8 qx
  rw [HX.out.1]
  have B0 : Hid (Tri w (((w.alloc (.cells #[.int .u64 8192, .slice va nn vc] 33)).alloc (.cells #[.int .i64 (n : Int), .int .u64 (D : Int), .int .u64 (A : Int), .int .u64 (U : Int)] 25)).alloc (.cells #[.int .u64 0, .slice none 0 0] 33)) va nn vc n D A U) := Tri.new w va nn vc n D A U
  go_enter Tryz.func56, Tryz.ntmps56
  go_upto_region 1 with fail
  generalize (((w.alloc (.cells #[.int .u64 8192, .slice va nn vc] 33)).alloc (.cells #[.int .i64 (n : Int), .int .u64 (D : Int), .int .u64 (A : Int), .int .u64 (U : Int)] 25)).alloc (.cells #[.int .u64 0, .slice none 0 0] 33)) = w0 at *
  obtain ⟨c0, c1, c2, c3⟩ := box4_facts B0.out.2.1
  go_quiet (fail)
  have X1 : Hid (Tri w (w0.drewN nq) va nn vc n D A U) := B0.out.step (below_drewN (Below.refl _ _) nq)
  clear B0 c0 c1 c2 c3
  generalize w0.drewN nq = w1 at *
  go_wp2_with fail
  refine (rbytes_any d 4 4 HD.out.1 (by decide) _).mono ?_
  rintro e w2 ⟨v2, rfl, ho, hb⟩
  have X2 : Hid (Tri w w2 va nn vc n D A U ∧ w2.ownsRow (w.heap.size + 3) 5 1 v2 4 (rowK .u8 (byteAt d) 4)) := ⟨X1.out.step hb, own_low ho (by have := (Array.getElem?_eq_some_iff.1 X1.out.2.2.1).1; omega)⟩
  clear ho hb X1
  obtain ⟨a2, k2, hv2⟩ := own_form X2.out.2
  subst hv2
  go_wp2_with fail
  refine (rbytes_any c 4 4 HD.out.2 (by decide) _).mono ?_
  rintro e w3 ⟨v3, rfl, ho, hb⟩
  have X3 : Hid (Tri w w3 va nn vc n D A U ∧ w3.ownsRow (w.heap.size + 3) 5 1 (.slice a2 4 k2) 4 (rowK .u8 (byteAt d) 4) ∧ Reads .u8 w3 v3 4 (byteAt c)) := ⟨X2.out.1.step hb, own_below X2.out.2 hb, reads_own ho⟩
  clear ho hb X2
  obtain ⟨a3, k3, hv3⟩ := reads_form X3.out.2.2
  subst hv3
  go_wp2_with (first | (at_builtin; refine wpList_append_more rfl _ _ rfl (w.heap.size + 3) 4 (byteAt d) (.slice a2 4 k2) rfl X3.out.2.1 (.slice a3 4 k3) rfl 4 (byteAt c) X3.out.2.2 (by decide) (by decide) (by have := (Array.getElem?_eq_some_iff.1 X3.out.1.2.2.1).1; omega) ?_; intro g4 q4 w4 ho hb; have X4 : Hid (Tri w w4 va nn vc n D A U ∧ Reads .u8 w4 (.slice (some ⟨g4, 0, none⟩) 8 q4) 8 (eB d c)) := ⟨tri_low X3.out.1 hb, reads_own ho⟩; clear ho hb X3; have f0 := cellOf X4.out.1.1 0 _ rfl; have f1 := cellOf X4.out.1.1 1 _ rfl))
  refine (HW.out _ X4.out.1.2.2.2 _ X4.out.2).mono ?_
  rintro e w6 ⟨a6, n6, c6, bs6, rfl, h6, hb⟩
  have X6 : Hid (Tri w w6 va nn vc n D A U ∧ n6 ≤ nn + 8 ∧ RefIn F w6 (.slice a6 n6 c6) n6 bs6 ∧ (∀ a, rget bs6 n6 a = over M x 8 (eB d c) a) ∧ Rng bs6 n6 8192) := ⟨X4.out.1.step hb, h6⟩
  clear h6 hb X4 f0 f1
  have a0 := cellOf X6.out.1.1 0 _ rfl
  have a1 := cellOf X6.out.1.1 1 _ rfl
  have z0 := frozenOf X6.out.1.1 0
  have z1 := frozenOf X6.out.1.1 1
  have Y9 : Hid ((Two6 w ((w6.setCell ⟨w.heap.size, 0, none⟩ (.int .u64 8192)).setCell ⟨w.heap.size, 1, none⟩ (.slice a6 n6 c6)) F a6 n6 c6 n D A U bs6) ∧ n6 ≤ nn + 8 ∧ (∀ a, rget bs6 n6 a = over M x 8 (eB d c) a) ∧ Rng bs6 n6 8192) := ⟨tri_end X6.out.1 X6.out.2.2.1, X6.out.2.1, X6.out.2.2.2.1, X6.out.2.2.2.2⟩
  go_upto_region 4 with fail
  clear X6 a0 a1 z0 z1
  generalize (w6.setCell ⟨w.heap.size, 0, none⟩ (.int .u64 8192)).setCell ⟨w.heap.size, 1, none⟩ (.slice a6 n6 c6) = w9 at *
  have a0 := cellOf Y9.out.1.1 0 _ rfl
  have a1 := cellOf Y9.out.1.1 1 _ rfl
  have b0 := cellOf Y9.out.1.2.2.1 0 _ rfl
  have b1 := cellOf Y9.out.1.2.2.1 1 _ rfl
  have z0 := frozenOf Y9.out.1.2.2.1 0
  have z1 := frozenOf Y9.out.1.2.2.1 1
  have Y10 := two6_end Y9.out.1
  have H10 : Hid (_ ∧ _) := Y10
  clear Y10
  go_wp2_with fail
  refine bodyPost_ret (v := .agg #[.int .u64 8192, .slice a6 n6 c6]) (by simp [results, Tryz.results56, go_sem, b0, b1]) rfl ⟨a6, n6, c6, bs6, rfl, Y9.out.2.1, H10.out.1, Y9.out.2.2.1, Y9.out.2.2.2, H10.out.2⟩
end Go.Proofs.YtmjdnocilbnoaaaGreat

/- The document's Return: ground. -/
namespace Go.Proofs.YtmjdnocilbnoaaaGreat
open Go.RowKit Go.Maps
set_option linter.unusedVariables false
set_option linter.unusedSimpArgs false
set_option maxRecDepth 100000
theorem infoDR : (Tryz.prog.info? 33).map (·.size) = some 2 := by kernel_rfl
theorem four_box (w : World) (o1 o2 o3 o4 : Obj) : Below w.heap.size w ((((w.alloc o1).alloc o2).alloc o3).alloc o4) ∧ ((((w.alloc o1).alloc o2).alloc o3).alloc o4).heap[w.heap.size]? = some o1 ∧ ((((w.alloc o1).alloc o2).alloc o3).alloc o4).heap[w.heap.size + 1]? = some o2 ∧ ((((w.alloc o1).alloc o2).alloc o3).alloc o4).heap[w.heap.size + 2]? = some o3 ∧ ((((w.alloc o1).alloc o2).alloc o3).alloc o4).heap[w.heap.size + 3]? = some o4 := by
  have h3 := three_in w o1 o2 o3
  generalize hV : ((w.alloc o1).alloc o2).alloc o3 = V at *
  have hs : V.heap.size = w.heap.size + 3 := by rw [← hV]; simp
  have hb : Below V.heap.size V (V.alloc o4) := one_box _ _
  have h4 := heap_alloc_new V o4
  rw [hs] at h4
  exact ⟨below_to h3.2.2.2 hb, below_box h3.1 hb, below_box h3.2.1 hb, below_box h3.2.2.1 hb, h4⟩
/-- bytes that were written lie in no box: a box's second cell is no byte -/
theorem ref_ne {F : Nat → Prop} {V : World} {xa : Option Addr} {xn xc q z : Nat} {xs : Nat → Nat × Nat} {c : Array Value} {t : TypeId} (h : RefIn F V (.slice xa xn xc) xn xs) (hq : V.heap[q]? = some (.cells c t (0, 0))) (v1 : Value) (h1 : c[1]? = some v1) (hv : ∀ y : Int, v1 ≠ .int .u8 y) (hz : (Value.slice xa xn xc).ownBlock = some z) (h0 : 0 < xn) : z ≠ q := by
  rcases h with ⟨h00, _⟩ | ⟨gg, cc, he2, _, hcc⟩
  · omega
  · have e2 : z = gg := by rw [he2] at hz; simpa [Value.ownBlock] using hz.symm
    intro e3
    have e4 : gg = q := by omega
    subst e4
    have hbad := cellOf hq 1 _ h1
    have hc1 := (hcc 0 h0).2
    rw [show (0 : Nat) * 2 + 1 = 1 from rfl, hbad] at hc1
    cases hc1
    exact hv _ rfl
theorem RefIn.setC {F : Nat → Prop} {V : World} {xa : Option Addr} {xn xc q i : Nat} {xs : Nat → Nat × Nat} {u : Value} (h : RefIn F V (.slice xa xn xc) xn xs) (hq : ∀ z, (Value.slice xa xn xc).ownBlock = some z → 0 < xn → z ≠ q) : RefIn F (V.setCell ⟨q, i, none⟩ u) (.slice xa xn xc) xn xs := by
  rcases h with h | ⟨g, c, he, hF, hc⟩
  · exact .inl h
  · refine .inr ⟨g, c, he, hF, fun i hi => ?_⟩
    have hne : g ≠ q := hq g (by rw [he]; rfl) (by omega)
    exact ⟨(World.cell?_of_block (heap_setCell _ _ _ _ _ hne)).trans (hc i hi).1, (World.cell?_of_block (heap_setCell _ _ _ _ _ hne)).trans (hc i hi).2⟩
theorem not_byte_slice {a : Option Addr} {n c : Nat} : ∀ y : Int, (Value.slice a n c) ≠ .int .u8 y := fun _ h => by cases h
theorem not_byte_word {x : Int} : ∀ y : Int, (Value.int .u64 x) ≠ .int .u8 y := fun _ h => by cases h
/-- while the document's Return runs: the memory x, its box holds y -/
def Dr (w V : World) (F : Nat → Prop) (xa : Option Addr) (xn xc : Nat) (xs : Nat → Nat × Nat) (ya : Option Addr) (yn yc : Nat) (n D A U : Nat) (rd : Bool) (fe us : Nat) (ev al : Bool) (c8 c9 : Array Value) : Prop :=
  Below w.heap.size w V ∧ V.heap[w.heap.size]? = some (.cells #[.int .u64 8192, .slice ya yn yc] 33 (0, 0)) ∧ V.heap[w.heap.size + 1]? = some (.cells #[.int .i64 (n : Int), .int .u64 (D : Int), .int .u64 (A : Int), .int .u64 (U : Int), .bool rd, .int .i64 (fe : Int), .int .i64 (us : Int), .bool ev, .bool al] 27 (0, 0)) ∧ V.heap[w.heap.size + 2]? = some (.cells c8 33 (0, 0)) ∧ V.heap[w.heap.size + 3]? = some (.cells c9 27 (0, 0)) ∧ RefIn F V (.slice xa xn xc) xn xs
section
variable {w V V2 : World} {F : Nat → Prop} {xa ya : Option Addr} {xn xc yn yc : Nat} {xs : Nat → Nat × Nat} {n D A U : Nat} {rd ev al : Bool} {fe us : Nat} {c8 c9 : Array Value}
theorem Dr.below (h : Dr w V F xa xn xc xs ya yn yc n D A U rd fe us ev al c8 c9) (hb : Below V.heap.size V V2) : Dr w V2 F xa xn xc xs ya yn yc n D A U rd fe us ev al c8 c9 := ⟨below_to h.1 hb, below_box h.2.1 hb, below_box h.2.2.1 hb, below_box h.2.2.2.1 hb, below_box h.2.2.2.2.1 hb, h.2.2.2.2.2.below hb⟩
theorem Dr.set0 (h : Dr w V F xa xn xc xs ya yn yc n D A U rd fe us ev al c8 c9) : Dr w (V.setRow (w.heap.size) #[.int .u64 8192, .slice xa xn xc]) F xa xn xc xs xa xn xc n D A U rd fe us ev al c8 c9 := ⟨below_setRow h.1 (by omega) _, setRow_heap _ _ _ _ _ _ h.2.1, (setRow_other _ _ _ _ (by omega)).trans h.2.2.1, (setRow_other _ _ _ _ (by omega)).trans h.2.2.2.1, (setRow_other _ _ _ _ (by omega)).trans h.2.2.2.2.1, h.2.2.2.2.2.setRow (fun z hz h0 => ref_ne h.2.2.2.2.2 h.2.1 _ rfl not_byte_slice hz h0)⟩
theorem Dr.one (h : Dr w V F xa xn xc xs ya yn yc n D A U rd fe us ev al c8 c9) (u : Nat) : Dr w (V.setCell ⟨w.heap.size + 1, 6, none⟩ (.int .i64 (u : Int))) F xa xn xc xs ya yn yc n D A U rd fe u ev al c8 c9 := ⟨h.1.setCell (p := ⟨w.heap.size + 1, 6, none⟩) (by show w.heap.size ≤ w.heap.size + 1; omega) _, (heap_setCell _ _ _ _ _ (by omega)).trans h.2.1, set_box h.2.2.1 6 _, (heap_setCell _ _ _ _ _ (by omega)).trans h.2.2.2.1, (heap_setCell _ _ _ _ _ (by omega)).trans h.2.2.2.2.1, h.2.2.2.2.2.setC (fun z hz h0 => ref_ne h.2.2.2.2.2 h.2.2.1 _ rfl not_byte_word hz h0)⟩
theorem Dr.set8 (h : Dr w V F xa xn xc xs ya yn yc n D A U rd fe us ev al #[.int .u64 0, .slice none 0 0] c9) (c : Array Value) : Dr w (V.setRow (w.heap.size + 2) c) F xa xn xc xs ya yn yc n D A U rd fe us ev al c c9 := ⟨below_setRow h.1 (by omega) _, (setRow_other _ _ _ _ (by omega)).trans h.2.1, (setRow_other _ _ _ _ (by omega)).trans h.2.2.1, setRow_heap _ _ _ _ _ _ h.2.2.2.1, (setRow_other _ _ _ _ (by omega)).trans h.2.2.2.2.1, h.2.2.2.2.2.setRow (fun z hz h0 => ref_ne h.2.2.2.2.2 h.2.2.2.1 _ rfl not_byte_slice hz h0)⟩
theorem Dr.set9 (h : Dr w V F xa xn xc xs ya yn yc n D A U rd fe us ev al c8 #[.int .i64 0, .int .u64 0, .int .u64 0, .int .u64 0, .bool false, .int .i64 0, .int .i64 0, .bool false, .bool false]) (c : Array Value) : Dr w (V.setRow (w.heap.size + 3) c) F xa xn xc xs ya yn yc n D A U rd fe us ev al c8 c := ⟨below_setRow h.1 (by omega) _, (setRow_other _ _ _ _ (by omega)).trans h.2.1, (setRow_other _ _ _ _ (by omega)).trans h.2.2.1, (setRow_other _ _ _ _ (by omega)).trans h.2.2.2.1, setRow_heap _ _ _ _ _ _ h.2.2.2.2.1, h.2.2.2.2.2.setRow (fun z hz h0 => ref_ne h.2.2.2.2.2 h.2.2.2.2.1 _ rfl not_byte_word hz h0)⟩
end
end Go.Proofs.YtmjdnocilbnoaaaGreat

/- The queue: a device is asked. -/
namespace Go.Proofs.YtmjdnocilbnoaaaGreat
open Go.RowKit Go.Maps
set_option linter.unusedVariables false
set_option linter.unusedSimpArgs false
set_option maxRecDepth 100000
theorem catch_idle (p q : Addr) (w : World) : CallsD Tryz.prog 112 #[.pointer (some p), .pointer (some q)] .returning w fun e u' w' => e = .returned (.tuple #[]) ∧ u' = .returning ∧ w' = w := by
  refine callsD_of_wpS Tryz.func112 rfl fun c₀ cs hu => ?_
  apply wpS_seq
  apply wpS_region
  simp [wpOpsS, go_sem, recoverD, hu, Tryz.ntmps112, Exit.thenS]
  refine wpS_cond (t := false) (by simp [Act.eval, Array.replicate]) ?_
  simp only [Bool.false_eq_true, if_false]
  refine wpS_of_wp (wp_skip ?_)
  cases c₀
  simp_all [bodyPostS, results, Tryz.results112]
/-- the three boxes of use -/
def Us (w V : World) (a : Option Addr) (L c ta tl : Nat) (x y : Value) : Prop := Below w.heap.size w V ∧ V.heap[w.heap.size]? = some (.cells #[.slice a L c, .int .u64 (ta : Int), .int .u64 (tl : Int)] 59 (0, 0)) ∧ V.heap[w.heap.size + 1]? = some (.cells #[x] 70 (0, 0)) ∧ V.heap[w.heap.size + 2]? = some (.cells #[y] 4 (0, 0))
theorem us_new (w : World) (a : Option Addr) (L c ta tl : Nat) : Us w (((w.alloc (.cells #[.slice a L c, .int .u64 (ta : Int), .int .u64 (tl : Int)] 59)).alloc (.cells #[.int .u32 0] 70)).alloc (.cells #[.bool false] 4)) a L c ta tl (.int .u32 0) (.bool false) := by
  have h := three_in w (.cells #[.slice a L c, .int .u64 (ta : Int), .int .u64 (tl : Int)] 59) (.cells #[.int .u32 0] 70) (.cells #[.bool false] 4)
  exact ⟨h.2.2.2, h.1, h.2.1, h.2.2.1⟩
theorem box1_facts {w : World} {b : Nat} {x0 : Value} {t : TypeId} (h : w.heap[b]? = some (.cells #[x0] t (0, 0))) : w.cell? ⟨b, 0, none⟩ = some x0 ∧ w.frozen? ⟨b, 0, none⟩ = false := ⟨cellOf h 0 _ rfl, frozenOf h 0⟩
theorem use_any {w : World} (df : Nat) (cap : Array Value) (hcf : ∀ (args : Array Value) (V : World), (callFunc df args).run Tryz.prog V = .ok (.enter df args) V) (a : Option Addr) (L c ta tl : Nat) (G : Nat → Prop) (hG : ∀ k, G k → k < w.heap.size)
    (P : (Nat → Prop) → World → Nat → Bool → Prop)
    (hP : ∀ G' V V' n o, P G' V n o → V.heap.size ≤ V'.heap.size → (∀ k, G' k → V'.heap[k]? = V.heap[k]?) → P G' V' n o)
    (hdev : ∀ V, Below w.heap.size w V → Calls Tryz.prog df (#[.agg #[.slice a L c, .int .u64 (ta : Int), .int .u64 (tl : Int)]] ++ cap) V fun e V' => ∃ (n : Nat) (o : Bool) (G' : Nat → Prop), e = .returned (.tuple #[.int .u32 (n : Int), .bool o]) ∧ Step G V G' V' ∧ P G' V' n o) :
    Calls Tryz.prog 97 #[.func (.func df) #[] cap, .agg #[.slice a L c, .int .u64 (ta : Int), .int .u64 (tl : Int)]] w fun e w' => ∃ (n : Nat) (o : Bool) (G' : Nat → Prop), e = .returned (.tuple #[.int .u32 (n : Int), .bool o]) ∧ Step G w G' w' ∧ P G' w' n o := by
  have hmf : ∀ (fn : Fn) (first cap : Array Value) (w : World), (Instr.makeFunc fn first cap).run Tryz.prog w = .ok (.func fn first cap) w := fun _ _ _ _ => rfl
  have U0 : Hid (Us w (((w.alloc (.cells #[.slice a L c, .int .u64 (ta : Int), .int .u64 (tl : Int)] 59)).alloc (.cells #[.int .u32 0] 70)).alloc (.cells #[.bool false] 4)) a L c ta tl (.int .u32 0) (.bool false)) := us_new w a L c ta tl
  have HD : Hid ((∀ k, G k → k < w.heap.size) ∧ (∀ G' V V' n o, P G' V n o → V.heap.size ≤ V'.heap.size → (∀ k, G' k → V'.heap[k]? = V.heap[k]?) → P G' V' n o) ∧ ∀ V, Below w.heap.size w V → Calls Tryz.prog df (#[.agg #[.slice a L c, .int .u64 (ta : Int), .int .u64 (tl : Int)]] ++ cap) V fun e V' => ∃ (n : Nat) (o : Bool) (G' : Nat → Prop), e = .returned (.tuple #[.int .u32 (n : Int), .bool o]) ∧ Step G V G' V' ∧ P G' V' n o) := ⟨hG, hP, hdev⟩
  clear hG hP hdev
  go_enter_defers Tryz.func97, Tryz.ntmps97
  go_upto_region 1 with fail
  generalize ((w.alloc (.cells #[.slice a L c, .int .u64 (ta : Int), .int .u64 (tl : Int)] 59)).alloc (.cells #[.int .u32 0] 70)).alloc (.cells #[.bool false] 4) = v0 at *
  obtain ⟨p0, p1, p2⟩ := box3_facts U0.out.2.1
  go_wp2_with fail
  refine (HD.out.2.2 _ U0.out.1).mono ?_
  rintro e w1 ⟨n, o, G', rfl, hs, hp⟩
  have U1 : Hid (Step G w G' w1 ∧ P G' w1 n o ∧ w1.heap[w.heap.size + 1]? = some (.cells #[.int .u32 0] 70 (0, 0)) ∧ w1.heap[w.heap.size + 2]? = some (.cells #[.bool false] 4 (0, 0)) ∧ ¬ G' (w.heap.size + 1) ∧ ¬ G' (w.heap.size + 2)) := by
    have n1 : ¬ G (w.heap.size + 1) := fun h => by have := HD.out.1 _ h; omega
    have n2 : ¬ G (w.heap.size + 2) := fun h => by have := HD.out.1 _ h; omega
    exact ⟨(Step.of_below U0.out.1).trans hs, hp, step_box hs U0.out.2.2.1 n1, step_box hs U0.out.2.2.2 n2, not_later hs (Array.getElem?_eq_some_iff.1 U0.out.2.2.1).1 n1, not_later hs (Array.getElem?_eq_some_iff.1 U0.out.2.2.2).1 n2⟩
  clear hs hp U0 p0 p1 p2
  obtain ⟨q0, q1⟩ := box1_facts U1.out.2.2.1
  obtain ⟨r0, r1⟩ := box1_facts U1.out.2.2.2.1
  go_wp2_with fail
  have U2 : Hid (Step G w G' ((w1.setCell ⟨w.heap.size + 1, 0, none⟩ (.int .u32 (n : Int))).setCell ⟨w.heap.size + 2, 0, none⟩ (.bool o)) ∧ P G' ((w1.setCell ⟨w.heap.size + 1, 0, none⟩ (.int .u32 (n : Int))).setCell ⟨w.heap.size + 2, 0, none⟩ (.bool o)) n o ∧ ((w1.setCell ⟨w.heap.size + 1, 0, none⟩ (.int .u32 (n : Int))).setCell ⟨w.heap.size + 2, 0, none⟩ (.bool o)).heap[w.heap.size + 1]? = some (.cells #[.int .u32 (n : Int)] 70 (0, 0)) ∧ ((w1.setCell ⟨w.heap.size + 1, 0, none⟩ (.int .u32 (n : Int))).setCell ⟨w.heap.size + 2, 0, none⟩ (.bool o)).heap[w.heap.size + 2]? = some (.cells #[.bool o] 4 (0, 0))) := by
    obtain ⟨u1, u2, u3, u4, u5, u6⟩ := U1.out
    have same : ∀ z, z ≠ w.heap.size + 1 → z ≠ w.heap.size + 2 → ((w1.setCell ⟨w.heap.size + 1, 0, none⟩ (.int .u32 (n : Int))).setCell ⟨w.heap.size + 2, 0, none⟩ (.bool o)).heap[z]? = w1.heap[z]? := fun z h1 h2 => (heap_setCell _ _ _ _ _ h2).trans (heap_setCell _ _ _ _ _ h1)
    refine ⟨⟨u1.os, u1.tape, u1.output, by simpa [World.setCell] using u1.size, fun z hz hn => (same z (by omega) (by omega)).trans (u1.block z hz hn), u1.old, u1.keep⟩, HD.out.2.1 _ _ _ _ _ u2 (by simp [World.setCell]) (fun z hz => same z (fun e => u5 (e ▸ hz)) (fun e => u6 (e ▸ hz))), (heap_setCell _ _ _ _ _ (by omega)).trans (set_box u3 0 _), set_box ((heap_setCell _ _ _ _ _ (by omega)).trans u4) 0 _⟩
  clear U1 q0 q1 r0 r1
  generalize (w1.setCell ⟨w.heap.size + 1, 0, none⟩ (.int .u32 (n : Int))).setCell ⟨w.heap.size + 2, 0, none⟩ (.bool o) = w2 at *
  refine leaves_cons (f := 112) (args := #[.pointer (some ⟨w.heap.size + 1, 0, none⟩), .pointer (some ⟨w.heap.size + 2, 0, none⟩)]) (by simp) (by simp [go_sem]) ?_
  refine (catch_idle _ _ _).mono ?_
  rintro e u' w3 ⟨rfl, rfl, rfl⟩
  obtain ⟨q0, q1⟩ := box1_facts U2.out.2.2.1
  obtain ⟨r0, r1⟩ := box1_facts U2.out.2.2.2
  exact ⟨.tuple #[.int .u32 (n : Int), .bool o], by simp [results, Tryz.results97, go_sem, q0, r0], n, o, G', rfl, U2.out.1, U2.out.2.1⟩
end Go.Proofs.YtmjdnocilbnoaaaGreat

/- The queue: a device, and a service under way. -/
namespace Go.Proofs.YtmjdnocilbnoaaaGreat
open Go.RowKit Go.Maps
set_option linter.unusedVariables false
set_option linter.unusedSimpArgs false
set_option maxRecDepth 100000
theorem fetch_non {w : World} {F : Nat → Prop} {rb k : Nat} {M : Nat → Nat} (hr : RamAt w F rb 8192 k (.pointer none) M) {qb : Nat} {s : Int} {D A U : Nat} {rd ev al : Bool} {fe us : Nat} (hq : w.heap[qb]? = some (.cells #[.int .i64 s, .int .u64 (D : Int), .int .u64 (A : Int), .int .u64 (U : Int), .bool rd, .int .u16 (fe : Int), .int .u16 (us : Int), .bool ev, .bool al] 40 (0, 0))) (hF : ¬ F qb) (hD : D < 18446744073709551616) (hA : A < 18446744073709551616) (hU : U < 18446744073709551616) (hfe : fe ≤ 65535) {e : Int} (h : fetchR M s D A U rd fe al = .non e) : Calls Tryz.prog 16 #[.pointer (some ⟨qb, 0, none⟩), .pointer (some ⟨rb, 0, none⟩)] w fun r w' => r = .returned (.tuple #[.agg #[.int .u16 0, .slice none 0 0, .int .u64 0, .int .u64 0], .bool false, .int .i64 e]) ∧ w'.heap[qb]? = some (.cells #[.int .i64 s, .int .u64 (D : Int), .int .u64 (A : Int), .int .u64 (U : Int), .bool rd, .int .u16 (fe : Int), .int .u16 (us : Int), .bool ev, .bool al] 40 (0, 0)) ∧ Step (fun k => k = qb) w (fun k => k = qb) w' := by
  cases rd with
  | false =>
    rw [fetch_idle] at h
    cases h
    exact fetch_off hr hq hF
  | true =>
    by_cases hc : chkN s D A U 8192 = 0
    case neg =>
      rw [fetch_bad hc] at h
      cases h
      exact fetch_chk hr hq hF hD hA hU hc
    case pos =>
      obtain ⟨n, rfl, hg⟩ := gd_of hc hD
      by_cases h1 : waitN M A fe = 0
      · rw [fetch_none hc h1] at h
        cases h
        exact fetch_wait hr hq hg hF hfe h1
      by_cases h2 : n < waitN M A fe
      · rw [fetch_jump hc h1 h2] at h
        cases h
        exact fetch_jmp hr hq hg hF hfe h1 h2
      rw [fetch_got hc h1 h2] at h
      cases h
/-- what holds where something was fetched -/
theorem got_facts {M : Nat → Nat} {s : Int} {D A U fe : Nat} {rd al : Bool} {h : Nat} {c : Cn} (hD : D < 18446744073709551616) (hf : fetchR M s D A U rd fe al = .got h c) : rd = true ∧ ∃ n : Nat, s = n ∧ Gd n D A U ∧ waitN M A fe ≠ 0 ∧ ¬ n < waitN M A fe ∧ headN M n A fe = h ∧ walkR M D n (h : Nat) al = c := by
  cases rd with
  | false => rw [fetch_idle] at hf; cases hf
  | true =>
    by_cases hc : chkN s D A U 8192 = 0
    case neg => rw [fetch_bad hc] at hf; cases hf
    case pos =>
      obtain ⟨n, rfl, hg⟩ := gd_of hc hD
      by_cases h1 : waitN M A fe = 0
      · rw [fetch_none hc h1] at hf; cases hf
      by_cases h2 : n < waitN M A fe
      · rw [fetch_jump hc h1 h2] at hf; cases hf
      rw [fetch_got hc h1 h2] at hf
      simp only [Ft.got.injEq] at hf
      obtain ⟨rfl, rfl⟩ := hf
      exact ⟨rfl, n, rfl, hg, h1, h2, rfl, rfl⟩
theorem fetch_any {w : World} {F : Nat → Prop} {rb k : Nat} {M : Nat → Nat} (hr : RamAt w F rb 8192 k (.pointer none) M) {qb : Nat} {s : Int} {D A U : Nat} {rd ev al : Bool} {fe us : Nat} (hq : w.heap[qb]? = some (.cells #[.int .i64 s, .int .u64 (D : Int), .int .u64 (A : Int), .int .u64 (U : Int), .bool rd, .int .u16 (fe : Int), .int .u16 (us : Int), .bool ev, .bool al] 40 (0, 0))) (hF : ¬ F qb) (hD : D < 18446744073709551616) (hA : A < 18446744073709551616) (hU : U < 18446744073709551616) (hfe : fe ≤ 65535) {h : Nat} {c : Cn} (hf : fetchR M s D A U rd fe al = .got h c) : Calls Tryz.prog 16 #[.pointer (some ⟨qb, 0, none⟩), .pointer (some ⟨rb, 0, none⟩)] w fun e w' => ∃ a1 c1, e = .returned (.tuple #[.agg #[.int .u16 (h : Int), .slice a1 c.l.length c1, .int .u64 (c.ta : Int), .int .u64 (c.tl : Int)], .bool ((c.e : Int) == 0), .int .i64 (c.e : Int)]) ∧ SegIn w.heap.size w' (.slice a1 c.l.length c1) c.l ∧ w'.heap[qb]? = some (.cells #[.int .i64 s, .int .u64 (D : Int), .int .u64 (A : Int), .int .u64 (U : Int), .bool rd, .int .u16 (upN fe : Int), .int .u16 (us : Int), .bool ev, .bool al] 40 (0, 0)) ∧ Step (fun k => k = qb) w (fun k => k = qb) w' := by
  obtain ⟨rfl, n, rfl, hg, h1, h2, h3, h4⟩ := got_facts hD hf
  exact fetch_one hr hq hg hF hfe h1 h2 h c h3 h4
theorem head_le {M : Nat → Nat} (hM : ∀ a, M a ≤ 255) {s : Int} {D A U fe : Nat} {rd al : Bool} {h : Nat} {c : Cn} (hD : D < 18446744073709551616) (hf : fetchR M s D A U rd fe al = .got h c) : h ≤ 65535 ∧ (∀ s ∈ c.l, SegOk s) ∧ c.l.length ≤ 1000 := by
  obtain ⟨rfl, n, rfl, hg, h1, h2, rfl, rfl⟩ := got_facts hD hf
  have := walk_all hM D n hg.n2 (headN M n A fe : Nat) al
  exact ⟨rd_lt hM _, this.1, Nat.le_trans this.2.1 (by decide)⟩
/-- A DEVICE: a function and what it has captured; dev: what it does to its state, to the memory, and what it says; I: how its state lies in the world, in blocks of its own -/
structure Dvc {σ : Type} (rb df : Nat) (cap : Array Value) (dev : σ → (Nat → Nat) → Nat → Cn → Option (σ × (Nat → Nat) × Nat)) (bud : σ → Nat) (I : σ → (Nat → Prop) → World → Prop) : Prop where
  cf : ∀ (args : Array Value) (V : World), (callFunc df args).run Tryz.prog V = .ok (.enter df args) V
  lt : ∀ {t : σ} {O : Nat → Prop} {w : World}, I t O w → ∀ k, O k → k < w.heap.size
  kept : ∀ {t : σ} {O : Nat → Prop} {w w' : World}, I t O w → w.heap.size ≤ w'.heap.size → (∀ k, O k → w'.heap[k]? = w.heap[k]?) → I t O w'
  no : ∀ {t : σ} {M : Nat → Nat} {h : Nat} {c : Cn} {F O : Nat → Prop} {κ : Nat} {w : World} {a : Option Addr} {cc : Nat}, dev t M h c = none → RamAt w F rb 8192 κ (.pointer none) M → I t O w → (∀ k, O k → ¬ F k) → SegIn 0 w (.slice a c.l.length cc) c.l → Calls Tryz.prog df (#[.agg #[.slice a c.l.length cc, .int .u64 (c.ta : Int), .int .u64 (c.tl : Int)]] ++ cap) w fun e w' => e = .returned (.tuple #[.int .u32 0, .bool false]) ∧ Below w.heap.size w w'
  le : ∀ {t : σ} {M : Nat → Nat} {h : Nat} {c : Cn} {t' : σ} {M' : Nat → Nat} {n : Nat}, dev t M h c = some (t', M', n) → (∀ s ∈ c.l, SegOk s) → n ≤ 4294967295
  yes : ∀ {t : σ} {M : Nat → Nat} {h : Nat} {c : Cn} {F O : Nat → Prop} {κ : Nat} {w : World} {a : Option Addr} {cc : Nat} {t' : σ} {M' : Nat → Nat} {n : Nat}, dev t M h c = some (t', M', n) → RamAt w F rb 8192 κ (.pointer none) M → κ + bud t ≤ 900000 → I t O w → (∀ k, O k → ¬ F k) → SegIn 0 w (.slice a c.l.length cc) c.l → (∀ g, (Value.slice a c.l.length cc).ownBlock = some g → ¬ F g ∧ ¬ O g) → c.l.length ≤ 1000 → (∀ s ∈ c.l, SegOk s) → Calls Tryz.prog df (#[.agg #[.slice a c.l.length cc, .int .u64 (c.ta : Int), .int .u64 (c.tl : Int)]] ++ cap) w fun e w' => e = .returned (.tuple #[.int .u32 (n : Int), .bool true]) ∧ ∃ (F' O' : Nat → Prop) (κ' : Nat), RamAt w' F' rb 8192 κ' (.pointer none) M' ∧ I t' O' w' ∧ (∀ k, O' k → ¬ F' k) ∧ Step (fun k => F k ∨ O k) w (fun k => F' k ∨ O' k) w' ∧ κ' + 10 + bud t' ≤ κ + bud t
/-- a service under way -/
def Gl {σ : Type} (I : σ → (Nat → Prop) → World → Prop) (bud : σ → Nat) (rb qb : Nat) (s : Int) (D A U : Nat) (rd ev al : Bool) (w0 : World) (F0 O0 : Nat → Prop) (wr : World) (t : σ) (M : Nat → Nat) (fe us : Nat) (F O : Nat → Prop) (κ : Nat) : Prop :=
  RamAt wr F rb 8192 κ (.pointer none) M ∧ wr.heap[qb]? = some (.cells #[.int .i64 s, .int .u64 (D : Int), .int .u64 (A : Int), .int .u64 (U : Int), .bool rd, .int .u16 (fe : Int), .int .u16 (us : Int), .bool ev, .bool al] 40 (0, 0)) ∧ I t O wr ∧ (∀ k, O k → ¬ F k ∧ k ≠ qb) ∧ ¬ F qb ∧ κ + bud t ≤ 900000 ∧ Step (fun k => (F0 k ∨ O0 k) ∨ k = qb) w0 (fun k => (F k ∨ O k) ∨ k = qb) wr
section
variable {σ : Type} {I : σ → (Nat → Prop) → World → Prop} {bud : σ → Nat} {rb qb df : Nat} {cap : Array Value} {dev : σ → (Nat → Nat) → Nat → Cn → Option (σ × (Nat → Nat) × Nat)} {s : Int} {n D A U : Nat} {rd ev al : Bool} {w0 wr w' : World} {F0 O0 F O F' O' : Nat → Prop} {t t' : σ} {M M' : Nat → Nat} {fe us fe' us' κ κ' : Nat}
theorem Gl.below (hd : Dvc rb df cap dev bud I) (h : Gl I bud rb qb s D A U rd ev al w0 F0 O0 wr t M fe us F O κ) (hb : Below wr.heap.size wr w') : Gl I bud rb qb s D A U rd ev al w0 F0 O0 w' t M fe us F O κ :=
  ⟨h.1.below hb, below_box h.2.1 hb, hd.kept h.2.2.1 hb.size (fun k hk => hb.block k (hd.lt h.2.2.1 k hk)), h.2.2.2.1, h.2.2.2.2.1, h.2.2.2.2.2.1, h.2.2.2.2.2.2.trans (Step.of_below hb)⟩
theorem Gl.q (hd : Dvc rb df cap dev bud I) (h : Gl I bud rb qb s D A U rd ev al w0 F0 O0 wr t M fe us F O κ) (hs : Step (fun k => k = qb) wr (fun k => k = qb) w') (hq : w'.heap[qb]? = some (.cells #[.int .i64 s, .int .u64 (D : Int), .int .u64 (A : Int), .int .u64 (U : Int), .bool rd, .int .u16 (fe' : Int), .int .u16 (us' : Int), .bool ev, .bool al] 40 (0, 0))) : Gl I bud rb qb s D A U rd ev al w0 F0 O0 w' t M fe' us' F O κ :=
  ⟨ram_q h.1 hs h.2.2.2.2.1, hq, hd.kept h.2.2.1 hs.size (fun k hk => hs.block k (hd.lt h.2.2.1 k hk) (h.2.2.2.1 k hk).2), h.2.2.2.1, h.2.2.2.2.1, h.2.2.2.2.2.1, h.2.2.2.2.2.2.trans (step_orR hs)⟩
theorem Gl.did (hd : Dvc rb df cap dev bud I) (h : Gl I bud rb qb s D A U rd ev al w0 F0 O0 wr t M fe us F O κ) (hr : RamAt w' F' rb 8192 κ' (.pointer none) M') (hi : I t' O' w') (hO : ∀ k, O' k → ¬ F' k) (hs : Step (fun k => F k ∨ O k) wr (fun k => F' k ∨ O' k) w') (hk : κ' + 10 + bud t' ≤ κ + bud t) : Gl I bud rb qb s D A U rd ev al w0 F0 O0 w' t' M' fe us F' O' κ' ∧ κ' + 10 + bud t' ≤ 900000 := by
  have hlt := (Array.getElem?_eq_some_iff.1 h.2.1).1
  have hn : ¬ (F qb ∨ O qb) := fun hc => hc.elim h.2.2.2.2.1 (fun ho => (h.2.2.2.1 qb ho).2 rfl)
  have hn2 := not_later hs hlt hn
  have h6 := h.2.2.2.2.2.1
  exact ⟨⟨hr, step_box hs h.2.1 hn, hi, fun k hk => ⟨hO k hk, fun e => hn2 (.inr (e ▸ hk))⟩, fun hf => hn2 (.inl hf), by omega, h.2.2.2.2.2.2.trans (step_q hs hlt)⟩, by omega⟩
theorem Gl.ret (hd : Dvc rb df cap dev bud I) (h : Gl I bud rb qb s D A U rd ev al w0 F0 O0 wr t M fe us F O κ) (hr : RamAt w' F' rb 8192 (κ + 10) (.pointer none) M') (hq : w'.heap[qb]? = some (.cells #[.int .i64 s, .int .u64 (D : Int), .int .u64 (A : Int), .int .u64 (U : Int), .bool rd, .int .u16 (fe : Int), .int .u16 (us' : Int), .bool ev, .bool al] 40 (0, 0))) (hs : Step (fun k => F k ∨ k = qb) wr (fun k => F' k ∨ k = qb) w') (hqF : ¬ F' qb) (hk : κ + 10 + bud t ≤ 900000) : Gl I bud rb qb s D A U rd ev al w0 F0 O0 w' t M' fe us' F' O (κ + 10) := by
  have hn : ∀ k, O k → ¬ (F k ∨ k = qb) := fun k hk hc => hc.elim (h.2.2.2.1 k hk).1 (h.2.2.2.1 k hk).2
  have hlt := fun k hk => hd.lt h.2.2.1 k hk
  refine ⟨hr, hq, hd.kept h.2.2.1 hs.size (fun k hk => hs.block k (hlt k hk) (hn k hk)), fun k hk => ⟨fun hf => not_later hs (hlt k hk) (hn k hk) (.inl hf), (h.2.2.2.1 k hk).2⟩, hqF, hk, h.2.2.2.2.2.2.trans ?_⟩
  · exact ⟨hs.os, hs.tape, hs.output, hs.size, fun k hk hc => hs.block k hk (fun hd => hc (hd.elim (fun hf => .inl (.inl hf)) .inr)), fun k hk => by
      rcases hk with (hk | hk) | hk
      · exact (hs.old k (.inl hk)).imp (fun h => h.elim (fun hf => .inl (.inl hf)) .inr) id
      · exact .inl (.inl (.inr hk))
      · exact .inl (.inr hk), fun k hk => by
      rcases hk with (hk | hk) | hk
      · exact (hs.keep k (.inl hk)).elim (fun hf => .inl (.inl hf)) .inr
      · exact .inl (.inr hk)
      · exact .inr hk⟩
end
end Go.Proofs.YtmjdnocilbnoaaaGreat

/- The statements' right and Of. -/
namespace Go.Proofs.YtmjdnocilbnoaaaGreat
open Go.RowKit Go.Maps
set_option linter.unusedVariables false
set_option linter.unusedSimpArgs false
set_option maxRecDepth 100000
def inQ (fi ui : Int) : Prop := 0 ≤ fi ∧ fi < 65536 ∧ 0 ≤ ui ∧ ui < 65536
theorem inQ_nat {fi ui : Int} (h : inQ fi ui) : ∃ fe us : Nat, fi = (fe : Int) ∧ ui = (us : Int) ∧ fe ≤ 65535 ∧ us ≤ 65535 := by
  obtain ⟨h1, h2, h3, h4⟩ := h
  exact ⟨fi.toNat, ui.toNat, by omega, by omega, by omega, by omega⟩
theorem right_no {w : World} {s : Int} {D A U : Nat} {rd ev al : Bool} {fi ui : Int} (h : ¬ inQ fi ui) : Calls Tryz.prog 8 #[.agg #[.int .i64 s, .int .u64 (D : Int), .int .u64 (A : Int), .int .u64 (U : Int), .bool rd, .int .i64 fi, .int .i64 ui, .bool ev, .bool al]] w fun e w' => e = .returned (.bool false) ∧ Below w.heap.size w w' := by
  have X : Hid ((w.alloc (.cells #[.int .i64 s, .int .u64 (D : Int), .int .u64 (A : Int), .int .u64 (U : Int), .bool rd, .int .i64 fi, .int .i64 ui, .bool ev, .bool al] 27)).heap[w.heap.size]? = some (.cells #[.int .i64 s, .int .u64 (D : Int), .int .u64 (A : Int), .int .u64 (U : Int), .bool rd, .int .i64 fi, .int .i64 ui, .bool ev, .bool al] 27 (0, 0)) ∧ Below w.heap.size w (w.alloc (.cells #[.int .i64 s, .int .u64 (D : Int), .int .u64 (A : Int), .int .u64 (U : Int), .bool rd, .int .i64 fi, .int .i64 ui, .bool ev, .bool al] 27))) := ⟨heap_alloc_new _ _, one_box _ _⟩
  have h' : ¬ (0 ≤ fi ∧ fi < 65536 ∧ 0 ≤ ui ∧ ui < 65536) := h
  have key : (¬ 0 ≤ fi) ∨ (0 ≤ fi ∧ ¬ fi < 65536) ∨ (0 ≤ fi ∧ fi < 65536 ∧ ¬ 0 ≤ ui) ∨ (0 ≤ fi ∧ fi < 65536 ∧ 0 ≤ ui ∧ ¬ ui < 65536) := by omega
  clear h h'
  rcases key with h1 | ⟨h1, h2⟩ | ⟨h1, h2, h3⟩ | ⟨h1, h2, h3, h4⟩
  all_goals
    go_enter Tryz.func8, Tryz.ntmps8
    go_upto_region 1 with fail
    generalize w.alloc (.cells #[.int .i64 s, .int .u64 (D : Int), .int .u64 (A : Int), .int .u64 (U : Int), .bool rd, .int .i64 fi, .int .i64 ui, .bool ev, .bool al] 27) = v0 at *
    obtain ⟨c0, c1, c2, c3, c4, c5, c6, c7, c8⟩ := box9_facts X.out.1
    go_wp2_with fail
    go_ret
    exact ⟨rfl, X.out.2⟩
theorem right_yes {w : World} {s : Int} {D A U : Nat} {rd ev al : Bool} {fe us : Nat} (hf : fe ≤ 65535) (hu : us ≤ 65535) : Calls Tryz.prog 8 #[.agg #[.int .i64 s, .int .u64 (D : Int), .int .u64 (A : Int), .int .u64 (U : Int), .bool rd, .int .i64 (fe : Int), .int .i64 (us : Int), .bool ev, .bool al]] w fun e w' => e = .returned (.bool true) ∧ Below w.heap.size w w' := by
  have X : Hid ((w.alloc (.cells #[.int .i64 s, .int .u64 (D : Int), .int .u64 (A : Int), .int .u64 (U : Int), .bool rd, .int .i64 (fe : Int), .int .i64 (us : Int), .bool ev, .bool al] 27)).heap[w.heap.size]? = some (.cells #[.int .i64 s, .int .u64 (D : Int), .int .u64 (A : Int), .int .u64 (U : Int), .bool rd, .int .i64 (fe : Int), .int .i64 (us : Int), .bool ev, .bool al] 27 (0, 0)) ∧ Below w.heap.size w (w.alloc (.cells #[.int .i64 s, .int .u64 (D : Int), .int .u64 (A : Int), .int .u64 (U : Int), .bool rd, .int .i64 (fe : Int), .int .i64 (us : Int), .bool ev, .bool al] 27))) := ⟨heap_alloc_new _ _, one_box _ _⟩
  have h1 : (0 : Int) ≤ (fe : Int) := by omega
  have h2 : (fe : Int) < 65536 := by omega
  have h3 : (0 : Int) ≤ (us : Int) := by omega
  have h4 : (us : Int) < 65536 := by omega
  clear hf hu
  go_enter Tryz.func8, Tryz.ntmps8
  go_upto_region 1 with fail
  generalize w.alloc (.cells #[.int .i64 s, .int .u64 (D : Int), .int .u64 (A : Int), .int .u64 (U : Int), .bool rd, .int .i64 (fe : Int), .int .i64 (us : Int), .bool ev, .bool al] 27) = v0 at *
  obtain ⟨c0, c1, c2, c3, c4, c5, c6, c7, c8⟩ := box9_facts X.out.1
  go_wp2_with fail
  go_ret
  exact ⟨rfl, X.out.2⟩
theorem infoQ : (Tryz.prog.info? 40).map (·.size) = some 9 := by kernel_rfl
theorem u16_id {m : Nat} (h : m ≤ 65535) : IntKind.u16.wrap (m : Int) = (m : Int) := by
  simp only [IntKind.wrap, IntKind.signed, IntKind.bits]
  simp
  try omega
theorem lawOf_any {w : World} {s : Int} {D A U : Nat} {rd ev al : Bool} {fe us : Nat} (hf : fe ≤ 65535) (hu : us ≤ 65535) : Calls Tryz.prog 10 #[.agg #[.int .i64 s, .int .u64 (D : Int), .int .u64 (A : Int), .int .u64 (U : Int), .bool rd, .int .i64 (fe : Int), .int .i64 (us : Int), .bool ev, .bool al]] w fun e w' => e = .returned (.agg #[.int .i64 s, .int .u64 (D : Int), .int .u64 (A : Int), .int .u64 (U : Int), .bool rd, .int .u16 (fe : Int), .int .u16 (us : Int), .bool ev, .bool al]) ∧ Below w.heap.size w w' := by
  have h2 := two_in w (.cells #[.int .i64 s, .int .u64 (D : Int), .int .u64 (A : Int), .int .u64 (U : Int), .bool rd, .int .i64 (fe : Int), .int .i64 (us : Int), .bool ev, .bool al] 27) (.cells #[.int .i64 0, .int .u64 0, .int .u64 0, .int .u64 0, .bool false, .int .u16 0, .int .u16 0, .bool false, .bool false] 40)
  have hb : Below w.heap.size w ((w.alloc (.cells #[.int .i64 s, .int .u64 (D : Int), .int .u64 (A : Int), .int .u64 (U : Int), .bool rd, .int .i64 (fe : Int), .int .i64 (us : Int), .bool ev, .bool al] 27)).alloc (.cells #[.int .i64 0, .int .u64 0, .int .u64 0, .int .u64 0, .bool false, .int .u16 0, .int .u16 0, .bool false, .bool false] 40)) := ((Below.refl _ _).alloc (Nat.le_refl _) _).alloc (by simp) _
  have X : Hid (((w.alloc (.cells #[.int .i64 s, .int .u64 (D : Int), .int .u64 (A : Int), .int .u64 (U : Int), .bool rd, .int .i64 (fe : Int), .int .i64 (us : Int), .bool ev, .bool al] 27)).alloc (.cells #[.int .i64 0, .int .u64 0, .int .u64 0, .int .u64 0, .bool false, .int .u16 0, .int .u16 0, .bool false, .bool false] 40)).heap[w.heap.size]? = some (.cells #[.int .i64 s, .int .u64 (D : Int), .int .u64 (A : Int), .int .u64 (U : Int), .bool rd, .int .i64 (fe : Int), .int .i64 (us : Int), .bool ev, .bool al] 27 (0, 0)) ∧ ((w.alloc (.cells #[.int .i64 s, .int .u64 (D : Int), .int .u64 (A : Int), .int .u64 (U : Int), .bool rd, .int .i64 (fe : Int), .int .i64 (us : Int), .bool ev, .bool al] 27)).alloc (.cells #[.int .i64 0, .int .u64 0, .int .u64 0, .int .u64 0, .bool false, .int .u16 0, .int .u16 0, .bool false, .bool false] 40)).heap[w.heap.size + 1]? = some (.cells #[.int .i64 0, .int .u64 0, .int .u64 0, .int .u64 0, .bool false, .int .u16 0, .int .u16 0, .bool false, .bool false] 40 (0, 0)) ∧ Below w.heap.size w ((w.alloc (.cells #[.int .i64 s, .int .u64 (D : Int), .int .u64 (A : Int), .int .u64 (U : Int), .bool rd, .int .i64 (fe : Int), .int .i64 (us : Int), .bool ev, .bool al] 27)).alloc (.cells #[.int .i64 0, .int .u64 0, .int .u64 0, .int .u64 0, .bool false, .int .u16 0, .int .u16 0, .bool false, .bool false] 40))) := ⟨h2.1, h2.2, hb⟩
  have e1 := u16_id hf
  have e2 := u16_id hu
  clear hf hu h2 hb
  go_enter Tryz.func10, Tryz.ntmps10
  go_upto_region 1 with fail
  generalize (w.alloc (.cells #[.int .i64 s, .int .u64 (D : Int), .int .u64 (A : Int), .int .u64 (U : Int), .bool rd, .int .i64 (fe : Int), .int .i64 (us : Int), .bool ev, .bool al] 27)).alloc (.cells #[.int .i64 0, .int .u64 0, .int .u64 0, .int .u64 0, .bool false, .int .u16 0, .int .u16 0, .bool false, .bool false] 40) = v0 at *
  obtain ⟨c0, c1, c2, c3, c4, c5, c6, c7, c8⟩ := box9_facts X.out.1
  refine wp_region_list ?_
  (refine wpList_step (fun KK hKK => ?_); go_simp; refine hKK _ _ ?_; clear hKK KK)
  (refine wpList_step (fun KK hKK => ?_); go_simp; refine hKK _ _ ?_; clear hKK KK)
  (refine wpList_step (fun KK hKK => ?_); go_simp; refine hKK _ _ ?_; clear hKK KK)
  (refine wpList_step (fun KK hKK => ?_); go_simp; refine hKK _ _ ?_; clear hKK KK)
  (refine wpList_step (fun KK hKK => ?_); go_simp; refine hKK _ _ ?_; clear hKK KK)
  (refine wpList_step (fun KK hKK => ?_); go_simp; refine hKK _ _ ?_; clear hKK KK)
  (refine wpList_step (fun KK hKK => ?_); go_simp; refine hKK _ _ ?_; clear hKK KK)
  (refine wpList_step (fun KK hKK => ?_); go_simp; refine hKK _ _ ?_; clear hKK KK)
  (refine wpList_step (fun KK hKK => ?_); go_simp; refine hKK _ _ ?_; clear hKK KK)
  (refine wpList_step (fun KK hKK => ?_); go_simp; refine hKK _ _ ?_; clear hKK KK)
  (refine wpList_step (fun KK hKK => ?_); go_simp; refine hKK _ _ ?_; clear hKK KK)
  (refine wpList_step (fun KK hKK => ?_); go_simp; refine hKK _ _ ?_; clear hKK KK)
  (refine wpList_step (fun KK hKK => ?_); go_simp; refine hKK _ _ ?_; clear hKK KK)
  (refine wpList_step (fun KK hKK => ?_); go_simp; refine hKK _ _ ?_; clear hKK KK)
  (refine wpList_step (fun KK hKK => ?_); go_simp; refine hKK _ _ ?_; clear hKK KK)
  refine wpList_store_row rfl 40 _ _ rfl (w.heap.size + 1) #[.int .i64 s, .int .u64 (D : Int), .int .u64 (A : Int), .int .u64 (U : Int), .bool rd, .int .u16 (fe : Int), .int .u16 (us : Int), .bool ev, .bool al] rfl rfl 40 #[.int .i64 0, .int .u64 0, .int .u64 0, .int .u64 0, .bool false, .int .u16 0, .int .u16 0, .bool false, .bool false] X.out.2.1 infoQ rfl (by simp [Value.oneCell']) ?_
  have Y : Hid ((v0.setRow (w.heap.size + 1) #[.int .i64 s, .int .u64 (D : Int), .int .u64 (A : Int), .int .u64 (U : Int), .bool rd, .int .u16 (fe : Int), .int .u16 (us : Int), .bool ev, .bool al]).heap[w.heap.size + 1]? = some (.cells #[.int .i64 s, .int .u64 (D : Int), .int .u64 (A : Int), .int .u64 (U : Int), .bool rd, .int .u16 (fe : Int), .int .u16 (us : Int), .bool ev, .bool al] 40 (0, 0)) ∧ Below w.heap.size w (v0.setRow (w.heap.size + 1) #[.int .i64 s, .int .u64 (D : Int), .int .u64 (A : Int), .int .u64 (U : Int), .bool rd, .int .u16 (fe : Int), .int .u16 (us : Int), .bool ev, .bool al])) := ⟨setRow_heap _ _ _ _ _ _ X.out.2.1, below_setRow X.out.2.2 (by omega) _⟩
  clear X c0 c1 c2 c3 c4 c5 c6 c7 c8
  generalize v0.setRow (w.heap.size + 1) #[.int .i64 s, .int .u64 (D : Int), .int .u64 (A : Int), .int .u64 (U : Int), .bool rd, .int .u16 (fe : Int), .int .u16 (us : Int), .bool ev, .bool al] = w9 at *
  obtain ⟨k0, k1, k2, k3, k4, k5, k6, k7, k8⟩ := box9_facts Y.out.1
  go_wp2_with fail
  refine bodyPost_ret (v := .agg #[.int .i64 s, .int .u64 (D : Int), .int .u64 (A : Int), .int .u64 (U : Int), .bool rd, .int .u16 (fe : Int), .int .u16 (us : Int), .bool ev, .bool al]) (by simp [results, Tryz.results10, go_sem, k0, k1, k2, k3, k4, k5, k6, k7, k8]) rfl ?_
  exact ⟨rfl, Y.out.2⟩
end Go.Proofs.YtmjdnocilbnoaaaGreat

/- What stays while a statement runs; Fetch on both sides. -/
namespace Go.Proofs.YtmjdnocilbnoaaaGreat
open Go.RowKit Go.Maps
set_option linter.unusedVariables false
set_option linter.unusedSimpArgs false
set_option maxRecDepth 100000
/-- boxes that stay, while blocks of G change -/
def Kq (W V : World) (G : Nat → Prop) (L : List (Nat × Obj)) : Prop := Below W.heap.size W V ∧ (∀ x ∈ L, V.heap[x.1]? = some x.2 ∧ ¬ G x.1) ∧ (∀ k, G k → W.heap.size ≤ k)
theorem Kq.step {W V V' : World} {G G' : Nat → Prop} {L : List (Nat × Obj)} (h : Kq W V G L) (hs : Step G V G' V') : Kq W V' G' L :=
  ⟨h.1.trans (hs.below h.1.size h.2.2), fun x hx => ⟨step_box hs (h.2.1 x hx).1 (h.2.1 x hx).2, not_later hs (Array.getElem?_eq_some_iff.1 (h.2.1 x hx).1).1 (h.2.1 x hx).2⟩, fun k hk => by
    rcases hs.old k hk with h1 | h1
    · exact h.2.2 k h1
    · exact Nat.le_trans h.1.size h1⟩
theorem Kq.add {W V : World} {G : Nat → Prop} {L : List (Nat × Obj)} (h : Kq W V G L) {q : Nat} {o : Obj} (hq : V.heap[q]? = some o) (hn : ¬ G q) : Kq W V G ((q, o) :: L) :=
  ⟨h.1, fun x hx => by
    rcases List.mem_cons.1 hx with rfl | hx
    · exact ⟨hq, hn⟩
    · exact h.2.1 x hx, h.2.2⟩
/-- .. and a memory that stays, and the document's bytes -/
def Ss (W V : World) (G : Nat → Prop) (L : List (Nat × Obj)) (rb2 : Nat) (F2 : Nat → Prop) (M : Nat → Nat) (a : Option Addr) (n c : Nat) (bs : Nat → Nat × Nat) : Prop := Kq W V G L ∧ (RamAt V F2 rb2 8192 12000 (.pointer none) M ∧ ∀ k, F2 k → ¬ G k) ∧ RefIn G V (.slice a n c) n bs
section
variable {W V V' : World} {G G' F2 : Nat → Prop} {L : List (Nat × Obj)} {rb2 : Nat} {M : Nat → Nat} {a : Option Addr} {n c : Nat} {bs : Nat → Nat × Nat}
theorem Ss.step (h : Ss W V G L rb2 F2 M a n c bs) (hs : Step G V G' V') : Ss W V' G' L rb2 F2 M a n c bs :=
  ⟨h.1.step hs, ⟨h.2.1.1.kept hs.size (fun k hk => hs.block k (h.2.1.1.lt k hk) (h.2.1.2 k hk)), fun k hk => not_later hs (h.2.1.1.lt k hk) (h.2.1.2 k hk)⟩, h.2.2.step hs⟩
theorem Ss.below (h : Ss W V G L rb2 F2 M a n c bs) (hb : Below V.heap.size V V') : Ss W V' G L rb2 F2 M a n c bs := h.step (Step.of_below hb)
theorem Ss.add (h : Ss W V G L rb2 F2 M a n c bs) {q : Nat} {o : Obj} (hq : V.heap[q]? = some o) (hn : ¬ G q) : Ss W V G ((q, o) :: L) rb2 F2 M a n c bs := ⟨h.1.add hq hn, h.2⟩
theorem Ss.at (h : Ss W V G L rb2 F2 M a n c bs) {q : Nat} {o : Obj} (hm : (q, o) ∈ L) : V.heap[q]? = some o := (h.1.2.1 _ hm).1
theorem Ss.not (h : Ss W V G L rb2 F2 M a n c bs) {q : Nat} {o : Obj} (hm : (q, o) ∈ L) : ¬ G q := (h.1.2.1 _ hm).2
end
theorem dfetch_non {F : Nat → Prop} {w : World} {va : Option Addr} {nn vc : Nat} {bs : Nat → Nat × Nat} {M : Nat → Nat} (href : RefIn F w (.slice va nn vc) nn bs) (hgt : ∀ q, rget bs nn q = M q) (hle : ∀ a, M a ≤ 255) (hnn : nn ≤ 900000) {s : Int} {D A U : Nat} {rd ev al : Bool} {fe us : Nat} (hD : D < 18446744073709551616) (hA : A < 18446744073709551616) (hU : U < 18446744073709551616) (hfe : fe ≤ 65535) {e : Int} (h : fetchR M s D A U rd fe al = .non e) : Calls Tryz.prog 17 #[.agg #[.int .u64 8192, .slice va nn vc], .agg #[.int .i64 s, .int .u64 (D : Int), .int .u64 (A : Int), .int .u64 (U : Int), .bool rd, .int .i64 (fe : Int), .int .i64 (us : Int), .bool ev, .bool al]] w fun r w' => r = .returned (.tuple #[.agg #[.int .i64 s, .int .u64 (D : Int), .int .u64 (A : Int), .int .u64 (U : Int), .bool rd, .int .i64 (fe : Int), .int .i64 (us : Int), .bool ev, .bool al], .int .i64 (-1), .agg #[.slice none 0 0, .int .u64 0, .int .u64 0], .bool false, .int .i64 e]) ∧ Below w.heap.size w w' := by
  cases rd with
  | false =>
    rw [fetch_idle] at h
    cases h
    exact dfetch_off
  | true =>
    by_cases hc : chkN s D A U 8192 = 0
    case neg =>
      rw [fetch_bad hc] at h
      cases h
      exact dfetch_chk hD hA hU hc
    case pos =>
      obtain ⟨n, rfl, hg⟩ := gd_of hc hD
      by_cases h1 : waitN M A fe = 0
      · rw [fetch_none hc h1] at h
        cases h
        exact dfetch_wait href hgt hle hnn hg hfe h1
      by_cases h2 : n < waitN M A fe
      · rw [fetch_jump hc h1 h2] at h
        cases h
        exact dfetch_jmp href hgt hle hnn hg hfe h1 h2
      rw [fetch_got hc h1 h2] at h
      cases h
theorem dfetch_any {F : Nat → Prop} {w : World} {va : Option Addr} {nn vc : Nat} {bs : Nat → Nat × Nat} {M : Nat → Nat} (href : RefIn F w (.slice va nn vc) nn bs) (hgt : ∀ q, rget bs nn q = M q) (hle : ∀ a, M a ≤ 255) (hnn : nn ≤ 900000) {s : Int} {D A U : Nat} {rd ev al : Bool} {fe us : Nat} (hD : D < 18446744073709551616) (hfe : fe ≤ 65535) {h : Nat} {c : Cn} (hf : fetchR M s D A U rd fe al = .got h c) : Calls Tryz.prog 17 #[.agg #[.int .u64 8192, .slice va nn vc], .agg #[.int .i64 s, .int .u64 (D : Int), .int .u64 (A : Int), .int .u64 (U : Int), .bool rd, .int .i64 (fe : Int), .int .i64 (us : Int), .bool ev, .bool al]] w fun r w' => ∃ a1 c1, r = .returned (.tuple #[.agg #[.int .i64 s, .int .u64 (D : Int), .int .u64 (A : Int), .int .u64 (U : Int), .bool rd, .int .i64 (upN fe : Int), .int .i64 (us : Int), .bool ev, .bool al], .int .i64 (h : Int), .agg #[.slice a1 c.l.length c1, .int .u64 (c.ta : Int), .int .u64 (c.tl : Int)], .bool ((c.e : Int) == 0), .int .i64 (c.e : Int)]) ∧ SegIn w.heap.size w' (.slice a1 c.l.length c1) c.l ∧ Below w.heap.size w w' := by
  obtain ⟨rfl, n, rfl, hg, h1, h2, h3, h4⟩ := got_facts hD hf
  exact dfetch_one href hgt hle hnn hg hfe h1 h2 h c h3 h4
/-- Fetch on both sides -/
theorem fetch_same {M : Nat → Nat} {s : Int} {D A U : Nat} {rd al : Bool} {fe : Nat} (hle : ∀ a, M a ≤ 255) (hD : D < 18446744073709551616) (hA : A < 18446744073709551616) (hU : U < 18446744073709551616) (hfe : fe ≤ 65535) : ∃ (hn : Nat) (hi : Int) (l : List Seg) (ta tl : Nat) (b : Bool) (e : Int) (f1 : Nat), max hi 0 = (hn : Int) ∧ hn ≤ 65535 ∧ l.length ≤ 1000 ∧ f1 ≤ 65535 ∧
    (∀ (w : World) (F : Nat → Prop) (rb k qb us : Nat) (ev : Bool), RamAt w F rb 8192 k (.pointer none) M → w.heap[qb]? = some (.cells #[.int .i64 s, .int .u64 (D : Int), .int .u64 (A : Int), .int .u64 (U : Int), .bool rd, .int .u16 (fe : Int), .int .u16 (us : Int), .bool ev, .bool al] 40 (0, 0)) → ¬ F qb → Calls Tryz.prog 16 #[.pointer (some ⟨qb, 0, none⟩), .pointer (some ⟨rb, 0, none⟩)] w fun r w' => ∃ a1 c1, r = .returned (.tuple #[.agg #[.int .u16 (hn : Int), .slice a1 l.length c1, .int .u64 (ta : Int), .int .u64 (tl : Int)], .bool b, .int .i64 e]) ∧ SegIn w.heap.size w' (.slice a1 l.length c1) l ∧ w'.heap[qb]? = some (.cells #[.int .i64 s, .int .u64 (D : Int), .int .u64 (A : Int), .int .u64 (U : Int), .bool rd, .int .u16 (f1 : Int), .int .u16 (us : Int), .bool ev, .bool al] 40 (0, 0)) ∧ Step (fun k => k = qb) w (fun k => k = qb) w') ∧
    (∀ (w : World) (F : Nat → Prop) (va : Option Addr) (nn vc : Nat) (bs : Nat → Nat × Nat) (us : Nat) (ev : Bool), RefIn F w (.slice va nn vc) nn bs → (∀ q, rget bs nn q = M q) → nn ≤ 900000 → Calls Tryz.prog 17 #[.agg #[.int .u64 8192, .slice va nn vc], .agg #[.int .i64 s, .int .u64 (D : Int), .int .u64 (A : Int), .int .u64 (U : Int), .bool rd, .int .i64 (fe : Int), .int .i64 (us : Int), .bool ev, .bool al]] w fun r w' => ∃ a1 c1, r = .returned (.tuple #[.agg #[.int .i64 s, .int .u64 (D : Int), .int .u64 (A : Int), .int .u64 (U : Int), .bool rd, .int .i64 (f1 : Int), .int .i64 (us : Int), .bool ev, .bool al], .int .i64 hi, .agg #[.slice a1 l.length c1, .int .u64 (ta : Int), .int .u64 (tl : Int)], .bool b, .int .i64 e]) ∧ SegIn w.heap.size w' (.slice a1 l.length c1) l ∧ Below w.heap.size w w') := by
  obtain ⟨ft, hft⟩ : ∃ ft, fetchR M s D A U rd fe al = ft := ⟨_, rfl⟩
  cases ft with
  | non e =>
    refine ⟨0, -1, [], 0, 0, false, e, fe, by decide, by decide, by decide, hfe, ?_, ?_⟩
    · intro w F rb k qb us ev hr hq hF
      refine (fetch_non hr hq hF hD hA hU hfe hft).mono ?_
      rintro r w' ⟨rfl, h2, h3⟩
      exact ⟨none, 0, rfl, segs_nil _ _, h2, h3⟩
    · intro w F va nn vc bs us ev h1 h2 h3
      refine (dfetch_non h1 h2 hle h3 hD hA hU hfe hft).mono ?_
      rintro r w' ⟨rfl, hb⟩
      exact ⟨none, 0, rfl, segs_nil _ _, hb⟩
  | got h c =>
    have hh := head_le hle hD hft
    refine ⟨h, h, c.l, c.ta, c.tl, (c.e : Int) == 0, c.e, upN fe, by omega, hh.1, hh.2.2, up_le _, ?_, ?_⟩
    · intro w F rb k qb us ev hr hq hF
      exact fetch_any hr hq hF hD hA hU hfe hft
    · intro w F va nn vc bs us ev h1 h2 h3
      exact dfetch_any h1 h2 hle h3 hD hfe hft
theorem ref_or {F : Nat → Prop} {V : World} {a : Option Addr} {n c q : Nat} {bs : Nat → Nat × Nat} (h : RefIn F V (.slice a n c) n bs) (hq : ∀ z, (Value.slice a n c).ownBlock = some z → 0 < n → z ≠ q) : RefIn (fun k => F k ∨ k = q) V (.slice a n c) n bs := by
  rcases h with h | ⟨g, cc, he, hF, hc⟩
  · exact .inl h
  · by_cases h0 : n = 0
    · subst h0
      exact .inl ⟨rfl, a, c, rfl⟩
    · exact .inr ⟨g, cc, he, fun hx => hx.elim hF (fun e => hq g (by rw [he]; rfl) (by omega) e), hc⟩
end Go.Proofs.YtmjdnocilbnoaaaGreat

/- The statements' device: fill. -/
namespace Go.Proofs.YtmjdnocilbnoaaaGreat
open Go.RowKit Go.Maps
set_option linter.unusedVariables false
set_option linter.unusedSimpArgs false
set_option maxRecDepth 100000
theorem wrap_u32_small (n : Nat) (h : n ≤ 4000) : IntKind.u32.wrap (n : Int) = (n : Int) := by
  simp only [IntKind.wrap, IntKind.signed, IntKind.bits]
  simp
  try omega
theorem room_all (l : List Seg) : roomB true l 0 (sizeN true l) = true := by simp [roomB]
set_option maxHeartbeats 2000000 in
theorem fill_any {w : World} {F : Nat → Prop} {rb κ : Nat} {M : Nat → Nat} (hr : RamAt w F rb 8192 κ (.pointer none) M) (hκ : κ ≤ 900000) {a : Option Addr} {L c : Nat} {l : List Seg} (h : SegIn 0 w (.slice a L c) l) (hl : l.length ≤ 1000) (hok : ∀ s ∈ l, SegOk s) (ta tl b : Nat) (hb : b ≤ 255) :
    Calls Tryz.prog 34 #[.pointer (some ⟨rb, 0, none⟩), .agg #[.slice a L c, .int .u64 (ta : Int), .int .u64 (tl : Int)], .int .u8 (b : Int)] w fun e w' => e = .returned (.int .u32 (cntN l : Int)) ∧ ∃ F', RamAt w' F' rb 8192 (κ + 4000) (.pointer none) (fillM b l M) ∧ Step F w F' w' := by
  obtain ⟨i0, hi, hz0, hz1, hz2⟩ := info_parts Tryz.info5
  have XB : Hid (Below w.heap.size w (w.alloc (.cells #[.slice a L c, .int .u64 (ta : Int), .int .u64 (tl : Int)] 59)) ∧ (w.alloc (.cells #[.slice a L c, .int .u64 (ta : Int), .int .u64 (tl : Int)] 59)).heap[w.heap.size]? = some (.cells #[.slice a L c, .int .u64 (ta : Int), .int .u64 (tl : Int)] 59 (0, 0))) := ⟨one_box _ _, heap_alloc_new _ _⟩
  have KS : Hid (∀ V, Below w.heap.size w V → Calls Tryz.prog 73 #[.agg #[.slice a L c, .int .u64 (ta : Int), .int .u64 (tl : Int)]] V fun e w' => e = .returned (.tuple #[.int .u64 (sizeN false l : Int), .int .u64 (sizeN true l : Int)]) ∧ Below V.heap.size V w') := fun V hV => psizes_any (h.kept (fun g hg => hV.block g (h.lt g hg).2)) hl hok ta tl
  have HR : Hid (RamAt w F rb 8192 κ (.pointer none) M ∧ SegIn 0 w (.slice a L c) l ∧ l.length ≤ 1000 ∧ (∀ s ∈ l, SegOk s) ∧ b ≤ 255 ∧ κ ≤ 900000) := ⟨hr, h, hl, hok, hb, hκ⟩
  obtain ⟨sz, hsz⟩ : ∃ sz, sizeN true l = sz := ⟨_, rfl⟩
  have HS : Hid (sizeN true l = sz) := hsz
  rw [hsz] at KS
  generalize sizeN false l = sz1 at KS
  by_cases hbig : 4000 < sz
  case pos =>
    have g1 : (4000 : Int) < (sz : Int) := by omega
    have HC : Hid (cntN l = 0 ∧ fillM b l M = M) := ⟨by unfold cntN; rw [hsz, if_pos hbig], by unfold fillM; rw [hsz, if_pos hbig]⟩
    clear hbig hsz hr hκ h hl hok hb
    go_enter Tryz.func34, Tryz.ntmps34
    go_upto_region 1 with fail
    generalize w.alloc (.cells #[.slice a L c, .int .u64 (ta : Int), .int .u64 (tl : Int)] 59) = v0 at *
    obtain ⟨p0, p1, p2⟩ := box3_facts XB.out.2
    go_wp2_with (go_at_call 73; refine (KS.out _ XB.out.1).mono ?_; rintro e w1 ⟨rfl, hb1⟩; have X1 : Hid (Below w.heap.size w w1) := below_to XB.out.1 hb1; clear hb1)
    go_ret
    refine ⟨by rw [HC.out.1]; rfl, F, ?_, Step.of_below X1.out⟩
    rw [HC.out.2]
    exact (HR.out.1.below X1.out).mono (by omega)
  have g1 : ¬ (4000 : Int) < (sz : Int) := by omega
  have hs4 : sz ≤ 4000 := by omega
  have e1 : IntKind.u32.wrap (sz : Int) = (sz : Int) := wrap_u32_small sz hs4
  have HC : Hid (cntN l = sz ∧ fillM b l M = layS (fun _ => b) (scaL l 0 sz) 0 M ∧ roomB true l 0 sz = true ∧ sz ≤ 4000) := ⟨by unfold cntN; rw [hsz, if_neg hbig], by unfold fillM; rw [hsz, if_neg hbig], by rw [← hsz]; exact room_all l, hs4⟩
  clear hbig hsz hr hκ h hl hok hb
  go_enter Tryz.func34, Tryz.ntmps34
  go_upto_region 1 with fail
  generalize w.alloc (.cells #[.slice a L c, .int .u64 (ta : Int), .int .u64 (tl : Int)] 59) = v0 at *
  obtain ⟨p0, p1, p2⟩ := box3_facts XB.out.2
  go_wp2_with (first | (go_at_call 73; refine (KS.out _ XB.out.1).mono ?_; rintro e w1 ⟨rfl, hb1⟩; have X1 : Hid (Below w.heap.size w w1 ∧ w1.heap[w.heap.size]? = some (.cells #[.slice a L c, .int .u64 (ta : Int), .int .u64 (tl : Int)] 59 (0, 0))) := ⟨below_to XB.out.1 hb1, below_box XB.out.2 hb1⟩; clear hb1 p0 p1 p2) | (at_make; refine wpList_make_full _ rfl _ _ 84 rfl (w.heap.size + 1) 5 i0 (.int .u8 0) 1 Tryz.underlying84 hi hz0 hz1 _ _ _ _ sz rfl rfl ?m1 ?m2 ?m3 ?m4 ?m5 ?_))
  case m1 => rfl
  case m2 => rfl
  case m3 => rw [hz2]; omega
  case m4 => unfold maxLen; omega
  case m5 => have := (Array.getElem?_eq_some_iff.1 X1.out.2).1; omega
  intro w2 hown0 hgrow0
  have hb02 : Below w.heap.size w w2 := Below.grown X1.out.1 hgrow0 X1.out.1.size (by simp)
  have hbox : w2.heap[w.heap.size]? = some (.cells #[.slice a L c, .int .u64 (ta : Int), .int .u64 (tl : Int)] 59 (0, 0)) := (hgrow0.block _ (Array.getElem?_eq_some_iff.1 X1.out.2).1 (by simp)).trans X1.out.2
  rw [toList_madeCells_one, rowK_zero] at hown0
  have hgl := hown0.lt w1.heap.size rfl
  generalize w1.heap.size = g at *
  have X2 : Hid (w2.ownsRow (w.heap.size + 1) 5 1 (.slice (some ⟨g, 0, none⟩) sz sz) sz (rowK .u8 (fun _ => 0) sz) ∧ Below w.heap.size w w2 ∧ w2.heap[w.heap.size]? = some (.cells #[.slice a L c, .int .u64 (ta : Int), .int .u64 (tl : Int)] 59 (0, 0))) := ⟨hown0, hb02, hbox⟩
  have HG : Hid (w.heap.size + 1 ≤ g) := hgl.1
  clear hown0 hgrow0 hb02 hbox hgl X1 XB KS
  go_wp2_with fail
  go_loopw [10] (fun i wr => ∃ k : Nat, k ≤ sz ∧ i = .int .i64 (k : Int) ∧ wr.ownsRow (w.heap.size + 1) 5 1 (.slice (some ⟨g, 0, none⟩) sz sz) sz (rowK .u8 (fun i => if i < k then b else 0) sz) ∧ Below w.heap.size w wr ∧ wr.heap[w.heap.size]? = some (.cells #[.slice a L c, .int .u64 (ta : Int), .int .u64 (tl : Int)] 59 (0, 0))) (fun i _ => sz - (intOf i).toNat)
  case atStart => exact ⟨0, by omega, rfl, by rw [← fill_zero (fun _ => b)]; exact X2.out.1, X2.out.2.1, X2.out.2.2⟩
  case round =>
    obtain ⟨k, hk, rfl, hown, hbw, hbox⟩ := hrel
    clear X2
    by_cases hlt : k < sz
    · have hkL : (k : Int) < (sz : Int) := by omega
      have hc3 : wr.cell? ⟨g, k, none⟩ = some (.int .u8 ((if k < k then b else 0 : Nat) : Nat)) := by rw [hown.cellAt k (by omega)]; exact rowK_get _ _ _ _ hlt
      have hf3 := hown.frozenAt k
      have Y : Hid (wr.ownsRow (w.heap.size + 1) 5 1 (.slice (some ⟨g, 0, none⟩) sz sz) sz (rowK .u8 (fun i => if i < k then b else 0) sz) ∧ Below w.heap.size w wr ∧ wr.heap[w.heap.size]? = some (.cells #[.slice a L c, .int .u64 (ta : Int), .int .u64 (tl : Int)] 59 (0, 0))) := ⟨hown, hbw, hbox⟩
      clear hown hbw hbox
      go_wp2_with fail
      go_roundw
      case rel =>
        have hown4 := Y.out.1.stored k (.int .u8 (b : Nat))
        rw [fill_step (fun _ => b)] at hown4
        exact ⟨k + 1, by omega, by go_num, hown4.1, Y.out.2.1.setCell (p := ⟨g, k, none⟩) (by have := HG.out; show w.heap.size ≤ g; omega) _, (heap_setCell _ _ _ _ _ (by have := HG.out; omega)).trans Y.out.2.2⟩
      case measure => simp [intOf]; omega
    · obtain rfl : k = sz := by omega
      rw [fill_done (fun _ => b)] at hown
      have KC : Hid (Calls Tryz.prog 74 #[.agg #[.slice a L c, .int .u64 (ta : Int), .int .u64 (tl : Int)], .pointer (some ⟨rb, 0, none⟩), .int .u64 0, .slice (some ⟨g, 0, none⟩) k k] wr fun e w' => e = .returned (.bool true) ∧ ∃ F', RamAt w' F' rb 8192 (κ + k) (.pointer none) (fillM b l M) ∧ Step F w F' w') := by
        have hrd : ReadsF F wr (.slice (some ⟨g, 0, none⟩) k k) k (fun _ => b) := reads_ownF hown (fun z hz => by have := HR.out.1.lt z hz; omega)
        have := scatter_any (HR.out.1.below hbw) HR.out.2.2.2.2.2 (HR.out.2.1.kept (fun g hg => hbw.block g (HR.out.2.1.lt g hg).2)) HR.out.2.2.1 HR.out.2.2.2.1 ta tl 0 k (by decide) HC.out.2.2.2 (fun _ => b) (fun _ => HR.out.2.2.2.2.1) _ _ hrd
        rw [HC.out.2.2.1, if_pos rfl, ← HC.out.2.1] at this
        refine this.mono ?_
        rintro e w' ⟨rfl, F', hr, hs⟩
        exact ⟨rfl, F', hr, (Step.of_below hbw).trans hs⟩
      obtain ⟨p0, p1, p2⟩ := box3_facts hbox
      clear hown hbw hbox
      go_wp2_with (go_at_call 74; refine (KC.out).mono ?_; rintro e w5 ⟨rfl, F5, hr5, hs5⟩; have X5 : Hid (RamAt w5 F5 rb 8192 (κ + k) (.pointer none) (fillM b l M) ∧ Step F w F5 w5) := ⟨hr5, hs5⟩; clear hr5 hs5)
      go_ret
      exact ⟨by rw [HC.out.1]; rfl, F5, X5.out.1.mono (by have := HC.out.2.2.2; omega), X5.out.2⟩
end Go.Proofs.YtmjdnocilbnoaaaGreat

/- The queue: all that is offered is given to a device. -/
namespace Go.Proofs.YtmjdnocilbnoaaaGreat
open Go.RowKit Go.Maps
set_option linter.unusedVariables false
set_option linter.unusedSimpArgs false
set_option maxRecDepth 100000
theorem seg_down {B : Nat} {w : World} {v : Value} {l : List Seg} (h : SegIn B w v l) : SegIn 0 w v l := seg_base h (Nat.zero_le _)
/-- what use tells, of a device that can't have the chain yet -/
def Pno {σ : Type} (I : σ → (Nat → Prop) → World → Prop) (rb : Nat) (t : σ) (M : Nat → Nat) (F O : Nat → Prop) (κ : Nat) (G : Nat → Prop) (V : World) (n : Nat) (o : Bool) : Prop := n = 0 ∧ o = false ∧ RamAt V F rb 8192 κ (.pointer none) M ∧ I t O V ∧ G = fun k => F k ∨ O k
/-- .. and of one that used it -/
def Pyes {σ : Type} (I : σ → (Nat → Prop) → World → Prop) (rb : Nat) (bud : σ → Nat) (t' : σ) (M' : Nat → Nat) (cnt b : Nat) (G : Nat → Prop) (V : World) (n : Nat) (o : Bool) : Prop := n = cnt ∧ o = true ∧ ∃ (F' O' : Nat → Prop) (κ' : Nat), RamAt V F' rb 8192 κ' (.pointer none) M' ∧ I t' O' V ∧ (∀ k, O' k → ¬ F' k) ∧ G = (fun k => F' k ∨ O' k) ∧ κ' + 10 + bud t' ≤ b
theorem wrap_round (i : Nat) (h : i < 65537) : wrap64 ((i : Int) + 1) = (i : Int) + 1 := by unfold wrap64; omega
section
variable {σ : Type} {I : σ → (Nat → Prop) → World → Prop} {bud : σ → Nat} {rb qb df : Nat} {cap : Array Value} {dev : σ → (Nat → Nat) → Nat → Cn → Option (σ × (Nat → Nat) × Nat)}
theorem use_no (hd : Dvc rb df cap dev bud I) {t : σ} {M : Nat → Nat} {h : Nat} {c : Cn} {F O : Nat → Prop} {κ : Nat} {w : World} {a : Option Addr} {cc : Nat} (hn : dev t M h c = none) (hr : RamAt w F rb 8192 κ (.pointer none) M) (hi : I t O w) (hO : ∀ k, O k → ¬ F k) (hs : SegIn 0 w (.slice a c.l.length cc) c.l) : Calls Tryz.prog 97 #[.func (.func df) #[] cap, .agg #[.slice a c.l.length cc, .int .u64 (c.ta : Int), .int .u64 (c.tl : Int)]] w fun e w' => ∃ (n : Nat) (o : Bool) (G' : Nat → Prop), e = .returned (.tuple #[.int .u32 (n : Int), .bool o]) ∧ Step (fun k => F k ∨ O k) w G' w' ∧ Pno I rb t M F O κ G' w' n o := by
  refine use_any df cap hd.cf a c.l.length cc c.ta c.tl (fun k => F k ∨ O k) (fun k hk => hk.elim (hr.lt k) (hd.lt hi k)) (Pno I rb t M F O κ) ?_ ?_
  · rintro G' V V' n o ⟨h1, h2, h3, h4, rfl⟩ hsz hk
    exact ⟨h1, h2, h3.kept hsz (fun k hf => hk k (.inl hf)), hd.kept h4 hsz (fun k ho => hk k (.inr ho)), rfl⟩
  · intro V hV
    refine (hd.no hn (hr.below hV) (hd.kept hi hV.size (fun k hk => hV.block k (hd.lt hi k hk))) hO (hs.kept (fun g hg => hV.block g (hs.lt g hg).2))).mono ?_
    rintro e V' ⟨rfl, hb⟩
    have hb2 := below_to hV hb
    exact ⟨0, false, _, rfl, Step.of_below hb, rfl, rfl, hr.below hb2, hd.kept hi hb2.size (fun k hk => hb2.block k (hd.lt hi k hk)), rfl⟩
theorem use_yes (hd : Dvc rb df cap dev bud I) {t : σ} {M : Nat → Nat} {h : Nat} {c : Cn} {F O : Nat → Prop} {κ : Nat} {w : World} {a : Option Addr} {cc : Nat} {t' : σ} {M' : Nat → Nat} {cnt : Nat} (hn : dev t M h c = some (t', M', cnt)) (hr : RamAt w F rb 8192 κ (.pointer none) M) (hκ : κ + bud t ≤ 900000) (hi : I t O w) (hO : ∀ k, O k → ¬ F k) (hs : SegIn 0 w (.slice a c.l.length cc) c.l) (hg : ∀ g, (Value.slice a c.l.length cc).ownBlock = some g → ¬ F g ∧ ¬ O g) (hl : c.l.length ≤ 1000) (hok : ∀ s ∈ c.l, SegOk s) : Calls Tryz.prog 97 #[.func (.func df) #[] cap, .agg #[.slice a c.l.length cc, .int .u64 (c.ta : Int), .int .u64 (c.tl : Int)]] w fun e w' => ∃ (n : Nat) (o : Bool) (G' : Nat → Prop), e = .returned (.tuple #[.int .u32 (n : Int), .bool o]) ∧ Step (fun k => F k ∨ O k) w G' w' ∧ Pyes I rb bud t' M' cnt (κ + bud t) G' w' n o := by
  refine use_any df cap hd.cf a c.l.length cc c.ta c.tl (fun k => F k ∨ O k) (fun k hk => hk.elim (hr.lt k) (hd.lt hi k)) (Pyes I rb bud t' M' cnt (κ + bud t)) ?_ ?_
  · rintro G' V V' n o ⟨h1, h2, F', O', κ', h3, h4, h5, rfl, h6⟩ hsz hk
    exact ⟨h1, h2, F', O', κ', h3.kept hsz (fun k hf => hk k (.inl hf)), hd.kept h4 hsz (fun k ho => hk k (.inr ho)), h5, rfl, h6⟩
  · intro V hV
    refine (hd.yes hn (hr.below hV) hκ (hd.kept hi hV.size (fun k hk => hV.block k (hd.lt hi k hk))) hO (hs.kept (fun g hg => hV.block g (hs.lt g hg).2)) hg hl hok).mono ?_
    rintro e V' ⟨rfl, F', O', κ', h3, h4, h5, h6, h7⟩
    exact ⟨cnt, true, _, rfl, h6, rfl, rfl, F', O', κ', h3, h4, h5, rfl, h7⟩
theorem Gl.same {s : Int} {D A U : Nat} {rd ev al : Bool} {w0 wr w' : World} {F0 O0 F O : Nat → Prop} {t : σ} {M : Nat → Nat} {fe us κ : Nat} (h : Gl I bud rb qb s D A U rd ev al w0 F0 O0 wr t M fe us F O κ) (hr : RamAt w' F rb 8192 κ (.pointer none) M) (hi : I t O w') (hs : Step (fun k => F k ∨ O k) wr (fun k => F k ∨ O k) w') : Gl I bud rb qb s D A U rd ev al w0 F0 O0 w' t M fe us F O κ := by
  have hlt := (Array.getElem?_eq_some_iff.1 h.2.1).1
  have hn : ¬ (F qb ∨ O qb) := fun hc => hc.elim h.2.2.2.2.1 (fun ho => (h.2.2.2.1 qb ho).2 rfl)
  exact ⟨hr, step_box hs h.2.1 hn, hi, h.2.2.2.1, h.2.2.2.2.1, h.2.2.2.2.2.1, h.2.2.2.2.2.2.trans (step_q hs hlt)⟩
/-- what giveAll leaves -/
def Gend (I : σ → (Nat → Prop) → World → Prop) (rb qb : Nat) (s : Int) (D A U : Nat) (rd ev al : Bool) (w0 : World) (F0 O0 : Nat → Prop) (R : Gv σ) (w' : World) : Prop := ∃ (F O : Nat → Prop) (κ : Nat), RamAt w' F rb 8192 κ (.pointer none) R.M ∧ w'.heap[qb]? = some (.cells #[.int .i64 s, .int .u64 (D : Int), .int .u64 (A : Int), .int .u64 (U : Int), .bool rd, .int .u16 (R.fe : Int), .int .u16 (R.us : Int), .bool ev, .bool al] 40 (0, 0)) ∧ I R.s O w' ∧ (∀ k, O k → ¬ F k ∧ k ≠ qb) ∧ ¬ F qb ∧ κ ≤ 900000 ∧ Step (fun k => (F0 k ∨ O0 k) ∨ k = qb) w0 (fun k => (F k ∨ O k) ∨ k = qb) w'
theorem Gl.fin {s : Int} {D A U : Nat} {rd ev al : Bool} {w0 wr : World} {F0 O0 F O : Nat → Prop} {t : σ} {M : Nat → Nat} {fe us κ : Nat} (h : Gl I bud rb qb s D A U rd ev al w0 F0 O0 wr t M fe us F O κ) {R : Gv σ} {e : Int} (hR : R = ⟨t, M, fe, us, e⟩) : Gend I rb qb s D A U rd ev al w0 F0 O0 R wr := by
  subst hR
  exact ⟨F, O, κ, h.1, h.2.1, h.2.2.1, h.2.2.2.1, h.2.2.2.2.1, by have := h.2.2.2.2.2.1; omega, h.2.2.2.2.2.2⟩
set_option maxHeartbeats 4000000 in
theorem give_any (hd : Dvc rb df cap dev bud I) {s : Int} {D A U : Nat} {rd ev al : Bool} (hD : D < 18446744073709551616) (hA : A < 18446744073709551616) (hU : U < 18446744073709551616) {w0 : World} {F0 O0 : Nat → Prop} {t0 : σ} {M0 : Nat → Nat} {fe0 us0 κ0 : Nat} (hfe : fe0 ≤ 65535) (hus : us0 ≤ 65535) (h0 : Gl I bud rb qb s D A U rd ev al w0 F0 O0 w0 t0 M0 fe0 us0 F0 O0 κ0) (R : Gv σ) (hR : giveR dev s D A U rd al 65537 t0 M0 fe0 us0 = R) :
    Calls Tryz.prog 72 #[.pointer (some ⟨qb, 0, none⟩), .pointer (some ⟨rb, 0, none⟩), .func (.func df) #[] cap] w0 fun e w' => e = .returned (.int .i64 R.e) ∧ Gend I rb qb s D A U rd ev al w0 F0 O0 R w' := by
  have HB : Hid (D < 18446744073709551616 ∧ A < 18446744073709551616 ∧ U < 18446744073709551616 ∧ Dvc rb df cap dev bud I) := ⟨hD, hA, hU, hd⟩
  have H0 : Hid (Gl I bud rb qb s D A U rd ev al w0 F0 O0 w0 t0 M0 fe0 us0 F0 O0 κ0 ∧ fe0 ≤ 65535 ∧ us0 ≤ 65535 ∧ giveR dev s D A U rd al 65537 t0 M0 fe0 us0 = R) := ⟨h0, hfe, hus, hR⟩
  clear hD hA hU hd h0 hR hfe hus
  go_enter Tryz.func72, Tryz.ntmps72
  go_wp2_with fail
  go_loopw [13] (fun x wr => ∃ (i j : Nat) (t : σ) (M : Nat → Nat) (fe us : Nat) (F O : Nat → Prop) (κ : Nat), x = .int .i64 (i : Int) ∧ i + j = 65537 ∧ fe ≤ 65535 ∧ us ≤ 65535 ∧ Gl I bud rb qb s D A U rd ev al w0 F0 O0 wr t M fe us F O κ ∧ giveR dev s D A U rd al j t M fe us = R) (fun x _ => 65537 - (intOf x).toNat)
  case atStart => exact ⟨0, 65537, t0, M0, fe0, us0, F0, O0, κ0, rfl, rfl, H0.out.2.1, H0.out.2.2.1, H0.out.1, H0.out.2.2.2⟩
  case round =>
    obtain ⟨i, j, t, M, fe, us, F, O, κ, rfl, hij, hfe, hus, hgl, hR⟩ := hrel
    clear H0
    have X0 : Hid (Gl I bud rb qb s D A U rd ev al w0 F0 O0 wr t M fe us F O κ ∧ fe ≤ 65535 ∧ us ≤ 65535 ∧ giveR dev s D A U rd al j t M fe us = R ∧ i + j = 65537) := ⟨hgl, hfe, hus, hR, hij⟩
    clear hgl hfe hus hR
    cases j with
    | zero =>
      have hnot : ¬ (i : Int) < 65537 := by omega
      clear hij
      go_wp2_with fail
      go_ret
      rw [give_zero] at X0
      exact ⟨by rw [← X0.out.2.2.2.1]; rfl, X0.out.1.fin X0.out.2.2.2.1.symm⟩
    | succ j =>
    have hlt : (i : Int) < 65537 := by omega
    have HI : Hid (i < 65537) := by show i < 65537; omega
    clear hij
    obtain ⟨f0, f1, f2, f3, f4, f5, f6, f7, f8⟩ := box9_facts X0.out.1.2.1
    obtain ⟨ft, hft⟩ : ∃ ft, fetchR M s D A U rd fe al = ft := ⟨_, rfl⟩
    cases ft with
    | non e =>
      have HF : Hid (fetchR M s D A U rd fe al = .non e) := hft
      have hRe := X0.out.2.2.2.1
      rw [give_non hft] at hRe
      have HR : Hid (R = ⟨t, M, fe, us, e⟩) := hRe.symm
      clear hft hRe
      go_wp2_with (go_at_call 16; refine (fetch_non X0.out.1.1 X0.out.1.2.1 X0.out.1.2.2.2.2.1 HB.out.1 HB.out.2.1 HB.out.2.2.1 X0.out.2.1 HF.out).mono ?_; rintro e1 w1 ⟨rfl, hq1, hs1⟩; have X1 : Hid (Gl I bud rb qb s D A U rd ev al w0 F0 O0 w1 t M fe us F O κ) := X0.out.1.q HB.out.2.2.2 hs1 hq1; clear hq1 hs1)
      go_ret
      exact ⟨by rw [HR.out]; rfl, (X1.out.below HB.out.2.2.2 (one_box _ _)).fin HR.out⟩
    | got h c =>
    have HF : Hid (fetchR M s D A U rd fe al = .got h c) := hft
    have hle := head_le X0.out.1.1.le HB.out.1 hft
    have HL : Hid (h ≤ 65535 ∧ (∀ s ∈ c.l, SegOk s) ∧ c.l.length ≤ 1000) := hle
    obtain ⟨cl, hcl⟩ : ∃ cl, c.l.length = cl := ⟨_, rfl⟩
    obtain ⟨ta, hta⟩ : ∃ ta, c.ta = ta := ⟨_, rfl⟩
    obtain ⟨tl, htl⟩ : ∃ tl, c.tl = tl := ⟨_, rfl⟩
    obtain ⟨ce, hce⟩ : ∃ ce, c.e = ce := ⟨_, rfl⟩
    have HC : Hid (c.l.length = cl ∧ c.ta = ta ∧ c.tl = tl ∧ c.e = ce) := ⟨hcl, hta, htl, hce⟩
    have KF : Hid (∀ V, Gl I bud rb qb s D A U rd ev al w0 F0 O0 V t M fe us F O κ → Calls Tryz.prog 16 #[.pointer (some ⟨qb, 0, none⟩), .pointer (some ⟨rb, 0, none⟩)] V fun e w' => ∃ a1 c1, e = .returned (.tuple #[.agg #[.int .u16 (h : Int), .slice a1 cl c1, .int .u64 (ta : Int), .int .u64 (tl : Int)], .bool ((ce : Int) == 0), .int .i64 (ce : Int)]) ∧ SegIn V.heap.size w' (.slice a1 cl c1) c.l ∧ Gl I bud rb qb s D A U rd ev al w0 F0 O0 w' t M (upN fe) us F O κ ∧ V.heap.size ≤ w'.heap.size) := by
      intro V hV
      have := fetch_any hV.1 hV.2.1 hV.2.2.2.2.1 HB.out.1 HB.out.2.1 HB.out.2.2.1 X0.out.2.1 HF.out
      rw [hcl, hta, htl, hce] at this
      refine this.mono ?_
      rintro e w' ⟨a1, c1, rfl, hs, hq, hst⟩
      exact ⟨a1, c1, rfl, hs, hV.q HB.out.2.2.2 hst hq, hst.size⟩
    clear hft hle hcl hta htl hce
    go_upto_region 5 with (go_at_call 16; refine (KF.out _ X0.out.1).mono ?_; rintro e w1 ⟨a1, c1, rfl, hs1, hg1, hz1⟩; have X1 : Hid (Gl I bud rb qb s D A U rd ev al w0 F0 O0 w1 t M (upN fe) us F O κ ∧ SegIn wr.heap.size w1 (.slice a1 cl c1) c.l ∧ wr.heap.size ≤ w1.heap.size) := ⟨hg1, hs1, hz1⟩; clear hs1 hg1 hz1 f0 f1 f2 f3 f4 f5 f6 f7 f8)
    have X2 : Hid (Gl I bud rb qb s D A U rd ev al w0 F0 O0 (w1.alloc (.cells #[.int .u16 (h : Int), .slice a1 cl c1, .int .u64 (ta : Int), .int .u64 (tl : Int)] 61)) t M (upN fe) us F O κ ∧ SegIn wr.heap.size (w1.alloc (.cells #[.int .u16 (h : Int), .slice a1 cl c1, .int .u64 (ta : Int), .int .u64 (tl : Int)] 61)) (.slice a1 cl c1) c.l ∧ (w1.alloc (.cells #[.int .u16 (h : Int), .slice a1 cl c1, .int .u64 (ta : Int), .int .u64 (tl : Int)] 61)).heap[w1.heap.size]? = some (.cells #[.int .u16 (h : Int), .slice a1 cl c1, .int .u64 (ta : Int), .int .u64 (tl : Int)] 61 (0, 0)) ∧ wr.heap.size ≤ w1.heap.size) := ⟨X1.out.1.below HB.out.2.2.2 (one_box _ _), X1.out.2.1.kept (fun g hg => (one_box _ _).block g (X1.out.2.1.lt g hg).2), heap_alloc_new _ _, X1.out.2.2⟩
    have HNEW : Hid ((∀ k, F k → ¬ w1.heap.size ≤ k) ∧ ∀ k, O k → ¬ w1.heap.size ≤ k) := ⟨fun k hk hc => by have := X1.out.1.1.lt k hk; omega, fun k hk hc => by have := HB.out.2.2.2.lt X1.out.1.2.2.1 k hk; omega⟩
    have HOLD : Hid ((∀ k, F k → ¬ wr.heap.size ≤ k) ∧ ∀ k, O k → ¬ wr.heap.size ≤ k) := ⟨fun k hk hc => by have := X0.out.1.1.lt k hk; omega, fun k hk hc => by have := HB.out.2.2.2.lt X0.out.1.2.2.1 k hk; omega⟩
    clear X1 KF
    generalize w1.alloc (.cells #[.int .u16 (h : Int), .slice a1 cl c1, .int .u64 (ta : Int), .int .u64 (tl : Int)] 61) = w2 at *
    generalize w1.heap.size = p at *
    obtain ⟨p0, p1, p2, p3⟩ := box4_facts X2.out.2.2.1
    by_cases hz : ce = 0
    case neg =>
      have g1 : ((ce : Int) == 0) = false := by simp; omega
      have hRe := X0.out.2.2.2.1
      rw [give_err HF.out (by rw [HC.out.2.2.2]; exact hz), HC.out.2.2.2] at hRe
      have HR : Hid (R = ⟨t, M, upN fe, us, (ce : Int)⟩) := hRe.symm
      clear hz hRe
      go_wp2_with fail
      go_ret
      exact ⟨by rw [HR.out]; rfl, X2.out.1.fin HR.out⟩
    subst hz
    obtain ⟨dv, hdv⟩ : ∃ dv, dev t M h c = dv := ⟨_, rfl⟩
    have HO : Hid (∀ k, O k → ¬ F k) := fun k hk => (X2.out.1.2.2.2.1 k hk).1
    cases dv with
    | none =>
      have hRe := X0.out.2.2.2.1
      rw [give_stay HF.out HC.out.2.2.2 hdv] at hRe
      have HR : Hid (R = ⟨t, M, fe, us, 0⟩) := hRe.symm
      have KU : Hid (Calls Tryz.prog 97 #[.func (.func df) #[] cap, .agg #[.slice a1 cl c1, .int .u64 (ta : Int), .int .u64 (tl : Int)]] w2 fun e w' => e = .returned (.tuple #[.int .u32 0, .bool false]) ∧ Gl I bud rb qb s D A U rd ev al w0 F0 O0 w' t M (upN fe) us F O κ) := by
        have hs2 := seg_down X2.out.2.1
        rw [← HC.out.1] at hs2
        have := use_no HB.out.2.2.2 hdv X2.out.1.1 X2.out.1.2.2.1 HO.out hs2
        rw [HC.out.1, HC.out.2.1, HC.out.2.2.1] at this
        refine this.mono ?_
        rintro e w' ⟨n, o, G', rfl, hst, rfl, rfl, h3, h4, rfl⟩
        exact ⟨rfl, X2.out.1.same h3 h4 hst⟩
      clear hRe hdv
      go_upto_region 9 with (go_at_call 97; refine (KU.out).mono ?_; rintro e w3 ⟨rfl, hg3⟩; have X3 : Hid (Gl I bud rb qb s D A U rd ev al w0 F0 O0 w3 t M (upN fe) us F O κ) := hg3; clear hg3 p0 p1 p2 p3)
      have cf := frozenOf X3.out.2.1 5
      obtain ⟨f0, f1, f2, f3, f4, f5, f6, f7, f8⟩ := box9_facts X3.out.2.1
      have X4 : Hid (Gl I bud rb qb s D A U rd ev al w0 F0 O0 (w3.setCell ⟨qb, 5, none⟩ (.int .u16 (fe : Int))) t M fe us F O κ) := X3.out.q HB.out.2.2.2 (step_set _ _ _ _) (set_box X3.out.2.1 5 _)
      go_wp2_with fail
      go_ret
      exact ⟨by rw [HR.out]; rfl, X4.out.fin HR.out⟩
    | some tr =>
      obtain ⟨t', M', cnt⟩ := tr
      have hRe := X0.out.2.2.2.1
      rw [give_more HF.out HC.out.2.2.2 hdv] at hRe
      obtain ⟨hrd, n, hsn, hgd, _, _, _, _⟩ := got_facts HB.out.1 HF.out
      have hnat : s.toNat = n := by rw [hsn]; rfl
      rw [hnat] at hRe
      have HR : Hid (giveR dev s D A U rd al j t' (retM M' n U us h cnt) (upN fe) (upN us) = R ∧ s = (n : Int) ∧ Gd n D A U ∧ cnt ≤ 4294967295) := ⟨hRe, hsn, hgd, HB.out.2.2.2.le hdv HL.out.2.1⟩
      have KU : Hid (Calls Tryz.prog 97 #[.func (.func df) #[] cap, .agg #[.slice a1 cl c1, .int .u64 (ta : Int), .int .u64 (tl : Int)]] w2 fun e w' => ∃ (F' O' : Nat → Prop) (κ' : Nat), e = .returned (.tuple #[.int .u32 (cnt : Int), .bool true]) ∧ Gl I bud rb qb s D A U rd ev al w0 F0 O0 w' t' M' (upN fe) us F' O' κ' ∧ κ' + 10 + bud t' ≤ 900000 ∧ w'.heap[p]? = some (.cells #[.int .u16 (h : Int), .slice a1 cl c1, .int .u64 (ta : Int), .int .u64 (tl : Int)] 61 (0, 0))) := by
        have hs2 := seg_down X2.out.2.1
        rw [← HC.out.1] at hs2
        have := use_yes HB.out.2.2.2 hdv X2.out.1.1 X2.out.1.2.2.2.2.2.1 X2.out.1.2.2.1 HO.out hs2 (fun g hg => by
          rw [HC.out.1] at hg
          have hlt := (X2.out.2.1.lt g hg).1
          exact ⟨fun hf => HOLD.out.1 g hf hlt, fun ho => HOLD.out.2 g ho hlt⟩) HL.out.2.2 HL.out.2.1
        rw [HC.out.1, HC.out.2.1, HC.out.2.2.1] at this
        refine this.mono ?_
        rintro e w' ⟨n1, o, G', rfl, hst, rfl, rfl, F', O', κ', h3, h4, h5, rfl, h6⟩
        have := Gl.did HB.out.2.2.2 X2.out.1 h3 h4 h5 hst h6
        exact ⟨F', O', κ', rfl, this.1, this.2, step_box hst X2.out.2.2.1 (fun hc => hc.elim (fun hf => HNEW.out.1 p hf (Nat.le_refl _)) (fun ho => HNEW.out.2 p ho (Nat.le_refl _)))⟩
      clear hRe hdv hrd hsn hgd hnat
      go_upto_region 11 with (go_at_call 97; refine (KU.out).mono ?_; rintro e w3 ⟨F3, O3, κ3, rfl, hg3, hk3, hp3⟩; have X3 : Hid (Gl I bud rb qb s D A U rd ev al w0 F0 O0 w3 t' M' (upN fe) us F3 O3 κ3 ∧ κ3 + 10 + bud t' ≤ 900000 ∧ w3.heap[p]? = some (.cells #[.int .u16 (h : Int), .slice a1 cl c1, .int .u64 (ta : Int), .int .u64 (tl : Int)] 61 (0, 0))) := ⟨hg3, hk3, hp3⟩; clear hg3 hk3 hp3 p0 p1 p2 p3)
      obtain ⟨p0, p1, p2, p3⟩ := box4_facts X3.out.2.2
      have KR : Hid (Calls Tryz.prog 21 #[.pointer (some ⟨qb, 0, none⟩), .pointer (some ⟨rb, 0, none⟩), .int .u16 (h : Int), .int .u32 (cnt : Int)] w3 fun e w' => e = .returned (.tuple #[]) ∧ ∃ F', Gl I bud rb qb s D A U rd ev al w0 F0 O0 w' t' (retM M' n U us h cnt) (upN fe) (upN us) F' O3 (κ3 + 10)) := by
        have hx := X3.out.1
        obtain ⟨hRR, hsn, hgd, hcn⟩ := HR.out
        rw [hsn] at hx ⊢
        refine (return_any hx.1 hx.2.1 hgd hx.2.2.2.2.1 h cnt X0.out.2.2.1 HL.out.1 hcn (by have := X3.out.2.1; omega)).mono ?_
        rintro e w' ⟨rfl, hq, F', hr, hst, hqF⟩
        exact ⟨rfl, F', hx.ret HB.out.2.2.2 hr hq hst hqF X3.out.2.1⟩
      go_wp2_with (go_at_call 21; refine (KR.out).mono ?_; rintro e w4 ⟨rfl, F4, hg4⟩; have X4 : Hid (Gl I bud rb qb s D A U rd ev al w0 F0 O0 w4 t' (retM M' n U us h cnt) (upN fe) (upN us) F4 O3 (κ3 + 10)) := hg4; clear hg4 p0 p1 p2 p3)
      clear hlt
      go_roundw
      case rel => exact ⟨i + 1, j, t', retM M' n U us h cnt, upN fe, upN us, F4, O3, κ3 + 10, by (try rw [wrap_round i HI.out]); go_num, by have := X0.out.2.2.2.2; omega, up_le _, up_le _, X4.out, HR.out.1⟩
      case measure => simp [intOf, wrap_round i HI.out]; have := HI.out; omega
end
end Go.Proofs.YtmjdnocilbnoaaaGreat
