/- Package sv39: Bare, Proper, and what a walk comes to by an entry that leads to memory. -/
import Derived.Test.YtalgidnmmghejaaSq
namespace Go.Proofs.Ytalgidnmmghejaa
open Go.RowKit
set_option linter.unusedVariables false
set_option linter.unusedSimpArgs false
set_option maxRecDepth 100000
def sx39 (x : Nat) : Nat := if x % 549755813888 < 274877906944 then x % 549755813888 else x % 549755813888 + 18446743523953737728
theorem sext39_any (x : Nat) (hx : x < 18446744073709551616) (w : World) : Calls Try.prog 50 #[.int .u64 (x : Int), .int .i64 39] w fun e w' => e = .returned (.int .u64 (sx39 x : Nat)) ∧ w' = w := by
  have H : Hid (IntKind.u64.wrap (wrap64 (IntKind.u64.wrap ((x : Int) * 33554432)) / 33554432) = ((sx39 x : Nat) : Int)) := by
    show IntKind.u64.wrap (wrap64 (IntKind.u64.wrap ((x : Int) * 33554432)) / 33554432) = ((sx39 x : Nat) : Int)
    unfold sx39
    simp only [E.wrap_u64, wrap64]
    split <;> omega
  clear hx
  go_enter Try.func50, Try.ntmps50
  go_wp2
  go_ret
  exact ⟨by rw [← H.out]; rfl, rfl⟩
theorem prop_eq (x : Nat) (hx : x < 18446744073709551616) : ((sx39 x : Int) == (x : Int)) = propB x := by
  have h := E.getN_in x 38 26 (by omega)
  rw [show ((38 : Nat) : Int) = 38 from rfl, show (min (26 : Int) 64).toNat = 26 from by decide] at h
  unfold propB
  rw [h, Bool.eq_iff_iff]
  simp only [beq_iff_eq, Bool.or_eq_true]
  unfold sx39
  split <;> omega
theorem proper_any (x : Nat) (hx : x < 18446744073709551616) (W w : World) (hb : Below W.heap.size W w) : Calls Try.prog 21 #[.int .u64 (x : Int)] w fun e w' => e = .returned (.bool (propB x)) ∧ Below W.heap.size W w' := by
  have H : Hid _ := prop_eq x hx
  have c : ∀ V, Calls Try.prog 50 #[.int .u64 (x : Int), .int .i64 39] V fun e w' => e = .returned (.int .u64 (sx39 x : Nat)) ∧ w' = V := fun V => sext39_any x hx V
  generalize sx39 x = y at *
  go_enter Try.func21, Try.ntmps21
  go_wp2_with fail
  refine (c _).mono ?_
  rintro e w1 ⟨rfl, hw⟩
  rw [hw]
  go_wp2_with fail
  go_ret
  exact ⟨by rw [← H.out]; rfl, hb⟩
theorem bare_any (satp : Nat) (kind mode : Int) (sum mxr : Bool) (hs : satp < 18446744073709551616) (W w : World) (hb : Below W.heap.size W w) : Calls Try.prog 19 #[.agg #[.int .u64 (satp : Nat), .int .i64 kind, .int .i64 mode, .bool sum, .bool mxr]] w fun e w' => e = .returned (.bool (bareB satp mode)) ∧ Below W.heap.size W w' := by
  have c : ∀ V, Below W.heap.size W V → Calls Try.prog 33 #[.int .u64 (satp : Int), .int .i64 60, .int .i64 4] V fun e w' => e = .returned (.int .u64 (E.getN satp 60 4 : Nat)) ∧ Below W.heap.size W w' := fun V h => E.get_all satp 60 4 hs W V h
  have hb0 : Below W.heap.size W (w.alloc (.cells #[.int .u64 (satp : Nat), .int .i64 kind, .int .i64 mode, .bool sum, .bool mxr] 40)) := hb.alloc hb.size _
  unfold bareB
  generalize E.getN satp 60 4 = g at *
  by_cases m3 : mode = 3
  · have mb : (mode == 3) = true := by simp [m3]
    have M3 : Hid (mode = 3) := m3
    clear m3
    go_enter Try.func19, Try.ntmps19
    go_wp2_with fail
    go_ret
    exact ⟨by simp [M3.out], by assumption⟩
  · have mb : (mode == 3) = false := by simp [m3]
    by_cases hg : g = 8
    · subst hg
      go_enter Try.func19, Try.ntmps19
      go_wp2_with fail
      refine (c _ (by assumption)).mono ?_
      rintro e w1 ⟨rfl, hb1⟩
      go_wp2_with fail
      go_ret
      exact ⟨by simp [mb], by assumption⟩
    · have h2 : ((g : Int) == 8) = false := by simp; omega
      have h3 : ¬ (g : Int) = 8 := by omega
      have h4 : Hid ((g == 8) = false) := by show (g == 8) = false; simp [hg]
      clear hg
      go_enter Try.func19, Try.ntmps19
      go_wp2_with fail
      refine (c _ (by assumption)).mono ?_
      rintro e w1 ⟨rfl, hb1⟩
      go_wp2_with fail
      go_ret
      exact ⟨by simp [mb, h4.out, h3], by assumption⟩
/-- two boxes lie ahead of all that is new -/
def Two (t s : TypeId) (w V : World) (c d : Array Value) : Prop := V.heap[w.heap.size]? = some (.cells c t (0, 0)) ∧ V.heap[w.heap.size + 1]? = some (.cells d s (0, 0)) ∧ Below w.heap.size w V
theorem Two.step {t s : TypeId} {w V V' : World} {c d : Array Value} (h : Two t s w V c d) (hb : Below V.heap.size V V') : Two t s w V' c d := ⟨below_box h.1 hb, below_box h.2.1 hb, h.2.2.trans (hb.mono h.2.2.size)⟩
theorem Two.drew {t s : TypeId} {w V : World} {c d : Array Value} (h : Two t s w V c d) : Two t s w V.drew c d := h.step (Below.drew (Below.refl _ _))
theorem Two.new (t s : TypeId) (w : World) (c d : Array Value) : Two t s w ((w.alloc (.cells c t)).alloc (.cells d s)) c d := by
  have h1 := heap_alloc_new w (.cells c t)
  have h2 := heap_alloc_new (w.alloc (.cells c t)) (.cells d s)
  have hs : (w.alloc (.cells c t)).heap.size = w.heap.size + 1 := by simp
  rw [hs] at h2
  have b1 : Below w.heap.size w (w.alloc (.cells c t)) := (Below.refl _ _).alloc (Nat.le_refl _) _
  have b2 : Below (w.alloc (.cells c t)).heap.size (w.alloc (.cells c t)) ((w.alloc (.cells c t)).alloc (.cells d s)) := (Below.refl _ _).alloc (Nat.le_refl _) _
  exact ⟨below_box h1 b2, h2, b1.trans (b2.mono b1.size)⟩
theorem set_four {w V : World} {b : Nat} (h : Below w.heap.size w V) (hb : w.heap.size ≤ b) (v0 v1 v2 v3 : Value) : Below w.heap.size w ((((V.setCell ⟨b, 0, none⟩ v0).setCell ⟨b, 1, none⟩ v1).setCell ⟨b, 2, none⟩ v2).setCell ⟨b, 3, none⟩ v3) :=
  (((h.setCell (p := ⟨b, 0, none⟩) hb _).setCell (p := ⟨b, 1, none⟩) hb _).setCell (p := ⟨b, 2, none⟩) hb _).setCell (p := ⟨b, 3, none⟩) hb _
set_option maxHeartbeats 1000000 in
theorem arrive_core (satp : Nat) (kind mode : Int) (sum mxr : Bool) (x va l p : Nat) (A : Bool) (g y : Nat) (hl : l ≤ 2) (hp : p < 17592186044416) (w : World)
    (ca : ∀ V, Calls Try.prog 72 #[.agg #[.int .u64 (satp : Nat), .int .i64 kind, .int .i64 mode, .bool sum, .bool mxr], .int .u64 (x : Nat)] V fun e w' => e = .returned (.bool A) ∧ Below V.heap.size V w')
    (cn : ∀ V, Calls Try.prog 39 #[.int .u64 (x : Int)] V fun e w' => e = .returned (.int .u64 (p : Nat)) ∧ Below V.heap.size V w')
    (cg : ∀ V, Calls Try.prog 33 #[.int .u64 (p : Int), .int .i64 0, .int .i64 (9 * (l : Int))] V fun e w' => e = .returned (.int .u64 (g : Nat)) ∧ Below V.heap.size V w')
    (cp : g = 0 → ∀ V, Calls Try.prog 56 #[.int .u64 ((p * 4096 : Nat) : Int), .int .i64 0, .int .i64 (12 + 9 * (l : Int)), .int .u64 (va : Int)] V fun e w' => e = .returned (.int .u64 (y : Nat)) ∧ w' = V) :
    Calls Try.prog 38 #[.agg #[.int .u64 (satp : Nat), .int .i64 kind, .int .i64 mode, .bool sum, .bool mxr], .int .u64 (x : Nat), .int .u64 (va : Nat), .int .i64 (l : Int)] w fun e w' => e = .returned (.agg (resC (if (A && (g == 0)) = true then (y, false, false, 3 - l) else badR (3 - l)))) ∧ Below w.heap.size w w' := by
  have e3 : (3 : Int) - (l : Int) = ((3 - l : Nat) : Int) := by omega
  have hq : ((p * 4096 : Nat) : Int) = (p : Int) * 4096 := by omega
  have hw : IntKind.u64.wrap ((p : Int) * 4096) = (p : Int) * 4096 := by rw [E.wrap_u64]; omega
  have hpf : ∀ V, Calls Try.prog 32 #[.int .i64 ((3 - l : Nat) : Int)] V fun e w' => e = .returned (.agg (resC (badR (3 - l)))) ∧ Below V.heap.size V w' := fun V => pageFault_any (3 - l) V V (Below.refl _ _)
  rw [← e3] at hpf
  rw [hq] at cp
  have HQ : Hid _ := e3
  clear e3 hq
  cases A
  · rw [Bool.false_and, if_neg (by simp)]
    have hR : Hid (Ending.returned (.agg #[.int .u64 0, .bool true, .bool true, .int .i64 (3 - (l : Int))]) = Ending.returned (.agg (resC (badR (3 - l))))) := by
      show _ = _
      rw [HQ.out]; rfl
    have hR2 : Hid (Value.agg (resC (badR (3 - l))) = .agg #[.int .u64 0, .bool true, .bool true, .int .i64 (3 - (l : Int))]) := by
      show _ = _
      rw [HQ.out]; rfl
    rw [hR2.out] at hpf ⊢
    clear cn cg cp
    have X0 : Hid (Two 40 36 w ((w.alloc (.cells #[.int .u64 (satp : Nat), .int .i64 kind, .int .i64 mode, .bool sum, .bool mxr] 40)).alloc (.cells #[.int .u64 0, .bool false, .bool false, .int .i64 0] 36)) #[.int .u64 (satp : Nat), .int .i64 kind, .int .i64 mode, .bool sum, .bool mxr] #[.int .u64 0, .bool false, .bool false, .int .i64 0]) := Two.new _ _ _ _ _
    go_enter Try.func38, Try.ntmps38
    go_upto_region 1 with fail
    generalize (w.alloc (.cells #[.int .u64 (satp : Nat), .int .i64 kind, .int .i64 mode, .bool sum, .bool mxr] 40)).alloc (.cells #[.int .u64 0, .bool false, .bool false, .int .i64 0] 36) = V0 at *
    have f0 := cellOf X0.out.1 0 _ rfl
    have f1 := cellOf X0.out.1 1 _ rfl
    have f2 := cellOf X0.out.1 2 _ rfl
    have f3 := cellOf X0.out.1 3 _ rfl
    have f4 := cellOf X0.out.1 4 _ rfl
    go_wp2_with fail
    refine (ca _).mono ?_
    rintro e w1 ⟨rfl, hb⟩
    have X1 : Hid (Two 40 36 w w1 #[.int .u64 (satp : Nat), .int .i64 kind, .int .i64 mode, .bool sum, .bool mxr] #[.int .u64 0, .bool false, .bool false, .int .i64 0]) := X0.out.step hb
    clear hb
    go_wp2_with fail
    refine (hpf _).mono ?_
    rintro e w2 ⟨rfl, hb⟩
    have X2 : Hid (Two 40 36 w w2 #[.int .u64 (satp : Nat), .int .i64 kind, .int .i64 mode, .bool sum, .bool mxr] #[.int .u64 0, .bool false, .bool false, .int .i64 0]) := X1.out.step hb
    clear hb
    have d0 := cellOf X2.out.2.1 0 _ rfl
    have z0 := frozenOf X2.out.2.1 0
    have d1 := cellOf X2.out.2.1 1 _ rfl
    have z1 := frozenOf X2.out.2.1 1
    have d2 := cellOf X2.out.2.1 2 _ rfl
    have z2 := frozenOf X2.out.2.1 2
    have d3 := cellOf X2.out.2.1 3 _ rfl
    have z3 := frozenOf X2.out.2.1 3
    go_wp2_with fail
    refine bodyPost_ret (v := .agg #[.int .u64 0, .bool true, .bool true, .int .i64 (3 - (l : Int))]) (by simp [results, Try.results38, go_sem, d0, d1, d2, d3]) rfl ⟨rfl, ?_⟩
    exact set_four X2.out.2.2 (by omega) _ _ _ _
  · by_cases hg : g = 0
    · have cp2 := cp hg
      clear cp
      subst hg
      rw [if_pos (by simp)]
      have hR : Hid (Value.agg (resC (y, false, false, 3 - l)) = .agg #[.int .u64 (y : Nat), .bool false, .bool false, .int .i64 (3 - (l : Int))]) := by
        show _ = _
        rw [HQ.out]; rfl
      rw [hR.out]
      clear hpf
      have X0 : Hid (Two 40 36 w ((w.alloc (.cells #[.int .u64 (satp : Nat), .int .i64 kind, .int .i64 mode, .bool sum, .bool mxr] 40)).alloc (.cells #[.int .u64 0, .bool false, .bool false, .int .i64 0] 36)) #[.int .u64 (satp : Nat), .int .i64 kind, .int .i64 mode, .bool sum, .bool mxr] #[.int .u64 0, .bool false, .bool false, .int .i64 0]) := Two.new _ _ _ _ _
      go_enter Try.func38, Try.ntmps38
      go_upto_region 1 with fail
      generalize (w.alloc (.cells #[.int .u64 (satp : Nat), .int .i64 kind, .int .i64 mode, .bool sum, .bool mxr] 40)).alloc (.cells #[.int .u64 0, .bool false, .bool false, .int .i64 0] 36) = V0 at *
      have f0 := cellOf X0.out.1 0 _ rfl
      have f1 := cellOf X0.out.1 1 _ rfl
      have f2 := cellOf X0.out.1 2 _ rfl
      have f3 := cellOf X0.out.1 3 _ rfl
      have f4 := cellOf X0.out.1 4 _ rfl
      go_wp2_with fail
      refine (ca _).mono ?_
      rintro e w1 ⟨rfl, hb⟩
      have X1 : Hid (Two 40 36 w w1 #[.int .u64 (satp : Nat), .int .i64 kind, .int .i64 mode, .bool sum, .bool mxr] #[.int .u64 0, .bool false, .bool false, .int .i64 0]) := X0.out.step hb
      clear hb
      go_wp2_with fail
      refine (cn _).mono ?_
      rintro e w2 ⟨rfl, hb⟩
      have X2 : Hid (Two 40 36 w w2 #[.int .u64 (satp : Nat), .int .i64 kind, .int .i64 mode, .bool sum, .bool mxr] #[.int .u64 0, .bool false, .bool false, .int .i64 0]) := X1.out.step hb
      clear hb
      go_wp2_with fail
      refine (cg _).mono ?_
      rintro e w3 ⟨rfl, hb⟩
      have X3 : Hid (Two 40 36 w w3 #[.int .u64 (satp : Nat), .int .i64 kind, .int .i64 mode, .bool sum, .bool mxr] #[.int .u64 0, .bool false, .bool false, .int .i64 0]) := X2.out.step hb
      clear hb
      go_wp2_with fail
      refine (cn _).mono ?_
      rintro e w4 ⟨rfl, hb⟩
      have X4 : Hid (Two 40 36 w w4 #[.int .u64 (satp : Nat), .int .i64 kind, .int .i64 mode, .bool sum, .bool mxr] #[.int .u64 0, .bool false, .bool false, .int .i64 0]) := X3.out.step hb
      clear hb
      go_wp2_with fail
      refine (cp2 _).mono ?_
      rintro e w5 ⟨rfl, hw5⟩
      rw [hw5]
      clear hw5
      have d0 := cellOf X4.out.2.1 0 _ rfl
      have z0 := frozenOf X4.out.2.1 0
      have d1 := cellOf X4.out.2.1 1 _ rfl
      have z1 := frozenOf X4.out.2.1 1
      have d2 := cellOf X4.out.2.1 2 _ rfl
      have z2 := frozenOf X4.out.2.1 2
      have d3 := cellOf X4.out.2.1 3 _ rfl
      have z3 := frozenOf X4.out.2.1 3
      go_wp2_with fail
      refine bodyPost_ret (v := .agg #[.int .u64 (y : Nat), .bool false, .bool false, .int .i64 (3 - (l : Int))]) (by simp [results, Try.results38, go_sem, d0, d1, d2, d3]) rfl ⟨rfl, ?_⟩
      exact set_four X4.out.2.2 (by omega) _ _ _ _
    · have h2 : ((g : Int) == 0) = false := by simp; omega
      have h3 : ¬ (g : Int) = 0 := by omega
      rw [if_neg (by simp [hg])]
      have hR2 : Hid (Value.agg (resC (badR (3 - l))) = .agg #[.int .u64 0, .bool true, .bool true, .int .i64 (3 - (l : Int))]) := by
        show _ = _
        rw [HQ.out]; rfl
      rw [hR2.out] at hpf ⊢
      clear cp hg
      have X0 : Hid (Two 40 36 w ((w.alloc (.cells #[.int .u64 (satp : Nat), .int .i64 kind, .int .i64 mode, .bool sum, .bool mxr] 40)).alloc (.cells #[.int .u64 0, .bool false, .bool false, .int .i64 0] 36)) #[.int .u64 (satp : Nat), .int .i64 kind, .int .i64 mode, .bool sum, .bool mxr] #[.int .u64 0, .bool false, .bool false, .int .i64 0]) := Two.new _ _ _ _ _
      go_enter Try.func38, Try.ntmps38
      go_upto_region 1 with fail
      generalize (w.alloc (.cells #[.int .u64 (satp : Nat), .int .i64 kind, .int .i64 mode, .bool sum, .bool mxr] 40)).alloc (.cells #[.int .u64 0, .bool false, .bool false, .int .i64 0] 36) = V0 at *
      have f0 := cellOf X0.out.1 0 _ rfl
      have f1 := cellOf X0.out.1 1 _ rfl
      have f2 := cellOf X0.out.1 2 _ rfl
      have f3 := cellOf X0.out.1 3 _ rfl
      have f4 := cellOf X0.out.1 4 _ rfl
      go_wp2_with fail
      refine (ca _).mono ?_
      rintro e w1 ⟨rfl, hb⟩
      have X1 : Hid (Two 40 36 w w1 #[.int .u64 (satp : Nat), .int .i64 kind, .int .i64 mode, .bool sum, .bool mxr] #[.int .u64 0, .bool false, .bool false, .int .i64 0]) := X0.out.step hb
      clear hb
      go_wp2_with fail
      refine (cn _).mono ?_
      rintro e w2 ⟨rfl, hb⟩
      have X2 : Hid (Two 40 36 w w2 #[.int .u64 (satp : Nat), .int .i64 kind, .int .i64 mode, .bool sum, .bool mxr] #[.int .u64 0, .bool false, .bool false, .int .i64 0]) := X1.out.step hb
      clear hb
      go_wp2_with fail
      refine (cg _).mono ?_
      rintro e w3 ⟨rfl, hb⟩
      have X3 : Hid (Two 40 36 w w3 #[.int .u64 (satp : Nat), .int .i64 kind, .int .i64 mode, .bool sum, .bool mxr] #[.int .u64 0, .bool false, .bool false, .int .i64 0]) := X2.out.step hb
      clear hb
      go_wp2_with fail
      refine (hpf _).mono ?_
      rintro e w4 ⟨rfl, hb⟩
      have X4 : Hid (Two 40 36 w w4 #[.int .u64 (satp : Nat), .int .i64 kind, .int .i64 mode, .bool sum, .bool mxr] #[.int .u64 0, .bool false, .bool false, .int .i64 0]) := X3.out.step hb
      clear hb
      have d0 := cellOf X4.out.2.1 0 _ rfl
      have z0 := frozenOf X4.out.2.1 0
      have d1 := cellOf X4.out.2.1 1 _ rfl
      have z1 := frozenOf X4.out.2.1 1
      have d2 := cellOf X4.out.2.1 2 _ rfl
      have z2 := frozenOf X4.out.2.1 2
      have d3 := cellOf X4.out.2.1 3 _ rfl
      have z3 := frozenOf X4.out.2.1 3
      go_wp2_with fail
      refine bodyPost_ret (v := .agg #[.int .u64 0, .bool true, .bool true, .int .i64 (3 - (l : Int))]) (by simp [results, Try.results38, go_sem, d0, d1, d2, d3]) rfl ⟨rfl, ?_⟩
      exact set_four X4.out.2.2 (by omega) _ _ _ _
theorem arrive_any (satp : Nat) (kind mode : Int) (sum mxr : Bool) (x va l : Nat) (hx : x < 18446744073709551616) (hva : va < 18446744073709551616) (hl : l ≤ 2) (W w : World) (hb : Below W.heap.size W w) : Calls Try.prog 38 #[.agg #[.int .u64 (satp : Nat), .int .i64 kind, .int .i64 mode, .bool sum, .bool mxr], .int .u64 (x : Nat), .int .u64 (va : Nat), .int .i64 (l : Int)] w fun e w' => e = .returned (.agg (resC (arrR kind mode sum mxr x va l))) ∧ Below W.heap.size W w' := by
  have hp := numN_lt x
  have h9 : ((9 * l : Nat) : Int) = 9 * (l : Int) := by omega
  have h12 : ((12 + 9 * l : Nat) : Int) = 12 + 9 * (l : Int) := by omega
  refine (arrive_core satp kind mode sum mxr x va l (numN x) (alwB kind mode sum mxr x) (E.getN (numN x) 0 (9 * l : Nat)) (numN x * 4096 + E.getN va 0 (12 + 9 * l : Nat)) hl hp w
    (fun V => allowed_any satp kind mode sum mxr x hx V V (Below.refl _ _)) (fun V => number_any x hx V V (Below.refl _ _)) (fun V => ?_) (fun hg V => ?_)).mono fun e w' ⟨he, hw⟩ => ⟨he, hb.trans (hw.mono hb.size)⟩
  · rw [← h9]; exact E.get_all (numN x) 0 (9 * l : Nat) (by omega) V V (Below.refl _ _)
  · rw [← h12, ← put_low (numN x) va l hl hp hg]; exact E.put_any (numN x * 4096) 0 (12 + 9 * l : Nat) va (by omega) V
end Go.Proofs.Ytalgidnmmghejaa
