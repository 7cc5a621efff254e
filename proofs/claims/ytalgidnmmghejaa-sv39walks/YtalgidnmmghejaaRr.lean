/- The document's walk from a table on. -/
import Derived.Test.YtalgidnmmghejaaRq
import Derived.Test.YtalgidnmmghejaaSs
namespace Go.Proofs.Ytalgidnmmghejaa
open Go.RowKit Go.Maps
set_option linter.unusedVariables false
set_option linter.unusedSimpArgs false
set_option maxRecDepth 100000
/-- three boxes lie ahead of all that is new -/
def Thr (w V : World) (c d e : Array Value) : Prop := V.heap[w.heap.size]? = some (.cells c 30 (0, 0)) ∧ V.heap[w.heap.size + 1]? = some (.cells d 25 (0, 0)) ∧ V.heap[w.heap.size + 1 + 1]? = some (.cells e 42 (0, 0)) ∧ Below w.heap.size w V
theorem Thr.step {w V V' : World} {c d e : Array Value} (h : Thr w V c d e) (hb : Below V.heap.size V V') : Thr w V' c d e := ⟨below_box h.1 hb, below_box h.2.1 hb, below_box h.2.2.1 hb, h.2.2.2.trans (hb.mono h.2.2.2.size)⟩
theorem Thr.new (w : World) (c d e : Array Value) : Thr w (((w.alloc (.cells c 30)).alloc (.cells d 25)).alloc (.cells e 42)) c d e := by
  have T := Two.new 30 25 w c d
  have h3 := heap_alloc_new ((w.alloc (.cells c 30)).alloc (.cells d 25)) (.cells e 42)
  have hs : ((w.alloc (.cells c 30)).alloc (.cells d 25)).heap.size = w.heap.size + 2 := by simp
  have b2 : Below ((w.alloc (.cells c 30)).alloc (.cells d 25)).heap.size ((w.alloc (.cells c 30)).alloc (.cells d 25)) (((w.alloc (.cells c 30)).alloc (.cells d 25)).alloc (.cells e 42)) := (Below.refl _ _).alloc (Nat.le_refl _) _
  rw [hs] at h3
  exact ⟨below_box T.1 b2, below_box T.2.1 b2, h3, T.2.2.trans (b2.mono T.2.2.size)⟩
/-- .. and one more behind them -/
def Fou (w V : World) (bb : Nat) (c d e f : Array Value) : Prop := Thr w V c d e ∧ V.heap[bb]? = some (.cells f 42 (0, 0)) ∧ w.heap.size + 3 ≤ bb
theorem Fou.step {w V V' : World} {bb : Nat} {c d e f : Array Value} (h : Fou w V bb c d e f) (hb : Below V.heap.size V V') : Fou w V' bb c d e f := ⟨h.1.step hb, below_box h.2.1 hb, h.2.2⟩
theorem Fou.new {w V : World} {c d e : Array Value} (h : Thr w V c d e) (f : Array Value) : Fou w (V.alloc (.cells f 42)) V.heap.size c d e f := by
  have hb : Below V.heap.size V (V.alloc (.cells f 42)) := (Below.refl _ _).alloc (Nat.le_refl _) _
  exact ⟨h.step hb, heap_alloc_new V _, by have := (Array.getElem?_eq_some_iff.1 h.2.2.1).1; omega⟩
set_option maxHeartbeats 4000000 in
theorem ddown_core (satp : Nat) (kind mode : Int) (sum mxr : Bool) (s : Nat) (a : Option Addr) (n c va t l g lv p h0 low : Nat) (pb ob lb A : Bool) (r : Res) (hl : l ≤ 2) (ht : t < 17592186044416) (hg : g < 512) (hp : p < 17592186044416) (hlow : low < 1073741824) (w : World)
    (G : World → Prop) (hG : ∀ V V', G V → Below V.heap.size V V' → G V') (hGw : G w)
    (c17 : ∀ V, Calls Try.prog 17 #[.int .u64 (va : Int), .int .i64 (12 + 9 * (l : Int)), .int .i64 9] V fun e w' => e = .returned (.int .u64 (g : Nat)) ∧ Below V.heap.size V w')
    (cld : ∀ V, G V → Calls Try.prog 73 #[.agg #[.int .u64 (s : Nat), .slice a n c], .int .u64 ((t : Int) * 4096 + 8 * (g : Int)), .int .i64 8] V fun e w' => e = .returned (.tuple #[.int .u64 (lv : Nat), .bool pb]) ∧ Below V.heap.size V w')
    (cn : ∀ V, Calls Try.prog 17 #[.int .u64 (lv : Int), .int .i64 10, .int .i64 44] V fun e w' => e = .returned (.int .u64 (p : Nat)) ∧ Below V.heap.size V w')
    (co : ∀ V, Calls Try.prog 74 #[.int .u64 (lv : Int)] V fun e w' => e = .returned (.bool ob) ∧ Below V.heap.size V w')
    (cle : ∀ V, Calls Try.prog 75 #[.int .u64 (lv : Int)] V fun e w' => e = .returned (.bool lb) ∧ Below V.heap.size V w')
    (ca : ∀ V, Calls Try.prog 76 #[.agg #[.int .u64 (satp : Nat), .int .i64 kind, .int .i64 mode, .bool sum, .bool mxr], .int .u64 (lv : Int)] V fun e w' => e = .returned (.bool A) ∧ Below V.heap.size V w')
    (ch : ∀ V, Calls Try.prog 17 #[.int .u64 ((p : Int) * 4096), .int .i64 0, .int .i64 (12 + 9 * (l : Int))] V fun e w' => e = .returned (.int .u64 (h0 : Nat)) ∧ Below V.heap.size V w')
    (cv : ∀ V, Calls Try.prog 17 #[.int .u64 (va : Int), .int .i64 0, .int .i64 (12 + 9 * (l : Int))] V fun e w' => e = .returned (.int .u64 (low : Nat)) ∧ Below V.heap.size V w')
    (cr : l ≠ 0 → ∀ V, G V → Calls Try.prog 40 #[.agg #[.int .u64 (s : Nat), .slice a n c], .agg #[.int .u64 (satp : Nat), .int .i64 kind, .int .i64 mode, .bool sum, .bool mxr], .int .u64 (va : Int), .int .u64 ((p : Int) * 4096), .int .i64 ((l : Int) - 1)] V fun e w' => e = .returned (.agg (resC r)) ∧ Below V.heap.size V w')
    (R : Res) (hR : Hid (R = (if pb = false then (0, true, false, 2 - l) else if ob = true then badR (3 - l) else if lb = true then (if (A && (h0 == 0)) = true then (p * 4096 + low, false, false, 3 - l) else badR (3 - l)) else if l = 0 then badR 3 else r))) :
    Calls Try.prog 40 #[.agg #[.int .u64 (s : Nat), .slice a n c], .agg #[.int .u64 (satp : Nat), .int .i64 kind, .int .i64 mode, .bool sum, .bool mxr], .int .u64 (va : Int), .int .u64 ((t : Int) * 4096), .int .i64 (l : Int)] w fun e w' => e = .returned (.agg (resC R)) ∧ Below w.heap.size w w' := by
  have X0 : Hid (Thr w (((w.alloc (.cells #[.int .u64 (s : Nat), .slice a n c] 30)).alloc (.cells #[.int .u64 (satp : Nat), .int .i64 kind, .int .i64 mode, .bool sum, .bool mxr] 25)).alloc (.cells #[.int .u64 0, .bool false, .bool false, .int .i64 0] 42)) #[.int .u64 (s : Nat), .slice a n c] #[.int .u64 (satp : Nat), .int .i64 kind, .int .i64 mode, .bool sum, .bool mxr] #[.int .u64 0, .bool false, .bool false, .int .i64 0]) := Thr.new _ _ _ _
  have hw1 : IntKind.i64.wrap (9 * (l : Int)) = 9 * (l : Int) := by simp [IntKind.wrap, IntKind.signed, IntKind.bits]; omega
  have hw2 : IntKind.i64.wrap (12 + 9 * (l : Int)) = 12 + 9 * (l : Int) := by simp [IntKind.wrap, IntKind.signed, IntKind.bits]; omega
  have hw3 : IntKind.u64.wrap (8 * (g : Int)) = 8 * (g : Int) := by rw [E.wrap_u64]; omega
  have hw4 : IntKind.u64.wrap ((t : Int) * 4096 + 8 * (g : Int)) = (t : Int) * 4096 + 8 * (g : Int) := by rw [E.wrap_u64]; omega
  have HGx : Hid (∀ V, Below w.heap.size w V → G V) := fun V hV => hG _ _ hGw hV
  have HL3 : Hid ((3 : Int) - (l : Int) = ((3 - l : Nat) : Int)) := by show (3 : Int) - (l : Int) = ((3 - l : Nat) : Int); omega
  have HL2 : Hid ((2 : Int) - (l : Int) = ((2 - l : Nat) : Int)) := by show (2 : Int) - (l : Int) = ((2 - l : Nat) : Int); omega
  have HCR : Hid (l ≠ 0 → ∀ V, G V → Calls Try.prog 40 #[.agg #[.int .u64 (s : Nat), .slice a n c], .agg #[.int .u64 (satp : Nat), .int .i64 kind, .int .i64 mode, .bool sum, .bool mxr], .int .u64 (va : Int), .int .u64 ((p : Int) * 4096), .int .i64 ((l : Int) - 1)] V fun e w' => e = .returned (.agg (resC r)) ∧ Below V.heap.size V w') := cr
  clear cr
  go_enter Try.func40, Try.ntmps40
  go_upto_region 1 with fail
  generalize (((w.alloc (.cells #[.int .u64 (s : Nat), .slice a n c] 30)).alloc (.cells #[.int .u64 (satp : Nat), .int .i64 kind, .int .i64 mode, .bool sum, .bool mxr] 25)).alloc (.cells #[.int .u64 0, .bool false, .bool false, .int .i64 0] 42)) = V0 at *
  have X0d : Hid (Thr w V0.drew #[.int .u64 (s : Nat), .slice a n c] #[.int .u64 (satp : Nat), .int .i64 kind, .int .i64 mode, .bool sum, .bool mxr] #[.int .u64 0, .bool false, .bool false, .int .i64 0]) := X0.out.step (Below.drew (Below.refl _ _))
  refine wp_region_held_drew (S := fun V => V.cell? ⟨w.heap.size, 0, none⟩ = some (.int .u64 (s : Nat)) ∧ V.cell? ⟨w.heap.size, 1, none⟩ = some (.slice a n c)) (by kernel_rfl) ⟨cellOf X0d.out.1 0 _ rfl, cellOf X0d.out.1 1 _ rfl⟩ ?_
  intro hS
  refine wpAnyH_take (i := 0) (v := ?_) rfl (by kernel_rfl) (by kernel_rfl) (by kernel_rfl) (fun _ _ _ h => h) (Or.inl ⟨by kernel_rfl, ?_⟩) hS ?_
  rotate_left
  · intro w hSw; (try dsimp only at hSw); go_simp; try (with_reducible rfl)
  (try simp only [Act.put, List.getElem_toArray, List.getElem_cons_succ, List.getElem_cons_zero, List.setIfInBounds_toArray, List.set_cons_zero, List.set_cons_succ])
  refine wpAnyH_take (i := 1) (v := ?_) rfl (by kernel_rfl) (by kernel_rfl) (by kernel_rfl) (fun _ _ _ h => h) (Or.inl ⟨by kernel_rfl, ?_⟩) hS ?_
  rotate_left
  · intro w hSw; (try dsimp only at hSw); go_simp; try (with_reducible rfl)
  (try simp only [Act.put, List.getElem_toArray, List.getElem_cons_succ, List.getElem_cons_zero, List.setIfInBounds_toArray, List.set_cons_zero, List.set_cons_succ])
  refine wpAnyH_take (i := 2) (v := ?_) rfl (by kernel_rfl) (by kernel_rfl) (by kernel_rfl) (fun _ _ _ h => h) (Or.inl ⟨by kernel_rfl, ?_⟩) hS ?_
  rotate_left
  · intro w hSw; (try dsimp only at hSw); go_simp; try (with_reducible rfl)
  (try simp only [Act.put, List.getElem_toArray, List.getElem_cons_succ, List.getElem_cons_zero, List.setIfInBounds_toArray, List.set_cons_zero, List.set_cons_succ])
  refine wpAnyH_take (i := 3) (v := ?_) rfl (by kernel_rfl) (by kernel_rfl) (by kernel_rfl) (fun _ _ _ h => h) (Or.inl ⟨by kernel_rfl, ?_⟩) hS ?_
  rotate_left
  · intro w hSw; (try dsimp only at hSw); go_simp; try (with_reducible rfl)
  (try simp only [Act.put, List.getElem_toArray, List.getElem_cons_succ, List.getElem_cons_zero, List.setIfInBounds_toArray, List.set_cons_zero, List.set_cons_succ])
  refine wpAnyH_take (i := 4) (v := ?_) rfl (by kernel_rfl) (by kernel_rfl) (by kernel_rfl) (fun _ _ _ h => h) (Or.inl ⟨by kernel_rfl, ?_⟩) hS ?_
  rotate_left
  · intro w hSw; (try dsimp only at hSw); go_simp; try (with_reducible rfl)
  (try simp only [Act.put, List.getElem_toArray, List.getElem_cons_succ, List.getElem_cons_zero, List.setIfInBounds_toArray, List.set_cons_zero, List.set_cons_succ])
  refine wpAnyH_take (i := 5) (v := ?_) rfl (by kernel_rfl) (by kernel_rfl) (by kernel_rfl) (fun _ _ _ h => h) (Or.inl ⟨by kernel_rfl, ?_⟩) hS ?_
  rotate_left
  · intro w hSw; (try dsimp only at hSw); go_simp; try (with_reducible rfl)
  (try simp only [Act.put, List.getElem_toArray, List.getElem_cons_succ, List.getElem_cons_zero, List.setIfInBounds_toArray, List.set_cons_zero, List.set_cons_succ])
  refine wpAnyH_ready (rs := [6]) (by kernel_rfl) (by simp) ?_
  refine AllReadyH.cons rfl (fun K1 hK1 => ?_) AllReadyH.nil
  go_simp
  refine (c17 _).mono ?_
  rintro e w11 ⟨rfl, hb⟩
  have X11 : Hid (Thr w w11 #[.int .u64 (s : Nat), .slice a n c] #[.int .u64 (satp : Nat), .int .i64 kind, .int .i64 mode, .bool sum, .bool mxr] #[.int .u64 0, .bool false, .bool false, .int .i64 0]) := X0d.out.step hb
  clear hb
  refine hK1.out _ _ ⟨cellOf X11.out.1 0 _ rfl, cellOf X11.out.1 1 _ rfl⟩ (fun hS11 => ?_)
  clear hK1 K1 hS
  (try simp only [Act.put, List.getElem_toArray, List.getElem_cons_succ, List.getElem_cons_zero, List.setIfInBounds_toArray, List.set_cons_zero, List.set_cons_succ])
  refine wpAnyH_take (i := 7) (v := ?_) rfl (by kernel_rfl) (by kernel_rfl) (by kernel_rfl) (fun _ _ _ h => h) (Or.inl ⟨by kernel_rfl, ?_⟩) hS11 ?_
  rotate_left
  · intro w hSw; (try dsimp only at hSw); go_simp; try (with_reducible rfl)
  (try simp only [Act.put, List.getElem_toArray, List.getElem_cons_succ, List.getElem_cons_zero, List.setIfInBounds_toArray, List.set_cons_zero, List.set_cons_succ])
  refine wpAnyH_take (i := 8) (v := ?_) rfl (by kernel_rfl) (by kernel_rfl) (by kernel_rfl) (fun _ _ _ h => h) (Or.inl ⟨by kernel_rfl, ?_⟩) hS11 ?_
  rotate_left
  · intro w hSw; (try dsimp only at hSw); go_simp; try (with_reducible rfl)
  (try simp only [Act.put, List.getElem_toArray, List.getElem_cons_succ, List.getElem_cons_zero, List.setIfInBounds_toArray, List.set_cons_zero, List.set_cons_succ])
  refine wpAnyH_ready (rs := [9]) (by kernel_rfl) (by simp) ?_
  refine AllReadyH.cons rfl (fun K1 hK1 => ?_) AllReadyH.nil
  go_simp
  refine (cld _ (hG _ _ hGw X11.out.2.2.2)).mono ?_
  rintro e w12 ⟨rfl, hb⟩
  have X12 : Hid (Thr w w12 #[.int .u64 (s : Nat), .slice a n c] #[.int .u64 (satp : Nat), .int .i64 kind, .int .i64 mode, .bool sum, .bool mxr] #[.int .u64 0, .bool false, .bool false, .int .i64 0]) := X11.out.step hb
  clear hb
  refine hK1.out _ _ ⟨cellOf X12.out.1 0 _ rfl, cellOf X12.out.1 1 _ rfl⟩ (fun hS12 => ?_)
  clear hK1 K1 hS11
  (try simp only [Act.put, List.getElem_toArray, List.getElem_cons_succ, List.getElem_cons_zero, List.setIfInBounds_toArray, List.set_cons_zero, List.set_cons_succ])
  refine wpAnyH_take (i := 10) (v := ?_) rfl (by kernel_rfl) (by kernel_rfl) (by kernel_rfl) (fun _ _ _ h => h) (Or.inl ⟨by kernel_rfl, ?_⟩) hS12 ?_
  rotate_left
  · intro w hSw; (try dsimp only at hSw); go_simp; try (with_reducible rfl)
  (try simp only [Act.put, List.getElem_toArray, List.getElem_cons_succ, List.getElem_cons_zero, List.setIfInBounds_toArray, List.set_cons_zero, List.set_cons_succ])
  refine wpAnyH_take (i := 11) (v := ?_) rfl (by kernel_rfl) (by kernel_rfl) (by kernel_rfl) (fun _ _ _ h => h) (Or.inl ⟨by kernel_rfl, ?_⟩) hS12 ?_
  rotate_left
  · intro w hSw; (try dsimp only at hSw); go_simp; try (with_reducible rfl)
  (try simp only [Act.put, List.getElem_toArray, List.getElem_cons_succ, List.getElem_cons_zero, List.setIfInBounds_toArray, List.set_cons_zero, List.set_cons_succ])
  refine wpAnyH_take (i := 12) (v := ?_) rfl (by kernel_rfl) (by kernel_rfl) (by kernel_rfl) (fun _ _ _ h => h) (Or.inl ⟨by kernel_rfl, ?_⟩) hS12 ?_
  rotate_left
  · intro w hSw; (try dsimp only at hSw); go_simp; try (with_reducible rfl)
  (try simp only [Act.put, List.getElem_toArray, List.getElem_cons_succ, List.getElem_cons_zero, List.setIfInBounds_toArray, List.set_cons_zero, List.set_cons_succ])
  refine wpAnyH_take (i := 13) (v := ?_) rfl (by kernel_rfl) (by kernel_rfl) (by kernel_rfl) (fun _ _ _ h => h) (Or.inl ⟨by kernel_rfl, ?_⟩) hS12 ?_
  rotate_left
  · intro w hSw; (try dsimp only at hSw); go_simp; try (with_reducible rfl)
  (try simp only [Act.put, List.getElem_toArray, List.getElem_cons_succ, List.getElem_cons_zero, List.setIfInBounds_toArray, List.set_cons_zero, List.set_cons_succ])
  refine wpAnyH_take (i := 14) (v := ?_) rfl (by kernel_rfl) (by kernel_rfl) (by kernel_rfl) (fun _ _ _ h => h) (Or.inl ⟨by kernel_rfl, ?_⟩) hS12 ?_
  rotate_left
  · intro w hSw; (try dsimp only at hSw); go_simp; try (with_reducible rfl)
  (try simp only [Act.put, List.getElem_toArray, List.getElem_cons_succ, List.getElem_cons_zero, List.setIfInBounds_toArray, List.set_cons_zero, List.set_cons_succ])
  refine wpAnyH_done (by kernel_rfl) ?_ _
  clear hS12
  clear hG hGw c17 cld X0 X0d hw1 hw2 hw3 hw4
  cases pb
  case false =>
    have HR : Hid (R = (0, true, false, 2 - l)) := by show R = _; rw [hR.out, if_pos rfl]
    clear hR cn co cle ca ch cv HCR
    have d0 := cellOf X12.out.2.2.1 0 _ rfl
    have z0 := frozenOf X12.out.2.2.1 0
    have d1 := cellOf X12.out.2.2.1 1 _ rfl
    have z1 := frozenOf X12.out.2.2.1 1
    have d2 := cellOf X12.out.2.2.1 2 _ rfl
    have z2 := frozenOf X12.out.2.2.1 2
    have d3 := cellOf X12.out.2.2.1 3 _ rfl
    have z3 := frozenOf X12.out.2.2.1 3
    go_wp2_with fail
    refine bodyPost_ret (v := .agg #[.int .u64 0, .bool true, .bool false, .int .i64 (2 - (l : Int))]) (by simp [results, Try.results40, go_sem, d0, d1, d2, d3]) rfl ⟨by rw [HR.out, HL2.out]; rfl, ?_⟩
    exact set_four X12.out.2.2.2 (by omega) _ _ _ _
  have H1 : Hid (R = (if ob = true then badR (3 - l) else if lb = true then (if (A && (h0 == 0)) = true then (p * 4096 + low, false, false, 3 - l) else badR (3 - l)) else if l = 0 then badR 3 else r)) := by show R = _; rw [hR.out, if_neg (by simp)]
  clear hR
  go_upto_region 5 with fail
  have X2 : Hid (Fou w (w12.alloc (.cells #[.int .u64 0, .bool true, .bool true, .int .i64 (3 - (l : Int))] 42)) w12.heap.size #[.int .u64 (s : Nat), .slice a n c] #[.int .u64 (satp : Nat), .int .i64 kind, .int .i64 mode, .bool sum, .bool mxr] #[.int .u64 0, .bool false, .bool false, .int .i64 0] #[.int .u64 0, .bool true, .bool true, .int .i64 (3 - (l : Int))]) := Fou.new X12.out _
  generalize w12.heap.size = bb at *
  generalize w12.alloc (.cells #[.int .u64 0, .bool true, .bool true, .int .i64 (3 - (l : Int))] 42) = V2 at *
  clear X12
  go_wp2_with fail
  refine (cn _).mono ?_
  rintro e w3 ⟨rfl, hb⟩
  have X3 : Hid (Fou w w3 bb #[.int .u64 (s : Nat), .slice a n c] #[.int .u64 (satp : Nat), .int .i64 kind, .int .i64 mode, .bool sum, .bool mxr] #[.int .u64 0, .bool false, .bool false, .int .i64 0] #[.int .u64 0, .bool true, .bool true, .int .i64 (3 - (l : Int))]) := X2.out.step hb
  clear hb
  cases ob
  case true =>
    have HR : Hid (R = badR (3 - l)) := by show R = _; rw [H1.out, if_pos rfl]
    clear H1 cle ca ch cv HCR
    go_wp2_with fail
    refine (co _).mono ?_
    rintro e w4 ⟨rfl, hb⟩
    have X4 : Hid (Fou w w4 bb #[.int .u64 (s : Nat), .slice a n c] #[.int .u64 (satp : Nat), .int .i64 kind, .int .i64 mode, .bool sum, .bool mxr] #[.int .u64 0, .bool false, .bool false, .int .i64 0] #[.int .u64 0, .bool true, .bool true, .int .i64 (3 - (l : Int))]) := X3.out.step hb
    clear hb
    have y0 := cellOf X4.out.2.1 0 _ rfl
    have y1 := cellOf X4.out.2.1 1 _ rfl
    have y2 := cellOf X4.out.2.1 2 _ rfl
    have y3 := cellOf X4.out.2.1 3 _ rfl
    have d0 := cellOf X4.out.1.2.2.1 0 _ rfl
    have z0 := frozenOf X4.out.1.2.2.1 0
    have d1 := cellOf X4.out.1.2.2.1 1 _ rfl
    have z1 := frozenOf X4.out.1.2.2.1 1
    have d2 := cellOf X4.out.1.2.2.1 2 _ rfl
    have z2 := frozenOf X4.out.1.2.2.1 2
    have d3 := cellOf X4.out.1.2.2.1 3 _ rfl
    have z3 := frozenOf X4.out.1.2.2.1 3
    go_wp2_with fail
    refine bodyPost_ret (v := .agg #[.int .u64 0, .bool true, .bool true, .int .i64 (3 - (l : Int))]) (by simp [results, Try.results40, go_sem, d0, d1, d2, d3]) rfl ⟨by rw [HR.out, HL3.out]; rfl, ?_⟩
    exact set_four X4.out.1.2.2.2 (by omega) _ _ _ _
  have H2 : Hid (R = (if lb = true then (if (A && (h0 == 0)) = true then (p * 4096 + low, false, false, 3 - l) else badR (3 - l)) else if l = 0 then badR 3 else r)) := by show R = _; rw [H1.out, if_neg (by simp)]
  clear H1
  go_wp2_with fail
  refine (co _).mono ?_
  rintro e w4 ⟨rfl, hb⟩
  have X4 : Hid (Fou w w4 bb #[.int .u64 (s : Nat), .slice a n c] #[.int .u64 (satp : Nat), .int .i64 kind, .int .i64 mode, .bool sum, .bool mxr] #[.int .u64 0, .bool false, .bool false, .int .i64 0] #[.int .u64 0, .bool true, .bool true, .int .i64 (3 - (l : Int))]) := X3.out.step hb
  clear hb
  go_wp2_with fail
  refine (cle _).mono ?_
  rintro e w5 ⟨rfl, hb⟩
  have X5 : Hid (Fou w w5 bb #[.int .u64 (s : Nat), .slice a n c] #[.int .u64 (satp : Nat), .int .i64 kind, .int .i64 mode, .bool sum, .bool mxr] #[.int .u64 0, .bool false, .bool false, .int .i64 0] #[.int .u64 0, .bool true, .bool true, .int .i64 (3 - (l : Int))]) := X4.out.step hb
  clear hb
  cases lb
  case false =>
    clear ca ch cv
    by_cases hl0 : l = 0
    · have HR : Hid (R = badR (3 - l)) := by show R = _; rw [H2.out, if_neg (by simp), if_pos hl0, hl0]
      have l0b : ((l : Int) == 0) = true := by simp [hl0]
      have l0c : (l : Int) = 0 := by omega
      clear H2 HCR hl0 l0c
      have y0 := cellOf X5.out.2.1 0 _ rfl
      have y1 := cellOf X5.out.2.1 1 _ rfl
      have y2 := cellOf X5.out.2.1 2 _ rfl
      have y3 := cellOf X5.out.2.1 3 _ rfl
      have d0 := cellOf X5.out.1.2.2.1 0 _ rfl
      have z0 := frozenOf X5.out.1.2.2.1 0
      have d1 := cellOf X5.out.1.2.2.1 1 _ rfl
      have z1 := frozenOf X5.out.1.2.2.1 1
      have d2 := cellOf X5.out.1.2.2.1 2 _ rfl
      have z2 := frozenOf X5.out.1.2.2.1 2
      have d3 := cellOf X5.out.1.2.2.1 3 _ rfl
      have z3 := frozenOf X5.out.1.2.2.1 3
      go_wp2_with fail
      refine bodyPost_ret (v := .agg #[.int .u64 0, .bool true, .bool true, .int .i64 (3 - (l : Int))]) (by simp [results, Try.results40, go_sem, d0, d1, d2, d3]) rfl ⟨by rw [HR.out, HL3.out]; rfl, ?_⟩
      exact set_four X5.out.1.2.2.2 (by omega) _ _ _ _
    · have HR : Hid (R = r) := by show R = _; rw [H2.out, if_neg (by simp), if_neg hl0]
      have cr := HCR.out hl0
      have l0b : ((l : Int) == 0) = false := by simp; omega
      have l0c : ¬ (l : Int) = 0 := by omega
      clear H2 HCR hl0
      go_wp2_with fail
      refine (cle _).mono ?_
      rintro e w6 ⟨rfl, hb⟩
      have X6 : Hid (Fou w w6 bb #[.int .u64 (s : Nat), .slice a n c] #[.int .u64 (satp : Nat), .int .i64 kind, .int .i64 mode, .bool sum, .bool mxr] #[.int .u64 0, .bool false, .bool false, .int .i64 0] #[.int .u64 0, .bool true, .bool true, .int .i64 (3 - (l : Int))]) := X5.out.step hb
      clear hb
      obtain ⟨r0, r1, r2, r3⟩ := r
      rw [show resC (r0, r1, r2, r3) = #[.int .u64 (r0 : Nat), .bool r1, .bool r2, .int .i64 (r3 : Nat)] from rfl] at cr
      have f0 := cellOf X6.out.1.2.1 0 _ rfl
      have f1 := cellOf X6.out.1.2.1 1 _ rfl
      have f2 := cellOf X6.out.1.2.1 2 _ rfl
      have f3 := cellOf X6.out.1.2.1 3 _ rfl
      have f4 := cellOf X6.out.1.2.1 4 _ rfl
      have q0 := cellOf X6.out.1.1 0 _ rfl
      have q1 := cellOf X6.out.1.1 1 _ rfl
      go_wp2_with fail
      refine (cr _ (HGx.out _ X6.out.1.2.2.2)).mono ?_
      rintro e w7 ⟨rfl, hb⟩
      have X7 : Hid (Fou w w7 bb #[.int .u64 (s : Nat), .slice a n c] #[.int .u64 (satp : Nat), .int .i64 kind, .int .i64 mode, .bool sum, .bool mxr] #[.int .u64 0, .bool false, .bool false, .int .i64 0] #[.int .u64 0, .bool true, .bool true, .int .i64 (3 - (l : Int))]) := X6.out.step hb
      clear hb
      have d0 := cellOf X7.out.1.2.2.1 0 _ rfl
      have z0 := frozenOf X7.out.1.2.2.1 0
      have d1 := cellOf X7.out.1.2.2.1 1 _ rfl
      have z1 := frozenOf X7.out.1.2.2.1 1
      have d2 := cellOf X7.out.1.2.2.1 2 _ rfl
      have z2 := frozenOf X7.out.1.2.2.1 2
      have d3 := cellOf X7.out.1.2.2.1 3 _ rfl
      have z3 := frozenOf X7.out.1.2.2.1 3
      go_wp2_with fail
      refine bodyPost_ret (v := .agg #[.int .u64 (r0 : Nat), .bool r1, .bool r2, .int .i64 (r3 : Nat)]) (by simp [results, Try.results40, go_sem, d0, d1, d2, d3]) rfl ⟨by rw [HR.out]; rfl, ?_⟩
      exact set_four X7.out.1.2.2.2 (by omega) _ _ _ _
  have H3 : Hid (R = (if (A && (h0 == 0)) = true then (p * 4096 + low, false, false, 3 - l) else badR (3 - l))) := by show R = _; rw [H2.out, if_pos rfl]
  clear H2 HCR
  go_wp2_with fail
  refine (cle _).mono ?_
  rintro e w6 ⟨rfl, hb⟩
  have X6 : Hid (Fou w w6 bb #[.int .u64 (s : Nat), .slice a n c] #[.int .u64 (satp : Nat), .int .i64 kind, .int .i64 mode, .bool sum, .bool mxr] #[.int .u64 0, .bool false, .bool false, .int .i64 0] #[.int .u64 0, .bool true, .bool true, .int .i64 (3 - (l : Int))]) := X5.out.step hb
  clear hb
  have f0 := cellOf X6.out.1.2.1 0 _ rfl
  have f1 := cellOf X6.out.1.2.1 1 _ rfl
  have f2 := cellOf X6.out.1.2.1 2 _ rfl
  have f3 := cellOf X6.out.1.2.1 3 _ rfl
  have f4 := cellOf X6.out.1.2.1 4 _ rfl
  cases A
  case false =>
    have HR : Hid (R = badR (3 - l)) := by show R = _; rw [H3.out, if_neg (by simp)]
    clear H3 ch cv
    go_wp2_with fail
    refine (ca _).mono ?_
    rintro e w7 ⟨rfl, hb⟩
    have X7 : Hid (Fou w w7 bb #[.int .u64 (s : Nat), .slice a n c] #[.int .u64 (satp : Nat), .int .i64 kind, .int .i64 mode, .bool sum, .bool mxr] #[.int .u64 0, .bool false, .bool false, .int .i64 0] #[.int .u64 0, .bool true, .bool true, .int .i64 (3 - (l : Int))]) := X6.out.step hb
    clear hb
    have y0 := cellOf X7.out.2.1 0 _ rfl
    have y1 := cellOf X7.out.2.1 1 _ rfl
    have y2 := cellOf X7.out.2.1 2 _ rfl
    have y3 := cellOf X7.out.2.1 3 _ rfl
    have d0 := cellOf X7.out.1.2.2.1 0 _ rfl
    have z0 := frozenOf X7.out.1.2.2.1 0
    have d1 := cellOf X7.out.1.2.2.1 1 _ rfl
    have z1 := frozenOf X7.out.1.2.2.1 1
    have d2 := cellOf X7.out.1.2.2.1 2 _ rfl
    have z2 := frozenOf X7.out.1.2.2.1 2
    have d3 := cellOf X7.out.1.2.2.1 3 _ rfl
    have z3 := frozenOf X7.out.1.2.2.1 3
    go_wp2_with fail
    refine bodyPost_ret (v := .agg #[.int .u64 0, .bool true, .bool true, .int .i64 (3 - (l : Int))]) (by simp [results, Try.results40, go_sem, d0, d1, d2, d3]) rfl ⟨by rw [HR.out, HL3.out]; rfl, ?_⟩
    exact set_four X7.out.1.2.2.2 (by omega) _ _ _ _
  by_cases hh : h0 = 0
  · have HR : Hid (R = (p * 4096 + low, false, false, 3 - l)) := by show R = _; rw [H3.out, if_pos (by simp [hh])]
    subst hh
    clear H3
    go_wp2_with fail
    refine (ca _).mono ?_
    rintro e w7 ⟨rfl, hb⟩
    have X7 : Hid (Fou w w7 bb #[.int .u64 (s : Nat), .slice a n c] #[.int .u64 (satp : Nat), .int .i64 kind, .int .i64 mode, .bool sum, .bool mxr] #[.int .u64 0, .bool false, .bool false, .int .i64 0] #[.int .u64 0, .bool true, .bool true, .int .i64 (3 - (l : Int))]) := X6.out.step hb
    clear hb
    go_wp2_with fail
    refine (ch _).mono ?_
    rintro e w8 ⟨rfl, hb⟩
    have X8 : Hid (Fou w w8 bb #[.int .u64 (s : Nat), .slice a n c] #[.int .u64 (satp : Nat), .int .i64 kind, .int .i64 mode, .bool sum, .bool mxr] #[.int .u64 0, .bool false, .bool false, .int .i64 0] #[.int .u64 0, .bool true, .bool true, .int .i64 (3 - (l : Int))]) := X7.out.step hb
    clear hb
    go_wp2_with fail
    refine (cv _).mono ?_
    rintro e w9 ⟨rfl, hb⟩
    have X9 : Hid (Fou w w9 bb #[.int .u64 (s : Nat), .slice a n c] #[.int .u64 (satp : Nat), .int .i64 kind, .int .i64 mode, .bool sum, .bool mxr] #[.int .u64 0, .bool false, .bool false, .int .i64 0] #[.int .u64 0, .bool true, .bool true, .int .i64 (3 - (l : Int))]) := X8.out.step hb
    clear hb
    have d0 := cellOf X9.out.1.2.2.1 0 _ rfl
    have z0 := frozenOf X9.out.1.2.2.1 0
    have d1 := cellOf X9.out.1.2.2.1 1 _ rfl
    have z1 := frozenOf X9.out.1.2.2.1 1
    have d2 := cellOf X9.out.1.2.2.1 2 _ rfl
    have z2 := frozenOf X9.out.1.2.2.1 2
    have d3 := cellOf X9.out.1.2.2.1 3 _ rfl
    have z3 := frozenOf X9.out.1.2.2.1 3
    go_wp2_with fail
    refine bodyPost_ret (v := .agg #[.int .u64 ((p : Int) * 4096 + (low : Int)), .bool false, .bool false, .int .i64 (3 - (l : Int))]) (by simp [results, Try.results40, go_sem, d0, d1, d2, d3]) rfl ⟨by rw [HR.out, HL3.out, show ((p : Int) * 4096 + (low : Int)) = ((p * 4096 + low : Nat) : Int) from by omega]; rfl, ?_⟩
    exact set_four X9.out.1.2.2.2 (by omega) _ _ _ _
  · have HR : Hid (R = badR (3 - l)) := by show R = _; rw [H3.out, if_neg (by simp [hh])]
    have g1 : ((h0 : Int) == 0) = false := by simp; omega
    have g2 : ¬ (h0 : Int) = 0 := by omega
    clear H3 hh cv
    go_wp2_with fail
    refine (ca _).mono ?_
    rintro e w7 ⟨rfl, hb⟩
    have X7 : Hid (Fou w w7 bb #[.int .u64 (s : Nat), .slice a n c] #[.int .u64 (satp : Nat), .int .i64 kind, .int .i64 mode, .bool sum, .bool mxr] #[.int .u64 0, .bool false, .bool false, .int .i64 0] #[.int .u64 0, .bool true, .bool true, .int .i64 (3 - (l : Int))]) := X6.out.step hb
    clear hb
    go_wp2_with fail
    refine (ch _).mono ?_
    rintro e w8 ⟨rfl, hb⟩
    have X8 : Hid (Fou w w8 bb #[.int .u64 (s : Nat), .slice a n c] #[.int .u64 (satp : Nat), .int .i64 kind, .int .i64 mode, .bool sum, .bool mxr] #[.int .u64 0, .bool false, .bool false, .int .i64 0] #[.int .u64 0, .bool true, .bool true, .int .i64 (3 - (l : Int))]) := X7.out.step hb
    clear hb
    have y0 := cellOf X8.out.2.1 0 _ rfl
    have y1 := cellOf X8.out.2.1 1 _ rfl
    have y2 := cellOf X8.out.2.1 2 _ rfl
    have y3 := cellOf X8.out.2.1 3 _ rfl
    have d0 := cellOf X8.out.1.2.2.1 0 _ rfl
    have z0 := frozenOf X8.out.1.2.2.1 0
    have d1 := cellOf X8.out.1.2.2.1 1 _ rfl
    have z1 := frozenOf X8.out.1.2.2.1 1
    have d2 := cellOf X8.out.1.2.2.1 2 _ rfl
    have z2 := frozenOf X8.out.1.2.2.1 2
    have d3 := cellOf X8.out.1.2.2.1 3 _ rfl
    have z3 := frozenOf X8.out.1.2.2.1 3
    go_wp2_with fail
    refine bodyPost_ret (v := .agg #[.int .u64 0, .bool true, .bool true, .int .i64 (3 - (l : Int))]) (by simp [results, Try.results40, go_sem, d0, d1, d2, d3]) rfl ⟨by rw [HR.out, HL3.out]; rfl, ?_⟩
    exact set_four X8.out.1.2.2.2 (by omega) _ _ _ _
end Go.Proofs.Ytalgidnmmghejaa
