/- The document's Check. -/
import Derived.Test.YtcgjfklglckjcaaRc
import Derived.Deep.RegionHeld3
import Derived.Deep.DeepCutAuto
namespace Go.Proofs.Ytcgjfklglckjcaa
open Go.RowKit
set_option linter.unusedVariables false
set_option linter.unusedSimpArgs false
set_option maxRecDepth 100000

theorem two_in (w : World) (o1 o2 : Obj) : ((w.alloc o1).alloc o2).heap[w.heap.size]? = some o1 ∧ ((w.alloc o1).alloc o2).heap[w.heap.size + 1]? = some o2 := ⟨(boxes (Below.refl _ _)).1, (boxes (Below.refl _ _)).2.1⟩
theorem box4_facts {w : World} {b : Nat} {x0 x1 x2 x3 : Value} {t : TypeId} (h : w.heap[b]? = some (.cells #[x0, x1, x2, x3] t (0, 0))) : w.cell? ⟨b, 0, none⟩ = some x0 ∧ w.cell? ⟨b, 1, none⟩ = some x1 ∧ w.cell? ⟨b, 2, none⟩ = some x2 ∧ w.cell? ⟨b, 3, none⟩ = some x3 := by
  simp [World.cell?, h]
theorem box6_facts {w : World} {b : Nat} {x0 x1 x2 x3 x4 x5 : Value} {t : TypeId} (h : w.heap[b]? = some (.cells #[x0, x1, x2, x3, x4, x5] t (0, 0))) : w.cell? ⟨b, 0, none⟩ = some x0 ∧ w.cell? ⟨b, 1, none⟩ = some x1 ∧ w.cell? ⟨b, 2, none⟩ = some x2 ∧ w.cell? ⟨b, 3, none⟩ = some x3 ∧ w.cell? ⟨b, 4, none⟩ = some x4 ∧ w.cell? ⟨b, 5, none⟩ = some x5 := by
  simp [World.cell?, h]
theorem below_drewB {w w' : World} (h : Below w.drew.heap.size w.drew w') : Below w.heap.size w w' := (Below.drew (Below.refl _ _)).trans h
theorem rcheck_bad {s : Int} {D A U : Nat} (h : okB s D A U = false) (size : Nat) (v : Value) (w : World) :
    Calls Try.prog 11 #[.agg #[.int .u64 (size : Int), v], .agg #[.int .i64 s, .int .u64 (D : Int), .int .u64 (A : Int), .int .u64 (U : Int)]] w fun e w' => e = .returned (.int .i64 150) ∧ Below w.heap.size w w' := by
  have HB : Hid (Below w.heap.size w ((w.alloc (.cells #[.int .u64 (size : Int), v] 32)).alloc (.cells #[.int .i64 s, .int .u64 (D : Int), .int .u64 (A : Int), .int .u64 (U : Int)] 25))) := two_boxes w _ _
  obtain ⟨b0, h0⟩ : ∃ b, powB s = b := ⟨_, rfl⟩
  have H : Hid (powB s = b0) := h0
  simp only [okB, h0] at h
  clear h0
  cases b0 with
  | false =>
    clear h
    go_enter Try.func11, Try.ntmps11
    go_wp2_with (first | (go_at_call 34; refine (rpower_any _ _).mono ?_; rintro e w2 ⟨rfl, q, hw⟩; rw [hw]; clear hw w2; rw [H.out]))
    go_ret
    exact ⟨rfl, below_drewN HB.out q⟩
  | true =>
    by_cases h1 : (D : Int) % 16 = 0
    · by_cases h2 : (A : Int) % 2 = 0
      · have h3 : ¬ (U : Int) % 4 = 0 := fun h3 => by simp [h1, h2, h3] at h
        clear h
        go_enter Try.func11, Try.ntmps11
        go_wp2_with (first | (go_at_call 34; refine (rpower_any _ _).mono ?_; rintro e w2 ⟨rfl, q, hw⟩; rw [hw]; clear hw w2; rw [H.out]))
        go_ret
        exact ⟨rfl, below_drewN HB.out q⟩
      · clear h
        go_enter Try.func11, Try.ntmps11
        go_wp2_with (first | (go_at_call 34; refine (rpower_any _ _).mono ?_; rintro e w2 ⟨rfl, q, hw⟩; rw [hw]; clear hw w2; rw [H.out]))
        go_ret
        exact ⟨rfl, below_drewN HB.out q⟩
    · clear h
      go_enter Try.func11, Try.ntmps11
      go_wp2_with (first | (go_at_call 34; refine (rpower_any _ _).mono ?_; rintro e w2 ⟨rfl, q, hw⟩; rw [hw]; clear hw w2; rw [H.out]))
      go_ret
      exact ⟨rfl, below_drewN HB.out q⟩

set_option maxHeartbeats 8000000 in
theorem rcheck_good {n : Nat} {D A U : Nat} (hD : D < 18446744073709551616) (hA : A < 18446744073709551616) (hU : U < 18446744073709551616) (h : okB (n : Int) D A U = true) (size : Nat) (hs : size ≤ 268435456) (va : Option Addr) (vn vc : Nat) (w : World) :
    Calls Try.prog 11 #[.agg #[.int .u64 (size : Int), .slice va vn vc], .agg #[.int .i64 (n : Int), .int .u64 (D : Int), .int .u64 (A : Int), .int .u64 (U : Int)]] w fun e w' => e = .returned (.int .i64 (chkN (n : Int) D A U size)) ∧ Below w.heap.size w w' := by
  have HB : Hid (Below w.heap.size w ((w.alloc (.cells #[.int .u64 (size : Int), .slice va vn vc] 32)).alloc (.cells #[.int .i64 (n : Int), .int .u64 (D : Int), .int .u64 (A : Int), .int .u64 (U : Int)] 25))) := two_boxes w _ _
  have HOK : Hid (okB (n : Int) D A U = true) := h
  simp only [okB, Bool.and_eq_true] at h
  obtain ⟨n', hn', hn1, hn2⟩ := pow_in h.1
  have hn : n ≤ 256 := by omega
  clear hn' hn1 hn2 n'
  have H : Hid (powB (n : Int) = true) := h.1
  have h1 : (D : Int) % 16 = 0 := beq_iff_eq.1 h.2.1
  have h2 : (A : Int) % 2 = 0 := beq_iff_eq.1 h.2.2.1
  have h3 : (U : Int) % 4 = 0 := beq_iff_eq.1 h.2.2.2
  clear h
  go_enter Try.func11, Try.ntmps11
  go_upto_region 3 with (first | (go_at_call 34; refine (rpower_any _ _).mono ?_; rintro e w2 ⟨rfl, q, hw⟩; rw [hw]; clear hw w2; rw [H.out]))
  have XA := two_in w (.cells #[.int .u64 (size : Int), .slice va vn vc] 32) (.cells #[.int .i64 (n : Int), .int .u64 (D : Int), .int .u64 (A : Int), .int .u64 (U : Int)] 25)
  have X0 : Hid (Below w.heap.size w (((w.alloc (.cells #[.int .u64 (size : Int), .slice va vn vc] 32)).alloc (.cells #[.int .i64 (n : Int), .int .u64 (D : Int), .int .u64 (A : Int), .int .u64 (U : Int)] 25)).drewN q)) := below_drewN HB.out q
  have X1 : (((w.alloc (.cells #[.int .u64 (size : Int), .slice va vn vc] 32)).alloc (.cells #[.int .i64 (n : Int), .int .u64 (D : Int), .int .u64 (A : Int), .int .u64 (U : Int)] 25)).drewN q).heap[w.heap.size]? = some (.cells #[.int .u64 (size : Int), .slice va vn vc] 32 (0, 0)) := XA.1
  have X2 : (((w.alloc (.cells #[.int .u64 (size : Int), .slice va vn vc] 32)).alloc (.cells #[.int .i64 (n : Int), .int .u64 (D : Int), .int .u64 (A : Int), .int .u64 (U : Int)] 25)).drewN q).heap[w.heap.size + 1]? = some (.cells #[.int .i64 (n : Int), .int .u64 (D : Int), .int .u64 (A : Int), .int .u64 (U : Int)] 25 (0, 0)) := XA.2
  clear XA HB
  generalize ((w.alloc (.cells #[.int .u64 (size : Int), .slice va vn vc] 32)).alloc (.cells #[.int .i64 (n : Int), .int .u64 (D : Int), .int .u64 (A : Int), .int .u64 (U : Int)] 25)).drewN q = w1 at *
  have X : Hid (Below w.heap.size w w1 ∧ w1.heap[w.heap.size]? = some (.cells #[.int .u64 (size : Int), .slice va vn vc] 32 (0, 0))) := ⟨X0.out, X1⟩
  obtain ⟨c0, c1, c2, c3⟩ := box4_facts X2
  clear X0 X1 X2
  go_wp2_with fail
  refine (rareas_any n D A U (by omega) _).mono ?_
  rintro e w2 ⟨g, rfl, hg, hcell, hb2⟩
  have Y : Hid (Below w.heap.size w w2 ∧ w2.heap[w.heap.size]? = some (.cells #[.int .u64 (size : Int), .slice va vn vc] 32 (0, 0)) ∧ w2.heap[g]? = some (.cells #[.int .u64 (D : Int), .int .u64 (16 * (n : Int)), .int .u64 (A : Int), .int .u64 (6 + 2 * (n : Int)), .int .u64 (U : Int), .int .u64 (6 + 8 * (n : Int))] 38 (0, 0))) := ⟨X.out.1.trans (hb2.mono X.out.1.size), below_box X.out.2 hb2, hcell⟩
  clear X hg hcell hb2 c0 c1 c2 c3
  go_wp2_with fail
  go_loopw [6] (fun v wr => ∃ k : Nat, k ≤ 3 ∧ v = .int .i64 (k : Int) ∧ (0 < k → inB D (16 * (n : Int)) 2147483648 size = true) ∧ (1 < k → inB A (6 + 2 * (n : Int)) 2147483648 size = true) ∧ (2 < k → inB U (6 + 8 * (n : Int)) 2147483648 size = true) ∧ Below w2.heap.size w2 wr) (fun v _ => 3 - (intOf v).toNat)
  case atStart => exact ⟨0, by omega, rfl, fun h => by omega, fun h => by omega, fun h => by omega, Below.refl _ _⟩
  case round =>
    obtain ⟨k, hk, rfl, r0, r1, r2, hbr⟩ := hrel
    have R : Hid ((0 < k → inB D (16 * (n : Int)) 2147483648 size = true) ∧ (1 < k → inB A (6 + 2 * (n : Int)) 2147483648 size = true) ∧ (2 < k → inB U (6 + 8 * (n : Int)) 2147483648 size = true) ∧ Below w2.heap.size w2 wr) := ⟨r0, r1, r2, hbr⟩
    have y1 := below_box Y.out.2.1 hbr
    have y2 := below_box Y.out.2.2 hbr
    obtain ⟨c0, c1, _, _⟩ := box_facts y1
    obtain ⟨d0, d1, d2, d3, d4, d5⟩ := box6_facts y2
    clear r0 r1 r2 hbr y1 y2
    rcases (by omega : k = 0 ∨ k = 1 ∨ k = 2 ∨ k = 3) with hk0 | hk0 | hk0 | hk0
    · subst hk0
      obtain ⟨b, hb⟩ : ∃ b, inB D (16 * (n : Int)) 2147483648 size = b := ⟨_, rfl⟩
      have HBB : Hid (inB D (16 * (n : Int)) 2147483648 size = b) := hb
      clear hb
      cases b with
      | false =>
        go_upto_region 7 with fail
        go_region_held3 (fun Z => Z.cell? ⟨w.heap.size, 0, none⟩ = some (.int .u64 (size : Int)) ∧ Z.cell? ⟨w.heap.size, 1, none⟩ = some (.slice va vn vc) ∧ Z.cell? ⟨g, 0, none⟩ = some (.int .u64 (D : Int)) ∧ Z.cell? ⟨g, 1, none⟩ = some (.int .u64 (16 * (n : Int)))) (go_keep) (first | (go_at_call 17; refine (rhas_yes size D (16 * (n : Int)) _ (by omega) (by omega) (by omega) (by omega) _).mono ?_; rintro e w3 ⟨rfl, hb3⟩; have HB3 : Hid (Below w2.heap.size w2 w3) := R.out.2.2.2.trans ((below_drewB hb3).mono R.out.2.2.2.size); clear hb3; rw [HBB.out]; obtain ⟨f0, f1, _, _⟩ := box_facts (below_box Y.out.2.1 HB3.out); obtain ⟨g0, g1, g2, g3, g4, g5⟩ := box6_facts (below_box Y.out.2.2 HB3.out)))
        all_goals go_wp2_with fail
        all_goals go_ret
        all_goals exact ⟨by rw [chk_21 HOK.out (by simp [inA, HBB.out])]; rfl, Y.out.1.trans (HB3.out.mono Y.out.1.size)⟩
      | true =>
        go_upto_region 7 with fail
        go_region_held3 (fun Z => Z.cell? ⟨w.heap.size, 0, none⟩ = some (.int .u64 (size : Int)) ∧ Z.cell? ⟨w.heap.size, 1, none⟩ = some (.slice va vn vc) ∧ Z.cell? ⟨g, 0, none⟩ = some (.int .u64 (D : Int)) ∧ Z.cell? ⟨g, 1, none⟩ = some (.int .u64 (16 * (n : Int)))) (go_keep) (first | (go_at_call 17; refine (rhas_yes size D (16 * (n : Int)) _ (by omega) (by omega) (by omega) (by omega) _).mono ?_; rintro e w3 ⟨rfl, hb3⟩; have HB3 : Hid (Below w2.heap.size w2 w3) := R.out.2.2.2.trans ((below_drewB hb3).mono R.out.2.2.2.size); clear hb3; rw [HBB.out]; obtain ⟨f0, f1, _, _⟩ := box_facts (below_box Y.out.2.1 HB3.out); obtain ⟨g0, g1, g2, g3, g4, g5⟩ := box6_facts (below_box Y.out.2.2 HB3.out)))
        go_wp2_with fail
        go_roundw
        case rel => exact ⟨1, by omega, rfl, fun _ => HBB.out, fun h => by omega, fun h => by omega, HB3.out⟩
        case measure => simp [intOf]
    · subst hk0
      obtain ⟨b, hb⟩ : ∃ b, inB A (6 + 2 * (n : Int)) 2147483648 size = b := ⟨_, rfl⟩
      have HBB : Hid (inB A (6 + 2 * (n : Int)) 2147483648 size = b) := hb
      clear hb
      cases b with
      | false =>
        go_upto_region 7 with fail
        go_region_held3 (fun Z => Z.cell? ⟨w.heap.size, 0, none⟩ = some (.int .u64 (size : Int)) ∧ Z.cell? ⟨w.heap.size, 1, none⟩ = some (.slice va vn vc) ∧ Z.cell? ⟨g, 2, none⟩ = some (.int .u64 (A : Int)) ∧ Z.cell? ⟨g, 3, none⟩ = some (.int .u64 (6 + 2 * (n : Int)))) (go_keep) (first | (go_at_call 17; refine (rhas_yes size A (6 + 2 * (n : Int)) _ (by omega) (by omega) (by omega) (by omega) _).mono ?_; rintro e w3 ⟨rfl, hb3⟩; have HB3 : Hid (Below w2.heap.size w2 w3) := R.out.2.2.2.trans ((below_drewB hb3).mono R.out.2.2.2.size); clear hb3; rw [HBB.out]; obtain ⟨f0, f1, _, _⟩ := box_facts (below_box Y.out.2.1 HB3.out); obtain ⟨g0, g1, g2, g3, g4, g5⟩ := box6_facts (below_box Y.out.2.2 HB3.out)))
        all_goals go_wp2_with fail
        all_goals go_ret
        all_goals exact ⟨by rw [chk_21 HOK.out (by simp [inA, HBB.out])]; rfl, Y.out.1.trans (HB3.out.mono Y.out.1.size)⟩
      | true =>
        go_upto_region 7 with fail
        go_region_held3 (fun Z => Z.cell? ⟨w.heap.size, 0, none⟩ = some (.int .u64 (size : Int)) ∧ Z.cell? ⟨w.heap.size, 1, none⟩ = some (.slice va vn vc) ∧ Z.cell? ⟨g, 2, none⟩ = some (.int .u64 (A : Int)) ∧ Z.cell? ⟨g, 3, none⟩ = some (.int .u64 (6 + 2 * (n : Int)))) (go_keep) (first | (go_at_call 17; refine (rhas_yes size A (6 + 2 * (n : Int)) _ (by omega) (by omega) (by omega) (by omega) _).mono ?_; rintro e w3 ⟨rfl, hb3⟩; have HB3 : Hid (Below w2.heap.size w2 w3) := R.out.2.2.2.trans ((below_drewB hb3).mono R.out.2.2.2.size); clear hb3; rw [HBB.out]; obtain ⟨f0, f1, _, _⟩ := box_facts (below_box Y.out.2.1 HB3.out); obtain ⟨g0, g1, g2, g3, g4, g5⟩ := box6_facts (below_box Y.out.2.2 HB3.out)))
        go_wp2_with fail
        go_roundw
        case rel => exact ⟨2, by omega, rfl, fun _ => R.out.1 (by omega), fun _ => HBB.out, fun h => by omega, HB3.out⟩
        case measure => simp [intOf]
    · subst hk0
      obtain ⟨b, hb⟩ : ∃ b, inB U (6 + 8 * (n : Int)) 2147483648 size = b := ⟨_, rfl⟩
      have HBB : Hid (inB U (6 + 8 * (n : Int)) 2147483648 size = b) := hb
      clear hb
      cases b with
      | false =>
        go_upto_region 7 with fail
        go_region_held3 (fun Z => Z.cell? ⟨w.heap.size, 0, none⟩ = some (.int .u64 (size : Int)) ∧ Z.cell? ⟨w.heap.size, 1, none⟩ = some (.slice va vn vc) ∧ Z.cell? ⟨g, 4, none⟩ = some (.int .u64 (U : Int)) ∧ Z.cell? ⟨g, 5, none⟩ = some (.int .u64 (6 + 8 * (n : Int)))) (go_keep) (first | (go_at_call 17; refine (rhas_yes size U (6 + 8 * (n : Int)) _ (by omega) (by omega) (by omega) (by omega) _).mono ?_; rintro e w3 ⟨rfl, hb3⟩; have HB3 : Hid (Below w2.heap.size w2 w3) := R.out.2.2.2.trans ((below_drewB hb3).mono R.out.2.2.2.size); clear hb3; rw [HBB.out]; obtain ⟨f0, f1, _, _⟩ := box_facts (below_box Y.out.2.1 HB3.out); obtain ⟨g0, g1, g2, g3, g4, g5⟩ := box6_facts (below_box Y.out.2.2 HB3.out)))
        all_goals go_wp2_with fail
        all_goals go_ret
        all_goals exact ⟨by rw [chk_21 HOK.out (by simp [inA, HBB.out])]; rfl, Y.out.1.trans (HB3.out.mono Y.out.1.size)⟩
      | true =>
        go_upto_region 7 with fail
        go_region_held3 (fun Z => Z.cell? ⟨w.heap.size, 0, none⟩ = some (.int .u64 (size : Int)) ∧ Z.cell? ⟨w.heap.size, 1, none⟩ = some (.slice va vn vc) ∧ Z.cell? ⟨g, 4, none⟩ = some (.int .u64 (U : Int)) ∧ Z.cell? ⟨g, 5, none⟩ = some (.int .u64 (6 + 8 * (n : Int)))) (go_keep) (first | (go_at_call 17; refine (rhas_yes size U (6 + 8 * (n : Int)) _ (by omega) (by omega) (by omega) (by omega) _).mono ?_; rintro e w3 ⟨rfl, hb3⟩; have HB3 : Hid (Below w2.heap.size w2 w3) := R.out.2.2.2.trans ((below_drewB hb3).mono R.out.2.2.2.size); clear hb3; rw [HBB.out]; obtain ⟨f0, f1, _, _⟩ := box_facts (below_box Y.out.2.1 HB3.out); obtain ⟨g0, g1, g2, g3, g4, g5⟩ := box6_facts (below_box Y.out.2.2 HB3.out)))
        go_wp2_with fail
        go_roundw
        case rel => exact ⟨3, by omega, rfl, fun _ => R.out.1 (by omega), fun _ => R.out.2.1 (by omega), fun _ => HBB.out, HB3.out⟩
        case measure => simp [intOf]
    · subst hk0
      go_wp2_with fail
      go_ret
      exact ⟨by rw [chk_0 HOK.out (by simp [inA, R.out.1 (by omega), R.out.2.1 (by omega), R.out.2.2.1 (by omega)])]; rfl, Y.out.1.trans (R.out.2.2.2.mono Y.out.1.size)⟩
theorem rcheck_any {s : Int} {D A U : Nat} (hD : D < 18446744073709551616) (hA : A < 18446744073709551616) (hU : U < 18446744073709551616) (size : Nat) (hs : size ≤ 268435456) (va : Option Addr) (vn vc : Nat) (w : World) :
    Calls Try.prog 11 #[.agg #[.int .u64 (size : Int), .slice va vn vc], .agg #[.int .i64 s, .int .u64 (D : Int), .int .u64 (A : Int), .int .u64 (U : Int)]] w fun e w' => e = .returned (.int .i64 (chkN s D A U size)) ∧ Below w.heap.size w w' := by
  cases h : okB s D A U with
  | false =>
    rw [chk_150 size h]
    exact rcheck_bad h size _ w
  | true =>
    have h2 := h
    simp only [okB, Bool.and_eq_true] at h2
    obtain ⟨n, rfl, _, _⟩ := pow_in h2.1
    exact rcheck_good hD hA hU h size hs va vn vc w
end Go.Proofs.Ytcgjfklglckjcaa
