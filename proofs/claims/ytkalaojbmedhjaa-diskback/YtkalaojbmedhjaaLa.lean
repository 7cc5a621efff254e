/- The statements' common beginning; DiskSizes and DiskPlays. -/
import Derived.Test.YtkalaojbmedhjaaPl
import Derived.Test.YtkalaojbmedhjaaPg
namespace Go.Proofs.Ytkalaojbmedhjaa
open Go.RowKit Go.Maps
set_option linter.unusedVariables false
set_option linter.unusedSimpArgs false
set_option maxRecDepth 100000
/-- behind the beginning: the document's disk in a box, a disk or none -/
def Bg (w V : World) (fb : Nat) (l : Bool) (pv : Value) (g : Nat) (K : Dk) : Prop := Box 28 V fb (docC K g 2048) ∧ Below w.heap.size w V ∧ w.heap.size ≤ fb ∧ K.count = 4 ∧ K.locked = l ∧ (pv = .pointer none ∨ ∃ db bm, pv = .pointer (some ⟨db, 0, none⟩) ∧ DiskAt V db bm K ∧ DocAt V g 2048 K ∧ w.heap.size ≤ db ∧ w.heap.size ≤ bm ∧ w.heap.size ≤ g)
theorem bg_new {w w0 w2 W3 : World} {l : Bool} {pv : Value} {g : Nat} {K : Dk} (h0 : Below w.heap.size w w0) (hL : Left w0 w2 l pv g K) (B3 : Box 28 W3 w2.heap.size (docC K g 2048)) (U3 : Upon w2.heap.size (w2.alloc (.cells zeroC 28)) W3) : Bg w W3 w2.heap.size l pv g K := by
  have b3 : Below w2.heap.size w2 W3 := (((Below.refl _ _).alloc (Nat.le_refl _) _ : Below w2.heap.size w2 (w2.alloc (.cells zeroC 28)))).trans (U3.below (Nat.le_refl _) (by simp))
  obtain ⟨h1, h2, h3, h4⟩ := hL
  have s0 := h0.size
  have s1 := h1.size
  have hb : Below w.heap.size w w2 := h0.trans (h1.mono s0)
  refine ⟨B3, hb.trans (b3.mono (by omega)), by omega, h2, h3, ?_⟩
  rcases h4 with h4 | ⟨db, bm, e, d1, d2, d3, d4, d5⟩
  · exact .inl h4
  · exact .inr ⟨db, bm, e, d1.step b3, d2.step b3, by omega, by omega, by omega⟩
theorem script_form {w : World} {v : Value} {len : Nat} {ops : Nat → OpD} (h : ScriptIn w v len ops) : ∃ a c, v = .slice a len c := by
  rcases h with ⟨rfl, a, c, rfl⟩ | ⟨b, off, cap, rfl, _⟩
  · exact ⟨_, _, rfl⟩
  · exact ⟨_, _, rfl⟩
set_option maxHeartbeats 2000000 in
theorem plays_core (w : World) (lk : Bool) (v : Value) (len : Nat) (ops : Nat → OpD) (hsc : ScriptIn w v len ops) : Calls Try.prog 3 #[.bool lk, v] w fun e w' => e = .returned (.bool true) ∧ Below w.heap.size w w' := by
  obtain ⟨av, cap, rfl⟩ := script_form hsc
  have HS : Hid (ScriptIn w (.slice av len cap) len ops) := hsc
  clear hsc
  go_enter Try.func3, Try.ntmps3
  go_wp2_with fail
  refine (awake_any _).mono ?_
  rintro e w0 ⟨rfl, hb0⟩
  have Z0 : Hid (Below w.heap.size w w0) := hb0
  clear hb0
  go_upto_region 3 with fail
  refine wp_region_list ?_
  (refine wpList_step (fun KK hKK => ?_); go_simp; refine hKK _ _ ?_; clear hKK KK)
  (refine wpList_step (fun KK hKK => ?_); go_simp; refine hKK _ _ ?_; clear hKK KK)
  refine wpList_step (fun KK hKK => ?_)
  go_simp
  refine (played_any lk av len cap ops w0 (HS.out.up Z0.out)).mono ?_
  rintro e w2 ⟨pv, g, K, rfl, hL⟩
  have Z2 : Hid (Left w0 w2 lk pv g K) := hL
  clear hL
  refine hKK _ _ ?_
  clear hKK KK
  (refine wpList_step (fun KK hKK => ?_); go_simp; refine hKK _ _ ?_; clear hKK KK)
  refine wpList_extract_at rfl _ _ _ _ rfl rfl rfl ?_
  refine wpList_extract_at rfl _ _ _ _ rfl rfl rfl ?_
  refine wpList_extract_at rfl _ _ _ _ rfl rfl rfl ?_
  refine wpList_alloc_zero 28 zeroC 5 zinfo28 rfl rfl ?_
  (refine wpList_step (fun KK hKK => ?_); go_simp; refine hKK _ _ ?_; clear hKK KK)
  refine wpList_store28 rfl _ _ rfl w2.heap.size K g 2048 zeroC rfl rfl (Box.new 28 w2 _) rfl ?_
  intro W3 B3 U3
  have Y0 : Hid (Bg w W3 w2.heap.size lk pv g K) := bg_new Z0.out Z2.out B3 U3
  clear B3 U3 Z2 Z0
  generalize w2.heap.size = fb at *
  rcases Y0.out.2.2.2.2.2 with rfl | ⟨db, bm, rfl, hd, hg, _⟩
  · go_wp2_with fail
    go_ret
    exact ⟨rfl, Y0.out.2.1⟩
  · have D : Hid (DiskAt W3 db bm K ∧ DocAt W3 g 2048 K) := ⟨hd, hg⟩
    clear hd hg
    go_upto_region 4 with fail
    refine wp_region_list ?_
    (refine wpList_step (fun KK hKK => ?_); go_simp; refine hKK _ _ ?_; clear hKK KK)
    (refine wpList_step (fun KK hKK => ?_); go_simp; refine hKK _ _ ?_; clear hKK KK)
    (refine wpList_step (fun KK hKK => ?_); go_simp; refine hKK _ _ ?_; clear hKK KK)
    (refine wpList_step (fun KK hKK => ?_); go_simp; refine hKK _ _ ?_; clear hKK KK)
    (refine wpList_step (fun KK hKK => ?_); go_simp; refine hKK _ _ ?_; clear hKK KK)
    (refine wpList_step (fun KK hKK => ?_); go_simp; refine hKK _ _ ?_; clear hKK KK)
    refine wpList_load28G (by first | rfl | kernel_rfl) _ rfl fb K g 2048 rfl Y0.out.1 ?_
    refine wpList_step (fun KK hKK => ?_)
    go_simp
    refine (law_same K db bm g 2048 _ D.out.1 D.out.2).mono ?_
    rintro e w4 ⟨rfl, hb4⟩
    have Z4 : Hid (Below w.heap.size w w4) := Y0.out.2.1.trans (hb4.mono Y0.out.2.1.size)
    clear hb4
    refine hKK _ _ ?_
    clear hKK KK
    go_wp2_with fail
    go_ret
    exact ⟨rfl, Z4.out⟩
set_option maxHeartbeats 2000000 in
theorem sizes_core (w : World) (a : Int) (ha : (Lit.int .u64 a).wf = true) (l : Bool) : Calls Try.prog 4 #[.int .u64 a, .bool l] w fun e w' => e = .returned (.bool true) ∧ Below w.heap.size w w' := by
  obtain ⟨c, rfl, hc⟩ := nat_u64 ha
  clear ha
  by_cases h1 : c < 1 ∨ 65536 < c
  · have CN : Hid (∀ V, Calls Try.prog 11 #[.int .u64 (c : Nat), .bool l] V fun e w' => e = .returned (.tuple #[.pointer none, .int .i64 130]) ∧ w' = V) := fun V => new_no c l hc h1 V
    have hB : Hid (c < 1 ∨ 65536 < c) := h1
    go_enter Try.func4, Try.ntmps4
    go_wp2_with fail
    refine (awake_any _).mono ?_
    rintro e w0 ⟨rfl, hb0⟩
    have Z0 : Hid (Below w.heap.size w w0) := hb0
    clear hb0
    go_wp2_with fail
    refine (CN.out _).mono ?_
    rintro e w1 ⟨rfl, hw⟩
    rw [hw]
    clear hw w1
    rcases h1 with h1 | h1
    · have e1 : (c : Int) < 1 := by omega
      clear h1 hB hc
      go_wp2
      go_ret
      exact ⟨rfl, Z0.out⟩
    · have e1 : decide ((c : Int) < 1) = false := by simp; omega
      have e2 : decide ((65536 : Int) < (c : Int)) = true := by simp; omega
      have e3 : decide (65536 < c) = true := by simp; omega
      clear h1 hB hc
      go_wp2
      go_ret
      exact ⟨rfl, Z0.out⟩
  · have h2 : 1 ≤ c ∧ c ≤ 65536 := by omega
    have CN : Hid (∀ V, Calls Try.prog 11 #[.int .u64 (c : Nat), .bool l] V fun e w' => ∃ db bm, e = .returned (.tuple #[.pointer (some ⟨db, 0, none⟩), .int .i64 0]) ∧ DiskAt w' db bm (newK c l) ∧ V.heap.size ≤ db ∧ V.heap.size ≤ bm ∧ Below V.heap.size V w') := fun V => new_yes c l h2.1 h2.2 V
    have e1 : decide ((c : Int) < 1) = false := by simp; omega
    have e2 : decide ((65536 : Int) < (c : Int)) = false := by simp; omega
    have e3 : decide (65536 < c) = false := by simp; omega
    have hxx : ((c : Int) == (c : Int)) = true := by simp
    have hll : (l == l) = true := by simp
    clear h1 h2 hc
    go_enter Try.func4, Try.ntmps4
    go_wp2_with fail
    refine (awake_any _).mono ?_
    rintro e w0 ⟨rfl, hb0⟩
    have Z0 : Hid (Below w.heap.size w w0) := hb0
    clear hb0
    go_wp2_with fail
    refine (CN.out _).mono ?_
    rintro e w1 ⟨db, bm, rfl, hd, _, _, hb1⟩
    have X : Hid (DiskAt w1 db bm (newK c l) ∧ Below w.heap.size w w1) := ⟨hd, Z0.out.trans (hb1.mono Z0.out.size)⟩
    clear hd hb1 Z0
    have q1 : ∀ V, V = w1 → Calls Try.prog 12 #[.pointer (some ⟨db, 0, none⟩)] V fun e w' => e = .returned (.int .u64 (c : Nat)) ∧ w' = V := fun V h => by rw [h]; exact count_any X.out.1
    have Q1 : Hid (Calls Try.prog 12 #[.pointer (some ⟨db, 0, none⟩)] w1 fun e w' => e = .returned (.int .u64 (c : Nat)) ∧ w' = w1) := q1 _ rfl
    have Q2 : Hid (Calls Try.prog 13 #[.pointer (some ⟨db, 0, none⟩)] w1 fun e w' => e = .returned (.bool l) ∧ w' = w1) := locked_any X.out.1
    have Q3 : Hid (Calls Try.prog 14 #[.pointer (some ⟨db, 0, none⟩)] w1 fun e w' => e = .returned (.int .u64 0) ∧ w' = w1) := requests_any X.out.1
    clear q1
    go_wp2_with fail
    refine (show Calls Try.prog 12 _ _ _ from Q1.out).mono ?_
    rintro e w2 ⟨rfl, hw⟩
    rw [hw]
    clear hw w2
    go_wp2_with fail
    refine (show Calls Try.prog 13 _ _ _ from Q2.out).mono ?_
    rintro e w2 ⟨rfl, hw⟩
    rw [hw]
    clear hw w2
    go_wp2_with fail
    refine (show Calls Try.prog 14 _ _ _ from Q3.out).mono ?_
    rintro e w2 ⟨rfl, hw⟩
    rw [hw]
    clear hw w2
    go_wp2
    go_ret
    exact ⟨rfl, X.out.2⟩
end Go.Proofs.Ytkalaojbmedhjaa
