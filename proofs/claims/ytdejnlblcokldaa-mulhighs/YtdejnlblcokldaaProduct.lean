/- The document's product of two words, by sums, is their product. -/
import Derived.Test.YtdejnlblcokldaaWide
namespace Go.Proofs.Ytdejnlblcokldaa
open Go.RowKit
set_option linter.unusedVariables false
set_option linter.unusedSimpArgs false
/-- what was added up, and what is to be added, ahead of bit k -/
def outN (a b k : Nat) : Nat := a * (b % 2 ^ k)
def twoN (a k : Nat) : Nat := a * 2 ^ k % 340282366920938463463374607431768211456
theorem twoN_lt (a k : Nat) : twoN a k < 340282366920938463463374607431768211456 := Nat.mod_lt _ (by decide)
theorem twoN_zero (a : Nat) (ha : a < 18446744073709551616) : twoN a 0 = a := by unfold twoN; omega
theorem twoN_succ (a k : Nat) : (twoN a k + twoN a k) % 340282366920938463463374607431768211456 = twoN a (k + 1) := by
  unfold twoN
  rw [Nat.pow_succ, ← Nat.mul_assoc]
  generalize a * 2 ^ k = x
  omega
theorem outN_lt (a b k : Nat) (ha : a < 18446744073709551616) (hb : b < 18446744073709551616) : outN a b k < 340282366920938463463374607431768211456 := by
  unfold outN
  have h1 : b % 2 ^ k < 18446744073709551616 := Nat.lt_of_le_of_lt (Nat.mod_le _ _) hb
  exact Nat.mul_lt_mul'' ha h1
theorem outN_zero (a b : Nat) : outN a b 0 = 0 := by unfold outN; simp [Nat.mod_one]
theorem outN_all (a b : Nat) (hb : b < 18446744073709551616) : outN a b 64 = a * b := by unfold outN; rw [Nat.mod_eq_of_lt (by omega)]
theorem bit_mod (b k : Nat) : b % 2 ^ (k + 1) = bitAt b k * 2 ^ k + b % 2 ^ k := by
  unfold bitAt
  rw [Nat.pow_succ, Nat.mod_mul, Nat.mul_comm (2 ^ k), Nat.add_comm]
theorem outN_one (a b k : Nat) (ha : a < 18446744073709551616) (hb : b < 18446744073709551616) (h : bitAt b k = 1) : (outN a b k + twoN a k) % 340282366920938463463374607431768211456 = outN a b (k + 1) := by
  have h1 := outN_lt a b (k + 1) ha hb
  have h2 : outN a b (k + 1) = outN a b k + a * 2 ^ k := by
    unfold outN; rw [bit_mod, h, Nat.one_mul, Nat.mul_add, Nat.add_comm]
  rw [h2] at h1 ⊢
  unfold twoN
  generalize outN a b k = x at *
  generalize a * 2 ^ k = y at *
  omega
theorem outN_no (a b k : Nat) (h : bitAt b k = 0) : outN a b k = outN a b (k + 1) := by
  unfold outN; rw [bit_mod, h]; simp
theorem wcs_get (n : Nat) : wcs n = #[.int .u64 ((n / 18446744073709551616 : Nat) : Int), .int .u64 ((n % 18446744073709551616 : Nat) : Int)] := rfl
theorem two_set {w wr : World} {g : Nat} (h : Below w.heap.size w wr) (hg : w.heap.size ≤ g) (u v : Value) : Below w.heap.size w ((wr.setCell ⟨g, 0, none⟩ u).setCell ⟨g, 1, none⟩ v) := (h.setCell (p := ⟨g, 0, none⟩) hg _).setCell (p := ⟨g, 1, none⟩) hg _
/-- all that the loop of Product holds: three boxes, the row of bits -/
def PIn (w wr : World) (a b k g3 : Nat) (o : Obj) : Prop := Below w.heap.size w wr ∧ Box2 wr w.heap.size (wcs 0) ∧ Box2 wr (w.heap.size + 1) (wcs (outN a b k)) ∧ Box2 wr (w.heap.size + 1 + 1) (wcs (twoN a k)) ∧ wr.heap[g3]? = some o
set_option maxHeartbeats 1000000 in
theorem product_any (a b : Nat) (ha : a < 18446744073709551616) (hb : b < 18446744073709551616) (w : World) :
    Calls Try.prog 12 #[.int .u64 (a : Int), .int .u64 (b : Int)] w fun e w' => e = .returned (.agg (wcs (a * b))) ∧ Below w.heap.size w w' := by
  go_enter Try.func12, Try.ntmps12
  go_wp2_with (go_at_call 23; refine (bits_any b hb _).mono ?_; rintro e w1 ⟨v1, rfl, hv1, hb1⟩)
  have B0 : Box2 w1 w.heap.size (wcs 0) := Box2.step (((Box2.new w (wcs 0)).alloc _).alloc _) hb1
  have B1 : Box2 w1 (w.heap.size + 1) (wcs (outN a b 0)) := by
    rw [outN_zero]
    have h := Box2.new (w.alloc (.cells (wcs 0) 29)) (wcs 0)
    simp only [World.alloc, Array.size_push] at h
    exact Box2.step (h.alloc _) hb1
  have B2 : Box2 w1 (w.heap.size + 1 + 1) (wcs (twoN a 0)) := by
    rw [twoN_zero a ha]
    have h := Box2.new ((w.alloc (.cells (wcs 0) 29)).alloc (.cells (wcs 0) 29)) (wcs a)
    have ea : wcs a = #[.int .u64 0, .int .u64 (a : Int)] := by unfold wcs; rw [Nat.div_eq_of_lt ha, Nat.mod_eq_of_lt ha]; rfl
    rw [ea] at h ⊢
    simp only [World.alloc, Array.size_push] at h
    exact Box2.step h hb1
  have hb2 : Below w.heap.size w w1 := (three_new w _ _ _).trans (hb1.mono (by simp; omega))
  have hv2 := hv1.2
  rcases hv2 with ⟨_, h64⟩ | ⟨g3, cap, cur, rfl, hg, hbl, hnc, hcm, _, _⟩
  · omega
  have hcs : ∀ j, j < 64 → w1.cell? ⟨g3, j, none⟩ = some (.int .i64 (bitAt b j : Nat)) := fun j hj => by rw [hv1.cellAt j (by omega)]; exact rowOf_get (bitAt b) 64 j hj
  have hgs : g3 < w1.heap.size := block_lt_of_cell (hcs 0 (by omega))
  have hg3 : w.heap.size + 1 + 1 < g3 := by simp at hg; omega
  have HC : Hid (∀ j, j < 64 → w1.cell? ⟨g3, j, none⟩ = some (.int .i64 (bitAt b j : Nat))) := hcs
  have hn3 : w.heap.size + 1 ≠ g3 := by omega
  have hn4 : w.heap.size + 1 + 1 ≠ g3 := by omega
  clear hbl hnc hcm hv1 hcs hg hb1
  obtain ⟨ob, hob⟩ : ∃ o, w1.heap[g3]? = some o := ⟨_, Array.getElem?_eq_getElem hgs⟩
  go_loopw [8] (fun i wr => ∃ k : Nat, k ≤ 64 ∧ i = .int .i64 k ∧ PIn w wr a b k g3 ob) (fun i _ => 64 - (intOf i).toNat)
  case atStart => exact ⟨0, by omega, rfl, hb2, B0, B1, B2, hob⟩
  case round =>
    obtain ⟨k, hk, rfl, PB, P0, P1, P2, PO⟩ := hrel
    clear B0 B1 B2 hb2
    have hbk : Hid (wr.heap[g3]? = w1.heap[g3]?) := PO.trans hob.symm
    by_cases hlt : k < 64
    · have hlt1 : (k : Int) < 64 := by omega
      have hc : wr.cell? ⟨g3, k, none⟩ = some (.int .i64 (bitAt b k : Nat)) := (World.cell?_of_block (w := w1) (a := ⟨g3, k, none⟩) hbk.out).trans (HC.out k hlt)
      have hA1 := fun w => add_any (outN a b k) (twoN a k) (outN_lt a b k ha hb) (twoN_lt a k) w
      have hA2 := fun w => add_any (twoN a k) (twoN a k) (twoN_lt a k) (twoN_lt a k) w
      rw [twoN_succ] at hA2
      have E0 : Hid (∀ wr, Below w.heap.size w wr → Box2 wr w.heap.size (wcs 0) → Box2 wr (w.heap.size + 1) #[.int .u64 ((outN a b (k + 1) / 18446744073709551616 : Nat) : Int), .int .u64 ((outN a b (k + 1) % 18446744073709551616 : Nat) : Int)] → Box2 wr (w.heap.size + 1 + 1) #[.int .u64 ((twoN a (k + 1) / 18446744073709551616 : Nat) : Int), .int .u64 ((twoN a (k + 1) % 18446744073709551616 : Nat) : Int)] → wr.heap[g3]? = some ob → PIn w wr a b (k + 1) g3 ob) := fun _ h1 h2 h3 h4 h5 => ⟨h1, h2, h3, h4, h5⟩
      rw [wcs_get] at P1 P2
      by_cases hbit : bitAt b k = 1
      · rw [outN_one a b k ha hb hbit] at hA1
        rw [hbit] at hc
        have hc' : wr.cell? ⟨g3, k, none⟩ = some (.int .i64 1) := hc
        clear hc hbit
        simp only [wcs_get (outN a b k), wcs_get (twoN a k), wcs_get (outN a b (k + 1)), wcs_get (twoN a (k + 1))] at hA1 hA2
        generalize outN a b k / 18446744073709551616 = o1 at *
        generalize outN a b k % 18446744073709551616 = o0 at *
        generalize twoN a k / 18446744073709551616 = t1 at *
        generalize twoN a k % 18446744073709551616 = t0 at *
        generalize outN a b (k + 1) / 18446744073709551616 = p1 at *
        generalize outN a b (k + 1) % 18446744073709551616 = p0 at *
        generalize twoN a (k + 1) / 18446744073709551616 = u1 at *
        generalize twoN a (k + 1) % 18446744073709551616 = u0 at *
        have R : Hid (_ ∧ _ ∧ _ ∧ _ ∧ _) := ⟨PB, P0, P1, P2, PO⟩
        obtain ⟨q0, q1, q2, q3⟩ := P1.facts
        obtain ⟨r0, r1, r2, r3⟩ := P2.facts
        clear PB P0 P1 P2 PO hob
        go_wp2_with fail
        refine (hA1 _).mono ?_
        rintro e w5 ⟨rfl, hb5⟩
        have R5 : Hid (_ ∧ _ ∧ _ ∧ _ ∧ _) := ⟨R.out.1.trans (hb5.mono R.out.1.size), R.out.2.1.step hb5, R.out.2.2.1.step hb5, R.out.2.2.2.1.step hb5, below_box R.out.2.2.2.2 hb5⟩
        obtain ⟨y0, y1, y2, y3⟩ := R5.out.2.2.1.facts
        obtain ⟨z0, z1, z2, z3⟩ := R5.out.2.2.2.1.facts
        clear hb5 R q0 q1 q2 q3 r0 r1 r2 r3
        go_wp2_with fail
        refine (hA2 _).mono ?_
        rintro e w6 ⟨rfl, hb6⟩
        have RS : Hid (_ ∧ _ ∧ _ ∧ _ ∧ _) := ⟨two_set (g := (w.heap.size + 1)) R5.out.1 (by omega) (.int .u64 (p1 : Int)) (.int .u64 (p0 : Int)), R5.out.2.1.others (k := (w.heap.size + 1)) (.int .u64 (p1 : Int)) (.int .u64 (p0 : Int)) (by omega), R5.out.2.2.1.put (.int .u64 (p1 : Int)) (.int .u64 (p0 : Int)), R5.out.2.2.2.1.others (k := (w.heap.size + 1)) (.int .u64 (p1 : Int)) (.int .u64 (p0 : Int)) (by omega), (heap_same2 (b := (w.heap.size + 1)) (.int .u64 (p1 : Int)) (.int .u64 (p0 : Int)) (by omega)).trans R5.out.2.2.2.2⟩
        clear R5 y0 y1 y2 y3 z0 z1 z2 z3
        have R6 : Hid (_ ∧ _ ∧ _ ∧ _ ∧ _) := ⟨RS.out.1.trans (hb6.mono RS.out.1.size), RS.out.2.1.step hb6, RS.out.2.2.1.step hb6, RS.out.2.2.2.1.step hb6, below_box RS.out.2.2.2.2 hb6⟩
        obtain ⟨z0, z1, z2, z3⟩ := R6.out.2.2.2.1.facts
        clear hb6
        go_wp2_with fail
        have R7 : Hid (_ ∧ _ ∧ _ ∧ _ ∧ _) := ⟨two_set (g := (w.heap.size + 1 + 1)) R6.out.1 (by omega) (.int .u64 (u1 : Int)) (.int .u64 (u0 : Int)), R6.out.2.1.others (k := (w.heap.size + 1 + 1)) (.int .u64 (u1 : Int)) (.int .u64 (u0 : Int)) (by omega), R6.out.2.2.1.others (k := (w.heap.size + 1 + 1)) (.int .u64 (u1 : Int)) (.int .u64 (u0 : Int)) (by omega), R6.out.2.2.2.1.put (.int .u64 (u1 : Int)) (.int .u64 (u0 : Int)), (heap_same2 (b := (w.heap.size + 1 + 1)) (.int .u64 (u1 : Int)) (.int .u64 (u0 : Int)) (by omega)).trans R6.out.2.2.2.2⟩
        go_roundw
        case rel => exact ⟨k + 1, by omega, by go_num, E0.out _ R7.out.1 R7.out.2.1 R7.out.2.2.1 R7.out.2.2.2.1 R7.out.2.2.2.2⟩
        case measure => simp [intOf]; omega
      · have hbit0 : bitAt b k = 0 := by have := bitAt_le b k; omega
        rw [hbit0] at hc
        have hc' : wr.cell? ⟨g3, k, none⟩ = some (.int .i64 0) := hc
        rw [outN_no a b k hbit0] at P1
        clear hc hbit hbit0 hA1
        simp only [wcs_get (twoN a k), wcs_get (twoN a (k + 1))] at hA2
        generalize twoN a k / 18446744073709551616 = t1 at *
        generalize twoN a k % 18446744073709551616 = t0 at *
        generalize outN a b (k + 1) / 18446744073709551616 = p1 at *
        generalize outN a b (k + 1) % 18446744073709551616 = p0 at *
        generalize twoN a (k + 1) / 18446744073709551616 = u1 at *
        generalize twoN a (k + 1) % 18446744073709551616 = u0 at *
        have R : Hid (_ ∧ _ ∧ _ ∧ _ ∧ _) := ⟨PB, P0, P1, P2, PO⟩
        obtain ⟨q0, q1, q2, q3⟩ := P1.facts
        obtain ⟨r0, r1, r2, r3⟩ := P2.facts
        clear PB P0 P1 P2 PO hob
        go_wp2_with fail
        refine (hA2 _).mono ?_
        rintro e w6 ⟨rfl, hb6⟩
        clear r0 r1 r2 r3 q0 q1 q2 q3
        have R6 : Hid (_ ∧ _ ∧ _ ∧ _ ∧ _) := ⟨R.out.1.trans (hb6.mono R.out.1.size), R.out.2.1.step hb6, R.out.2.2.1.step hb6, R.out.2.2.2.1.step hb6, below_box R.out.2.2.2.2 hb6⟩
        obtain ⟨z0, z1, z2, z3⟩ := R6.out.2.2.2.1.facts
        clear hb6
        go_wp2_with fail
        have R7 : Hid (_ ∧ _ ∧ _ ∧ _ ∧ _) := ⟨two_set (g := (w.heap.size + 1 + 1)) R6.out.1 (by omega) (.int .u64 (u1 : Int)) (.int .u64 (u0 : Int)), R6.out.2.1.others (k := (w.heap.size + 1 + 1)) (.int .u64 (u1 : Int)) (.int .u64 (u0 : Int)) (by omega), R6.out.2.2.1.others (k := (w.heap.size + 1 + 1)) (.int .u64 (u1 : Int)) (.int .u64 (u0 : Int)) (by omega), R6.out.2.2.2.1.put (.int .u64 (u1 : Int)) (.int .u64 (u0 : Int)), (heap_same2 (b := (w.heap.size + 1 + 1)) (.int .u64 (u1 : Int)) (.int .u64 (u0 : Int)) (by omega)).trans R6.out.2.2.2.2⟩
        go_roundw
        case rel => exact ⟨k + 1, by omega, by go_num, E0.out _ R7.out.1 R7.out.2.1 R7.out.2.2.1 R7.out.2.2.2.1 R7.out.2.2.2.2⟩
        case measure => simp [intOf]; omega
    · obtain rfl : k = 64 := by omega
      rw [outN_all a b hb] at P1
      obtain ⟨p1, hp1⟩ : ∃ p, a * b / 18446744073709551616 = p := ⟨_, rfl⟩
      obtain ⟨p0, hp0⟩ : ∃ p, a * b % 18446744073709551616 = p := ⟨_, rfl⟩
      have HV : Hid (wcs (a * b) = #[.int .u64 (p1 : Int), .int .u64 (p0 : Int)]) := show wcs (a * b) = _ by rw [wcs_get, hp1, hp0]
      rw [HV.out] at P1
      clear hp1 hp0
      have B0 : Hid (Box2 wr w.heap.size #[.int .u64 0, .int .u64 0]) := P0
      obtain ⟨q0, q1, q2, q3⟩ := P1.facts
      obtain ⟨r0, r1, r2, r3⟩ := B0.out.facts
      have HB : Hid (Below w.heap.size w wr) := PB
      clear P0 P1 P2 PO PB hbk hob
      go_wp2_with fail
      have B1 : Hid (Box2 ((wr.setCell ⟨w.heap.size, 0, none⟩ (.int .u64 (p1 : Int))).setCell ⟨w.heap.size, 1, none⟩ (.int .u64 (p0 : Int))) w.heap.size #[(.int .u64 (p1 : Int)), (.int .u64 (p0 : Int))]) := B0.out.put (.int .u64 (p1 : Int)) (.int .u64 (p0 : Int))
      clear q0 q1 q2 q3 r0 r1 r2 r3
      obtain ⟨q0, q1, q2, q3⟩ := B1.out.facts
      exact bodyPost_ret (v := .agg #[(.int .u64 (p1 : Int)), (.int .u64 (p0 : Int))]) (by simp [results, Try.results12, go_sem, q0, q1]) rfl ⟨by rw [HV.out], two_set HB.out (Nat.le_refl _) (.int .u64 (p1 : Int)) (.int .u64 (p0 : Int))⟩
end Go.Proofs.Ytdejnlblcokldaa
