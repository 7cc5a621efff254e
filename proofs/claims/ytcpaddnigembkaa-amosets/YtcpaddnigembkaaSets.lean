/- The law AmoSets. -/
import Derived.Test.YtcpaddnigembkaaSet
import Derived.ProofKit
import Derived.OpenShut
import Derived.Deep.Slices
namespace Go.Proofs.Ytcpaddnigembkaa
open Go.ChangeShapes Go.WideShapes Go.ChangeAt Go.RowKit
set_option linter.unusedVariables false
set_option linter.unusedSimpArgs false
/-- pieces that are written, as they come in -/
def WritesIn (W : World) (v : Value) (len : Nat) (ws : Nat → Nat × Nat) : Prop :=
  (len = 0 ∧ ∃ a cap, v = .slice a 0 cap) ∨ ∃ b off cap, v = .slice (some ⟨b, off, none⟩) len cap ∧ b < W.heap.size ∧ ∀ i, i < len → W.cell? ⟨b, off + i * 2, none⟩ = some (.int .u64 ((ws i).1 : Int)) ∧ W.cell? ⟨b, off + i * 2 + 1, none⟩ = some (.int .u64 ((ws i).2 : Int)) ∧ (ws i).1 < 18446744073709551616 ∧ (ws i).2 < 18446744073709551616
theorem cells22 : Try.prog.cellsOf 22 = 1 := by kernel_rfl
theorem cells38 : Try.prog.cellsOf 38 = 2 := by kernel_rfl
section
variable {H : Type} {enc : TypeId × Value → H} {W : World} {spare : Nat → Bool} {held : Bool}
theorem list_two {α : Type} (l : List α) (h : l.length = 2) : ∃ a b, l = [a, b] := by
  match l, h with
  | [a, b], _ => exact ⟨a, b, rfl⟩
theorem nat_u64 {x : Int} (h : (Lit.int .u64 x).wf = true) : ∃ n : Nat, x = n ∧ n < 18446744073709551616 := by
  have := bounds_u64 h
  exact ⟨x.toNat, by omega, by omega⟩
theorem open_w {n : Nat} {cs : List Value} {x : DataW H × List MemPlace} (h : DataW.trod enc Try.prog W 0 (fun _ => true) held n 38 cs = some x) :
    ∃ p : Nat × Nat, cs = [.int .u64 (p.1 : Int), .int .u64 (p.2 : Int)] ∧ p.1 < 18446744073709551616 ∧ p.2 < 18446744073709551616 := by
  obtain ⟨xs, m, _, _, hl, hlen, hf⟩ := DataW.trod_struct Try.underlying38 h
  rw [cells38] at hl
  obtain ⟨c0, c1, rfl⟩ := list_two cs hl
  obtain ⟨y0, y1, rfl⟩ := list_two xs hlen
  have h0 := hf 0 _ rfl
  have h1 := hf 1 _ rfl
  simp [cells22] at h0 h1
  obtain ⟨x0, e0, _, w0⟩ := DataW.trod_int Try.underlying22 h0
  obtain ⟨x1, e1, _, w1⟩ := DataW.trod_int Try.underlying22 h1
  simp at e0 e1
  obtain ⟨a, rfl, ha⟩ := nat_u64 w0
  obtain ⟨b, rfl, hb⟩ := nat_u64 w1
  subst e0 e1
  exact ⟨(a, b), rfl, ha, hb⟩
theorem addr_add (b o j : Nat) : (⟨b, o, none⟩ : Addr).add j = ⟨b, o + j, none⟩ := by unfold Addr.add; split <;> simp_all
theorem spot_none {a : Addr} {v : Value} (h : W.cell? a = some v) : a.spot = none := by
  unfold World.cell? at h
  split at h
  · split at h
    · cases h
    · rename_i hs; simpa using hs
  · cases h
theorem open_writes {v : Value} {d : DataW H} {p : List MemPlace} {a : Option Addr} {len cap : Nat} (hv : v = .slice a len cap) (h : DataW.Trod enc Try.prog W 0 (fun _ => true) held 32 v d p) : ∃ ws, WritesIn W v len ws := by
  subst hv
  obtain ⟨fuel, hf⟩ := h
  rcases Deep.open_slice Try.underlying32 hf with ⟨hcs, _⟩ | ⟨ad, l, c, m, n, D, Pl, hcs, _, hl, hm, hmm, _, hx⟩
  · simp [Value.cells] at hcs
    obtain ⟨rfl, rfl, rfl⟩ := hcs
    exact ⟨fun _ => (0, 0), .inl ⟨rfl, _, _, rfl⟩⟩
  · simp [Value.cells] at hcs
    obtain ⟨rfl, rfl, rfl⟩ := hcs
    simp at hmm
    subst hmm
    unfold maxLen at hm
    by_cases h0 : len = 0
    · subst h0; exact ⟨fun _ => (0, 0), .inl ⟨rfl, _, _, rfl⟩⟩
    rw [cells38] at hx
    obtain ⟨ws, hws⟩ := @Deep.choose_lt (Nat × Nat) ⟨(0, 0)⟩ len (fun i o => (∀ j, j < 2 → W.cell? ((ad.add (i * 2)).add j) = [Value.int .u64 (o.1 : Int), Value.int .u64 (o.2 : Int)][j]?) ∧ o.1 < 18446744073709551616 ∧ o.2 < 18446744073709551616) (fun i hi => by
      obtain ⟨cs', h1, h2⟩ := hx i (by omega)
      obtain ⟨o, rfl, h3, h4⟩ := open_w h2
      obtain ⟨_, _, h5⟩ := World.cells?_some h1
      exact ⟨o, h5, h3, h4⟩)
    have hsp : ad.spot = none := by
      have := (hws 0 (by omega)).1 0 (by omega)
      rw [Deep.add_add] at this
      have e0 : ad.add (0 * 2 + 0) = ad := by unfold Addr.add; simp
      rw [e0] at this
      exact spot_none (v := .int .u64 ((ws 0).1 : Int)) this
    obtain ⟨b, off, sp⟩ := ad
    simp only at hsp
    subst hsp
    have hc' : ∀ i, i < len → ∀ j, j < 2 → W.cell? ⟨b, off + (i * 2 + j), none⟩ = [Value.int .u64 ((ws i).1 : Int), Value.int .u64 ((ws i).2 : Int)][j]? := fun i hi j hj => by
      have := (hws i hi).1 j hj
      rwa [Deep.add_add, addr_add] at this
    refine ⟨ws, .inr ⟨b, off, _, rfl, ?_, fun i hi => ?_⟩⟩
    · exact block_lt_of_cell (hc' 0 (by omega) 0 (by omega))
    · obtain ⟨_, h1, h2⟩ := hws i hi
      exact ⟨hc' i hi 0 (by omega), by rw [Nat.add_assoc]; exact hc' i hi 1 (by omega), h1, h2⟩
end
theorem below_call {wr X w4 : World} (h : Below wr.heap.size wr X) (hb : Below X.heap.size X w4) : Below wr.heap.size wr w4 := h.trans (hb.mono h.size)
theorem set_below {W w : World} {b : Nat} (h : Below W.heap.size W w) (hb : W.heap.size ≤ b) (u v : Value) : Below W.heap.size W ((w.setCell ⟨b, 0, none⟩ u).setCell ⟨b, 1, none⟩ v) := (h.setCell (p := ⟨b, 0, none⟩) hb u).setCell (p := ⟨b, 1, none⟩) hb v
/-- how the reservation stands: whole, or none -/
def Stands (a n p q : Nat) (held : Bool) : Prop := (p = a ∧ q = n ∧ held = decide (0 < n)) ∨ (p = 0 ∧ q = 0 ∧ 0 < n ∧ held = false)
theorem stands_1 {a n p q : Nat} {held : Bool} (h : Stands a n p q held) : decide (0 < n ∧ p = a ∧ q = n) = held := by
  rcases h with ⟨rfl, rfl, rfl⟩ | ⟨rfl, rfl, h0, rfl⟩
  · simp
  · simp; omega
theorem stands_2 {a n p q : Nat} {held : Bool} (h : Stands a n p q held) : decide (0 < n + 1 ∧ p = a ∧ q = n + 1) = false := by
  rcases h with ⟨rfl, rfl, rfl⟩ | ⟨rfl, rfl, h0, rfl⟩ <;> simp
theorem stands_3 {a n p q t : Nat} {held : Bool} (h : Stands a n p q held) (ht : t ≠ a) : decide (0 < n ∧ p = t ∧ q = n) = false := by
  rcases h with ⟨rfl, rfl, rfl⟩ | ⟨rfl, rfl, h0, rfl⟩ <;> simp <;> omega
theorem ovB_zero (x y : Int) : ovB 0 0 x y = false := by simp [ovB]
theorem stands_on {a n p q x y : Nat} {held : Bool} (h : Stands a n p q held) : Stands a n (brN (ovB p q x y) p) (brN (ovB p q x y) q) (held && !ovB a n x y) := by
  rcases h with ⟨rfl, rfl, rfl⟩ | ⟨rfl, rfl, h0, rfl⟩
  · cases hv : ovB p q x y
    · exact .inl ⟨rfl, rfl, by simp⟩
    · refine .inr ⟨rfl, rfl, ?_, by simp⟩
      simp [ovB] at hv; omega
  · rw [show ovB ((0 : Nat) : Int) ((0 : Nat) : Int) x y = false from ovB_zero _ _]
    exact .inr ⟨rfl, rfl, h0, by simp⟩
theorem stands_lt {a n p q : Nat} {held : Bool} (h : Stands a n p q held) (ha : a < 18446744073709551616) (hn : n ≤ 64) : p < 18446744073709551616 ∧ q ≤ 64 := by
  rcases h with ⟨rfl, rfl, rfl⟩ | ⟨rfl, rfl, h0, rfl⟩ <;> omega
set_option maxHeartbeats 1600000 in
theorem sets_core (a n len : Nat) (v : Value) (ws : Nat → Nat × Nat) (ha : a < 18446744073709551616) (hn : n ≤ 64) (hl : len ≤ 40) (W w : World) (hws : WritesIn W v len ws) (hw : Below W.heap.size W w) (hv : ∃ g cap, v = .slice g len cap) : Calls Try.prog 7 #[.int .u64 (a : Int), .int .i64 (n : Int), v] w fun e w' => e = .returned (.bool true) ∧ Below W.heap.size W w' := by
  obtain ⟨g, cap, rfl⟩ := hv
  have h1 : (0 : Int) ≤ n := by omega
  have h2 : (n : Int) ≤ 64 := by omega
  have h3 : (len : Int) ≤ 40 := by omega
  have hr : ∀ w, Calls Try.prog 17 #[.int .u64 (a : Int), .int .i64 (n : Int)] w fun e w' => e = .returned (.agg #[.int .u64 (a : Int), .int .u64 (n : Int)]) ∧ Below w.heap.size w w' := fun w => reserve_any a n ha (by omega) w
  go_enter Try.func7, Try.ntmps7
  go_wp2_with (first | (go_at_call 8; refine (awake_any _).mono ?_; rintro e w' ⟨rfl, rfl⟩) | (go_at_call 17; refine (hr _).mono ?_; rintro e w1 ⟨rfl, hb1⟩))
  have hbx : Box2 (w1.alloc (.cells #[.int .u64 (a : Int), .int .u64 (n : Int)] 34)) w1.heap.size #[.int .u64 (a : Int), .int .u64 (n : Int)] := Box2.new w1 _
  have hbw : Below W.heap.size W (w1.alloc (.cells #[.int .u64 (a : Int), .int .u64 (n : Int)] 34)) := (hw.trans (hb1.mono hw.size)).alloc (Nat.le_trans hw.size hb1.size) _
  have hbb : W.heap.size ≤ w1.heap.size := Nat.le_trans hw.size hb1.size
  generalize w1.alloc (.cells #[.int .u64 (a : Int), .int .u64 (n : Int)] 34) = wl at *
  generalize w1.heap.size = b at *
  have HX : Hid (Box2 wl b #[.int .u64 (a : Int), .int .u64 (n : Int)]) := hbx
  have HW : Hid (Below W.heap.size W wl) := hbw
  have HG : Hid (W.heap.size ≤ b) := hbb
  have HWS : Hid (WritesIn W (.slice g len cap) len ws) := hws
  clear hbx hbw hbb hb1 hw hws
  go_loopw [8, 9] (fun held i wr => ∃ (k p q : Nat) (hb : Bool), k ≤ len ∧ held = .bool hb ∧ i = .int .i64 k ∧ Stands a n p q hb ∧ Box2 wr b #[.int .u64 (p : Int), .int .u64 (q : Int)] ∧ Below W.heap.size W wr) (fun _ i _ => len - (intOf i).toNat)
  case atStart => exact ⟨0, a, n, decide (0 < n), by omega, by first | rfl | simp, rfl, .inl ⟨rfl, rfl, rfl⟩, HX.out, HW.out⟩
  case round =>
    obtain ⟨k, p, q, hb, hk, rfl, rfl, hst, hbx, hbw⟩ := hrel
    have HS : Hid (Stands a n p q hb) := hst
    have HB : Hid (Box2 wr b #[.int .u64 (p : Int), .int .u64 (q : Int)]) := hbx
    have HR : Hid (Below W.heap.size W wr) := hbw
    obtain ⟨q0, q1, f0, f1⟩ := hbx.facts
    have hplt := (stands_lt hst ha hn).1
    have hqlt := (stands_lt hst ha hn).2
    obtain ⟨t, ht⟩ : ∃ t, (a + 1) % 18446744073709551616 = t := ⟨_, rfl⟩
    have hta : IntKind.u64.wrap ((a : Int) + 1) = t := by rw [wrap_u64]; omega
    have htn : t ≠ a := by omega
    have htl : t < 18446744073709551616 := by omega
    have hh1 : ∀ w, Calls Try.prog 18 #[.agg #[.int .u64 (p : Int), .int .u64 (q : Int)], .int .u64 (a : Int), .int .i64 (n : Int)] w fun e w' => e = .returned (.bool hb) ∧ Below w.heap.size w w' := fun w => by
      have h := holds_any p q a n ha (by omega) w
      rw [stands_1 HS.out] at h
      exact h
    have hh2 : ∀ w, Calls Try.prog 18 #[.agg #[.int .u64 (p : Int), .int .u64 (q : Int)], .int .u64 (a : Int), .int .i64 ((n : Int) + 1)] w fun e w' => e = .returned (.bool false) ∧ Below w.heap.size w w' := fun w => by
      have h := holds_any p q a (n + 1) ha (by omega) w
      rw [stands_2 HS.out, show ((n + 1 : Nat) : Int) = (n : Int) + 1 from by omega] at h
      exact h
    have hh3 : ∀ w, Calls Try.prog 18 #[.agg #[.int .u64 (p : Int), .int .u64 (q : Int)], .int .u64 (t : Int), .int .i64 (n : Int)] w fun e w' => e = .returned (.bool false) ∧ Below w.heap.size w w' := fun w => by
      have h := holds_any p q t n htl (by omega) w
      rw [stands_3 HS.out htn] at h
      exact h
    clear hst hbx hbw ht htn htl
    by_cases hlt : k < len
    · have hlt1 : (k : Int) < len := by omega
      have hk40 : (k : Int) < 40 := by omega
      rcases HWS.out with ⟨h0, _⟩ | ⟨bw, off, cap', hve, hbl, hcs⟩
      · omega
      cases hve
      obtain ⟨c1, c2, hx, hy⟩ := hcs k hlt
      rw [← HR.out.cell (p := ⟨bw, off + k * 2, none⟩) hbl] at c1
      rw [← HR.out.cell (p := ⟨bw, off + k * 2 + 1, none⟩) hbl] at c2
      have HON : Hid (Stands a n (brN (ovB p q (ws k).1 (ws k).2) p) (brN (ovB p q (ws k).1 (ws k).2) q) (hb && !ovB a n (ws k).1 (ws k).2)) := stands_on HS.out
      have HNB : Hid (bw ≠ b) := by have := HG.out; show bw ≠ b; omega
      generalize (ws k).1 = x at *
      generalize (ws k).2 = y at *
      have hbk : ∀ w, Calls Try.prog 19 #[.agg #[.int .u64 (p : Int), .int .u64 (q : Int)], .int .u64 (x : Int), .int .u64 (y : Int)] w fun e w' => e = .returned (.agg #[.int .u64 ((brN (ovB p q x y) p : Nat) : Int), .int .u64 ((brN (ovB p q x y) q : Nat) : Int)]) ∧ Below w.heap.size w w' := fun w => broken_any p q x y hplt (by omega) hx hy w
      have hov : ∀ w, Calls Try.prog 20 #[.int .u64 (a : Int), .int .u64 (n : Int), .int .u64 (x : Int), .int .u64 (y : Int)] w fun e w' => e = .returned (.bool (ovB a n x y)) ∧ w' = w := fun w => roverlap_any a n x y (by omega) (by omega) (by omega) (by omega) w
      generalize brN (ovB p q x y) p = p' at *
      generalize brN (ovB p q x y) q = q' at *
      generalize ovB a n x y = ov at *
      clear hcs hplt hqlt
      cases hb
      all_goals
        go_wp2_with fail
        refine (hh1 _).mono ?_
        rintro e w1 ⟨rfl, hb1⟩
        have X1 : Hid (Below wr.heap.size wr w1) := hb1
        obtain ⟨r0, r1, r2, r3⟩ := (HB.out.step X1.out).facts
        clear hb1
        go_wp2_with fail
        refine (hh2 _).mono ?_
        rintro e w2 ⟨rfl, hb2⟩
        have X2 : Hid (Below wr.heap.size wr w2) := X1.out.trans (hb2.mono X1.out.size)
        obtain ⟨s0, s1, s2, s3⟩ := (HB.out.step X2.out).facts
        clear hb2
        go_wp2_with fail
        refine (hh3 _).mono ?_
        rintro e w3 ⟨rfl, hb3⟩
        have X3 : Hid (Below wr.heap.size wr w3) := X2.out.trans (hb3.mono X2.out.size)
        obtain ⟨u0, u1, u2, u3⟩ := (HB.out.step X3.out).facts
        have d1 : w3.cell? ⟨bw, off + k * 2, none⟩ = some (.int .u64 (x : Int)) := (X3.out.cell (p := ⟨bw, off + k * 2, none⟩) (Nat.lt_of_lt_of_le hbl HR.out.size)).trans c1
        have d2 : w3.cell? ⟨bw, off + k * 2 + 1, none⟩ = some (.int .u64 (y : Int)) := (X3.out.cell (p := ⟨bw, off + k * 2 + 1, none⟩) (Nat.lt_of_lt_of_le hbl HR.out.size)).trans c2
        clear hb3 q0 q1 f0 f1 r0 r1 r2 r3 s0 s1 s2 s3
        go_wp2_with fail
        go_cut [9] (fun c wx => c = .int .i64 (k : Int) ∧ Box2 wx b #[.int .u64 (p' : Int), .int .u64 (q' : Int)] ∧ Below W.heap.size W wx)
        case first =>
          go_region_with (first | (go_at_call 19; (with_reducible refine Calls.mono (hbk _) ?_); rintro e w4 ⟨rfl, hb4⟩; have X4 : Hid (Below wr.heap.size wr w4) := below_call (by repeat (first | exact X3.out | with_reducible refine Below.drew ?_)) hb4; obtain ⟨v0, v1, v2, v3⟩ := (HB.out.step X4.out).facts; clear hb4))
          all_goals go_wp2_with fail
          all_goals go_meet
          all_goals exact ⟨rfl, (HB.out.step X4.out).put _ _, set_below (HR.out.trans (X4.out.mono HR.out.size)) HG.out _ _⟩
        case rest =>
        obtain ⟨rfl, hbx5, hbl5⟩ := hcut
        generalize wc = w5 at *
        have e1 : w5.cell? ⟨bw, off + k * 2, none⟩ = some (.int .u64 (x : Int)) := ((hbl5.cell (p := ⟨bw, off + k * 2, none⟩) hbl).trans (HR.out.cell (p := ⟨bw, off + k * 2, none⟩) hbl).symm).trans c1
        have e2 : w5.cell? ⟨bw, off + k * 2 + 1, none⟩ = some (.int .u64 (y : Int)) := ((hbl5.cell (p := ⟨bw, off + k * 2 + 1, none⟩) hbl).trans (HR.out.cell (p := ⟨bw, off + k * 2 + 1, none⟩) hbl).symm).trans c2
        have B5 : Hid (Box2 w5 b #[.int .u64 (p' : Int), .int .u64 (q' : Int)]) := hbx5
        have L5 : Hid (Below W.heap.size W w5) := hbl5
        clear hbx5 hbl5 u0 u1 u2 u3 d1 d2 c1 c2
        go_wp2_with fail
        go_quiet ((go_at_call 20; exact Calls.quiet_of_same (hov _)))
        go_wp2_with fail
        go_roundw
        case rel => exact ⟨k + 1, p', q', _, by omega, rfl, by go_num, HON.out, (B5.out.step (below_drewN (Below.refl _ _) nq)), below_drewN L5.out nq⟩
        case measure => simp [intOf]; omega
    · obtain rfl : k = len := by omega
      clear hh2 hh3 hta
      rcases HS.out with ⟨rfl, rfl, rfl⟩ | ⟨rfl, rfl, h0, rfl⟩
      · by_cases hz : 0 < q
        · rw [show decide (0 < q) = true from by simp [hz]] at hh1
          rw [show decide (0 < q) = true from by simp [hz]]
          go_wp2_with (first | (go_at_call 18; refine (hh1 _).mono ?_; rintro e w1 ⟨rfl, hb1⟩; have X1 : Hid (Below wr.heap.size wr w1) := hb1; obtain ⟨r0, r1, r2, r3⟩ := (HB.out.step X1.out).facts; clear hb1))
          go_ret
          exact ⟨rfl, HR.out.trans (X1.out.mono HR.out.size)⟩
        · obtain rfl : q = 0 := by omega
          rw [show decide (0 < 0) = false from by simp] at hh1
          rw [show decide (0 < 0) = false from by simp]
          go_wp2_with (first | (go_at_call 18; refine (hh1 _).mono ?_; rintro e w1 ⟨rfl, hb1⟩; have X1 : Hid (Below wr.heap.size wr w1) := hb1; obtain ⟨r0, r1, r2, r3⟩ := (HB.out.step X1.out).facts; clear hb1))
          all_goals
            go_ret
            exact ⟨ret_bool (by first | rfl | simp), HR.out.trans (X1.out.mono HR.out.size)⟩
      · go_wp2_with (first | (go_at_call 18; refine (hh1 _).mono ?_; rintro e w1 ⟨rfl, hb1⟩; have X1 : Hid (Below wr.heap.size wr w1) := hb1; obtain ⟨r0, r1, r2, r3⟩ := (HB.out.step X1.out).facts; clear hb1))
        all_goals
          go_ret
          exact ⟨ret_bool (by first | rfl | simp), HR.out.trans (X1.out.mono HR.out.size)⟩
theorem sets_out (a : Nat) (n : Int) (g : Option Addr) (len cap : Nat) (h : n < 0 ∨ 64 < n ∨ 40 < (len : Int)) (w : World) : Calls Try.prog 7 #[.int .u64 (a : Int), .int .i64 n, .slice g len cap] w fun e w' => e = .returned (.bool true) ∧ w' = w := by
  by_cases h1 : n < 0
  · clear h
    go_enter Try.func7, Try.ntmps7
    go_wp2_with (first | (go_at_call 8; refine (awake_any _).mono ?_; rintro e w' ⟨rfl, rfl⟩))
    go_ret
    exact ⟨rfl, rfl⟩
  · by_cases h2 : 64 < n
    · clear h
      go_enter Try.func7, Try.ntmps7
      go_wp2_with (first | (go_at_call 8; refine (awake_any _).mono ?_; rintro e w' ⟨rfl, rfl⟩))
      go_ret
      exact ⟨rfl, rfl⟩
    · have h3 : 40 < (len : Int) := by omega
      have h4 : 40 < len := by omega
      clear h
      go_enter Try.func7, Try.ntmps7
      go_wp2_with (first | (go_at_call 8; refine (awake_any _).mono ?_; rintro e w' ⟨rfl, rfl⟩))
      go_ret
      exact ⟨rfl, rfl⟩
theorem sets_walk (W : World) (a0 : Int) (w0 : (Lit.int .u64 a0).wf = true) (a1 : Int) (w1 : (Lit.int .i64 a1).wf = true) (v : Value) (len : Nat) (ws : Nat → Nat × Nat) (hws : WritesIn W v len ws) :
    Calls Try.prog 7 #[.int .u64 a0, .int .i64 a1, v] W fun e w' => e = .returned (.bool true) ∧ Below W.heap.size W w' := by
  have b0 := bounds_u64 w0
  obtain ⟨x, rfl⟩ : ∃ x : Nat, a0 = x := ⟨a0.toNat, by omega⟩
  have hv : ∃ g cap, v = .slice g len cap := by
    rcases hws with ⟨rfl, a, cap, rfl⟩ | ⟨b, off, cap, rfl, _⟩
    · exact ⟨_, _, rfl⟩
    · exact ⟨_, _, rfl⟩
  by_cases h : a1 < 0 ∨ 64 < a1 ∨ 40 < (len : Int)
  · obtain ⟨g, cap, rfl⟩ := hv
    refine (sets_out x a1 g len cap h W).mono ?_
    rintro e w' ⟨rfl, rfl⟩
    exact ⟨rfl, Below.refl _ _⟩
  · obtain ⟨y, rfl⟩ : ∃ y : Nat, a1 = y := ⟨a1.toNat, by omega⟩
    exact sets_core x y len v ws (by omega) (by omega) (by omega) W W hws (Below.refl _ _) hv
end Go.Proofs.Ytcpaddnigembkaa
