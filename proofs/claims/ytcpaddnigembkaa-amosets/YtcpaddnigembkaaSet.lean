/- The calls Reserve, Holds and Broken of layer 7, and Overlap of layer 1 on both sides. -/
import Derived.Test.YtcpaddnigembkaaNew
import Derived.Laws.NewBlocks
import Derived.Laws.StructEq
import Derived.Deep.DeepCutAuto
import Derived.Deep.CutBlock
import Derived.Deep.RegionWith
import Derived.Deep.RegionHeld3
namespace Go.Proofs.Ytcpaddnigembkaa
open Go.RowKit
set_option linter.unusedVariables false
set_option linter.unusedSimpArgs false
/-- one sum is less than another one, or, if so asked, alike -/
def lessB (a b c d : Int) (al : Bool) : Bool := decide (a + b < c + d ∨ al = true ∧ a + b = c + d)
theorem sum_any (a b : Int) (ha : 0 ≤ a ∧ a ≤ 18446744073709551615) (hb : 0 ≤ b ∧ b ≤ 18446744073709551615) (w : World) :
    Calls Try.prog 39 #[.int .u64 a, .int .u64 b] w fun e w' => e = .returned (.tuple #[.bool (decide (18446744073709551615 < a + b)), .int .u64 (IntKind.u64.wrap (a + b))]) ∧ w' = w := by
  have h : decide (IntKind.u64.wrap (a + b) < a) = decide (18446744073709551615 < a + b) := by
    rw [wrap_u64, Bool.eq_iff_iff]; simp; omega
  have H : Hid (decide (IntKind.u64.wrap (a + b) < a) = decide (18446744073709551615 < a + b)) := h
  clear h
  go_enter Try.func39, Try.ntmps39
  go_wp2
  go_ret2
  exact ⟨by rw [H.out]; rfl, rfl⟩
theorem oless_any (a b c d : Int) (al : Bool) (ha : 0 ≤ a ∧ a ≤ 18446744073709551615) (hb : 0 ≤ b ∧ b ≤ 18446744073709551615) (hc : 0 ≤ c ∧ c ≤ 18446744073709551615) (hd : 0 ≤ d ∧ d ≤ 18446744073709551615) (w : World) :
    Calls Try.prog 30 #[.int .u64 a, .int .u64 b, .int .u64 c, .int .u64 d, .bool al] w fun e w' => e = .returned (.bool (lessB a b c d al)) ∧ w' = w := by
  have e1 : (IntKind.u64.wrap (a + b) = a + b ∧ decide (18446744073709551615 < a + b) = false ∧ a + b ≤ 18446744073709551615) ∨ (IntKind.u64.wrap (a + b) = a + b - 18446744073709551616 ∧ decide (18446744073709551615 < a + b) = true ∧ 18446744073709551615 < a + b) := by
    rw [wrap_u64]; simp only [decide_eq_true_eq, decide_eq_false_iff_not]; omega
  have e2 : (IntKind.u64.wrap (c + d) = c + d ∧ decide (18446744073709551615 < c + d) = false ∧ c + d ≤ 18446744073709551615) ∨ (IntKind.u64.wrap (c + d) = c + d - 18446744073709551616 ∧ decide (18446744073709551615 < c + d) = true ∧ 18446744073709551615 < c + d) := by
    rw [wrap_u64]; simp only [decide_eq_true_eq, decide_eq_false_iff_not]; omega
  rcases e1 with ⟨e1, d1, c1⟩ | ⟨e1, d1, c1⟩ <;> rcases e2 with ⟨e2, d2, c2⟩ | ⟨e2, d2, c2⟩
  all_goals
    go_enter Try.func30, Try.ntmps30
    go_wp2_with (go_at_call 39; refine (sum_any _ _ (by omega) (by omega) _).mono ?_; rintro e w' ⟨rfl, rfl⟩)
    all_goals (go_ret; refine ⟨ret_bool ?_, rfl⟩; rw [Bool.eq_iff_iff]; simp [lessB, *]; try omega)
/-- two pieces have a number in common, by numbers that have no end -/
def ovB (a n b m : Int) : Bool := decide (0 < n ∧ 0 < m ∧ a < b + m ∧ b < a + n)
theorem ovB_comm (a n b m : Int) : ovB b m a n = ovB a n b m := by simp only [ovB, decide_eq_decide]; omega
theorem overlap_any (a n b m : Int) (ha : 0 ≤ a ∧ a ≤ 18446744073709551615) (hn : 0 ≤ n ∧ n ≤ 18446744073709551615) (hb : 0 ≤ b ∧ b ≤ 18446744073709551615) (hm : 0 ≤ m ∧ m ≤ 18446744073709551615) (w : World) :
    Calls Try.prog 29 #[.int .u64 a, .int .u64 n, .int .u64 b, .int .u64 m] w fun e w' => e = .returned (.bool (ovB a n b m)) ∧ w' = w := by
  go_enter Try.func29, Try.ntmps29
  go_wp2
  all_goals (go_ret; exact ⟨ret_bool (by rw [Bool.eq_iff_iff]; simp [ovB]; try omega), rfl⟩)
theorem roverlap_any (a n b m : Int) (ha : 0 ≤ a ∧ a ≤ 18446744073709551615) (hn : 0 ≤ n ∧ n ≤ 18446744073709551615) (hb : 0 ≤ b ∧ b ≤ 18446744073709551615) (hm : 0 ≤ m ∧ m ≤ 18446744073709551615) (w : World) :
    Calls Try.prog 20 #[.int .u64 a, .int .u64 n, .int .u64 b, .int .u64 m] w fun e w' => e = .returned (.bool (ovB a n b m)) ∧ w' = w := by
  have d1 : lessB a 0 b m false = decide (a < b + m) := by simp [lessB]
  have d2 : lessB b 0 a n false = decide (b < a + n) := by simp [lessB]
  go_enter Try.func20, Try.ntmps20
  go_wp2_with (go_at_call 30; refine (oless_any _ _ _ _ _ (by omega) (by omega) (by omega) (by omega) _).mono ?_; rintro e w' ⟨rfl, rfl⟩)
  all_goals (go_ret; refine ⟨ret_bool ?_, rfl⟩; rw [Bool.eq_iff_iff]; simp [ovB]; try omega)
def Box2 (w : World) (b : Nat) (c : Array Value) : Prop := w.heap[b]? = some (.cells c 34 (0, 0))
theorem below_box {w w2 : World} {b : Nat} {o : Obj} (h : w.heap[b]? = some o) (hb : Below w.heap.size w w2) : w2.heap[b]? = some o := (hb.block b (Array.getElem?_eq_some_iff.1 h).1).trans h
theorem Box2.step {w w' : World} {b : Nat} {c : Array Value} (h : Box2 w b c) (hb : Below w.heap.size w w') : Box2 w' b c := below_box h hb
theorem Box2.lt {w : World} {b : Nat} {c : Array Value} (h : Box2 w b c) : b < w.heap.size := (Array.getElem?_eq_some_iff.1 h).1
theorem Box2.set {w : World} {b : Nat} {c : Array Value} (h : Box2 w b c) (i : Nat) (v : Value) : Box2 (w.setCell ⟨b, i, none⟩ v) b (c.setIfInBounds i v) := heap_setCell_same w b i c 34 v h
theorem Box2.other {w : World} {b k : Nat} {c : Array Value} (h : Box2 w b c) (i : Nat) (v : Value) (hk : b ≠ k) : Box2 (w.setCell ⟨k, i, none⟩ v) b c := (heap_setCell_other w ⟨k, i, none⟩ b v hk).trans h
theorem Box2.alloc {w : World} {b : Nat} {c : Array Value} (h : Box2 w b c) (o : Obj) : Box2 (w.alloc o) b c := h.step ((Below.refl _ _).alloc (Nat.le_refl _) o)
theorem Box2.new (w : World) (c : Array Value) : Box2 (w.alloc (.cells c 34)) w.heap.size c := heap_alloc_new w (.cells c 34)
theorem Box2.put {w : World} {b : Nat} {x y : Value} (h : Box2 w b #[x, y]) (u v : Value) : Box2 ((w.setCell ⟨b, 0, none⟩ u).setCell ⟨b, 1, none⟩ v) b #[u, v] := (h.set 0 u).set 1 v
theorem Box2.others {w : World} {b k : Nat} {c : Array Value} (h : Box2 w b c) (u v : Value) (hk : b ≠ k) : Box2 ((w.setCell ⟨k, 0, none⟩ u).setCell ⟨k, 1, none⟩ v) b c := (h.other 0 u hk).other 1 v hk
theorem Box2.facts {w : World} {b : Nat} {x0 x1 : Value} (h : Box2 w b #[x0, x1]) : w.cell? ⟨b, 0, none⟩ = some x0 ∧ w.cell? ⟨b, 1, none⟩ = some x1 ∧ w.frozen? ⟨b, 0, none⟩ = false ∧ w.frozen? ⟨b, 1, none⟩ = false := by
  unfold Box2 at h
  refine ⟨?_, ?_, ?_, ?_⟩ <;> (first | (simp only [World.cell?, h]; rfl) | (simp only [World.frozen?, h]; simp))
theorem heap_same2 {w : World} {b k : Nat} (u v : Value) (hk : k ≠ b) : ((w.setCell ⟨b, 0, none⟩ u).setCell ⟨b, 1, none⟩ v).heap[k]? = w.heap[k]? := (heap_setCell_other _ ⟨b, 1, none⟩ k v hk).trans (heap_setCell_other _ ⟨b, 0, none⟩ k u hk)
theorem two_new (w : World) (o1 o2 : Obj) : Below w.heap.size w ((w.alloc o1).alloc o2) := ((Below.refl _ _).alloc (Nat.le_refl _) _).alloc (by simp) _
theorem reserve_any (a n : Nat) (ha : a < 18446744073709551616) (hn : n < 9223372036854775808) (w : World) : Calls Try.prog 17 #[.int .u64 (a : Int), .int .i64 (n : Int)] w fun e w' => e = .returned (.agg #[.int .u64 (a : Int), .int .u64 (n : Int)]) ∧ Below w.heap.size w w' := by
  have hw : IntKind.u64.wrap (n : Int) = n := by rw [wrap_u64]; omega
  go_enter Try.func17, Try.ntmps17
  go_wp2
  refine bodyPost_ret (v := .agg #[.int .u64 (a : Int), .int .u64 (n : Int)]) (by simp [results, Try.results17, go_sem]) rfl ⟨rfl, (Below.refl _ _).alloc (Nat.le_refl _) _⟩
theorem below_undrew {w w1 : World} (h : Below w.drew.heap.size w.drew w1) : Below w.heap.size w w1 := (Below.drew (Below.refl w.heap.size w)).trans h
theorem holds_yes (a n : Nat) (ha : a < 18446744073709551616) (hn : n < 9223372036854775808) (h0 : 0 < n) (w : World) : Calls Try.prog 18 #[.agg #[.int .u64 (a : Int), .int .u64 (n : Int)], .int .u64 (a : Int), .int .i64 (n : Int)] w fun e w' => e = .returned (.bool true) ∧ Below w.heap.size w w' := by
  have h1 : (0 : Int) < n := by omega
  have hd : decide ((0 : Int) < n) = true := by simp [h0]
  have hd2 : decide (0 < n) = true := by simp [h0]
  have hr : ∀ w, Calls Try.prog 17 #[.int .u64 (a : Int), .int .i64 (n : Int)] w fun e w' => e = .returned (.agg #[.int .u64 (a : Int), .int .u64 (n : Int)]) ∧ Below w.heap.size w w' := fun w => reserve_any a n ha hn w
  clear h0
  go_enter Try.func18, Try.ntmps18
  go_wp2_with fail
  have hbx : Box2 (w.alloc (.cells #[.int .u64 (a : Int), .int .u64 (n : Int)] 34)) w.heap.size #[.int .u64 (a : Int), .int .u64 (n : Int)] := Box2.new w _
  have hbw : Below w.heap.size w (w.alloc (.cells #[.int .u64 (a : Int), .int .u64 (n : Int)] 34)) := (Below.refl _ _).alloc (Nat.le_refl _) _
  generalize w.alloc (.cells #[.int .u64 (a : Int), .int .u64 (n : Int)] 34) = w0 at *
  obtain ⟨q0, q1, _, _⟩ := hbx.facts
  have HX : Hid (Box2 w0 w.heap.size #[.int .u64 (a : Int), .int .u64 (n : Int)]) := hbx
  have HW : Hid (Below w.heap.size w w0) := hbw
  clear hbx hbw
  go_region_held3 (fun W => W.cell? ⟨w.heap.size, 0, none⟩ = some (.int .u64 (a : Int)) ∧ W.cell? ⟨w.heap.size, 1, none⟩ = some (.int .u64 (n : Int))) (go_keep) (first | (go_at_call 17; refine (hr _).mono ?_; rintro e w1 ⟨rfl, hb1⟩; have X1 : Hid (Below w0.heap.size w0 w1) := below_undrew hb1; obtain ⟨p0, p1, _, _⟩ := (HX.out.step X1.out).facts; clear hb1))
  go_wp2_with fail
  go_ret
  exact ⟨ret_bool rfl, HW.out.trans (X1.out.mono HW.out.size)⟩
theorem holds_at (p q a n : Nat) (hpa : ¬ p = a) (ha : a < 18446744073709551616) (hn : n < 9223372036854775808) (h0 : 0 < n) (w : World) : Calls Try.prog 18 #[.agg #[.int .u64 (p : Int), .int .u64 (q : Int)], .int .u64 (a : Int), .int .i64 (n : Int)] w fun e w' => e = .returned (.bool false) ∧ Below w.heap.size w w' := by
  have h1 : (0 : Int) < n := by omega
  have hd : decide ((0 : Int) < n) = true := by simp [h0]
  have hd2 : decide (0 < n) = true := by simp [h0]
  have hr : ∀ w, Calls Try.prog 17 #[.int .u64 (a : Int), .int .i64 (n : Int)] w fun e w' => e = .returned (.agg #[.int .u64 (a : Int), .int .u64 (n : Int)]) ∧ Below w.heap.size w w' := fun w => reserve_any a n ha hn w
  clear h0
  have hp1 : ((p : Int) == (a : Int)) = false := by simp; omega
  have hp2 : ¬ (p : Int) = a := by omega
  go_enter Try.func18, Try.ntmps18
  go_wp2_with fail
  have hbx : Box2 (w.alloc (.cells #[.int .u64 (p : Int), .int .u64 (q : Int)] 34)) w.heap.size #[.int .u64 (p : Int), .int .u64 (q : Int)] := Box2.new w _
  have hbw : Below w.heap.size w (w.alloc (.cells #[.int .u64 (p : Int), .int .u64 (q : Int)] 34)) := (Below.refl _ _).alloc (Nat.le_refl _) _
  generalize w.alloc (.cells #[.int .u64 (p : Int), .int .u64 (q : Int)] 34) = w0 at *
  obtain ⟨q0, q1, _, _⟩ := hbx.facts
  have HX : Hid (Box2 w0 w.heap.size #[.int .u64 (p : Int), .int .u64 (q : Int)]) := hbx
  have HW : Hid (Below w.heap.size w w0) := hbw
  clear hbx hbw
  go_region_held3 (fun W => W.cell? ⟨w.heap.size, 0, none⟩ = some (.int .u64 (p : Int)) ∧ W.cell? ⟨w.heap.size, 1, none⟩ = some (.int .u64 (q : Int))) (go_keep) (first | (go_at_call 17; refine (hr _).mono ?_; rintro e w1 ⟨rfl, hb1⟩; have X1 : Hid (Below w0.heap.size w0 w1) := below_undrew hb1; obtain ⟨p0, p1, _, _⟩ := (HX.out.step X1.out).facts; clear hb1))
  go_wp2_with fail
  go_ret
  exact ⟨ret_bool rfl, HW.out.trans (X1.out.mono HW.out.size)⟩
theorem holds_len (q a n : Nat) (hqn : ¬ q = n) (ha : a < 18446744073709551616) (hn : n < 9223372036854775808) (h0 : 0 < n) (w : World) : Calls Try.prog 18 #[.agg #[.int .u64 (a : Int), .int .u64 (q : Int)], .int .u64 (a : Int), .int .i64 (n : Int)] w fun e w' => e = .returned (.bool false) ∧ Below w.heap.size w w' := by
  have h1 : (0 : Int) < n := by omega
  have hd : decide ((0 : Int) < n) = true := by simp [h0]
  have hd2 : decide (0 < n) = true := by simp [h0]
  have hr : ∀ w, Calls Try.prog 17 #[.int .u64 (a : Int), .int .i64 (n : Int)] w fun e w' => e = .returned (.agg #[.int .u64 (a : Int), .int .u64 (n : Int)]) ∧ Below w.heap.size w w' := fun w => reserve_any a n ha hn w
  clear h0
  have hp1 : ((q : Int) == (n : Int)) = false := by simp; omega
  have hp2 : ¬ (q : Int) = n := by omega
  go_enter Try.func18, Try.ntmps18
  go_wp2_with fail
  have hbx : Box2 (w.alloc (.cells #[.int .u64 (a : Int), .int .u64 (q : Int)] 34)) w.heap.size #[.int .u64 (a : Int), .int .u64 (q : Int)] := Box2.new w _
  have hbw : Below w.heap.size w (w.alloc (.cells #[.int .u64 (a : Int), .int .u64 (q : Int)] 34)) := (Below.refl _ _).alloc (Nat.le_refl _) _
  generalize w.alloc (.cells #[.int .u64 (a : Int), .int .u64 (q : Int)] 34) = w0 at *
  obtain ⟨q0, q1, _, _⟩ := hbx.facts
  have HX : Hid (Box2 w0 w.heap.size #[.int .u64 (a : Int), .int .u64 (q : Int)]) := hbx
  have HW : Hid (Below w.heap.size w w0) := hbw
  clear hbx hbw
  go_region_held3 (fun W => W.cell? ⟨w.heap.size, 0, none⟩ = some (.int .u64 (a : Int)) ∧ W.cell? ⟨w.heap.size, 1, none⟩ = some (.int .u64 (q : Int))) (go_keep) (first | (go_at_call 17; refine (hr _).mono ?_; rintro e w1 ⟨rfl, hb1⟩; have X1 : Hid (Below w0.heap.size w0 w1) := below_undrew hb1; obtain ⟨p0, p1, _, _⟩ := (HX.out.step X1.out).facts; clear hb1))
  go_wp2_with fail
  go_ret
  exact ⟨ret_bool rfl, HW.out.trans (X1.out.mono HW.out.size)⟩
theorem holds_any (p q a n : Nat) (ha : a < 18446744073709551616) (hn : n < 9223372036854775808) (w : World) : Calls Try.prog 18 #[.agg #[.int .u64 (p : Int), .int .u64 (q : Int)], .int .u64 (a : Int), .int .i64 (n : Int)] w fun e w' => e = .returned (.bool (decide (0 < n ∧ p = a ∧ q = n))) ∧ Below w.heap.size w w' := by
  by_cases h0 : 0 < n
  · by_cases hp : p = a
    · subst hp
      by_cases hq : q = n
      · subst hq
        rw [show decide (0 < q ∧ p = p ∧ q = q) = true from by simp [h0]]
        exact holds_yes p q ha hn h0 w
      · rw [show decide (0 < n ∧ p = p ∧ q = n) = false from by simp [hq]]
        exact holds_len q p n hq ha hn h0 w
    · rw [show decide (0 < n ∧ p = a ∧ q = n) = false from by simp [hp]]
      exact holds_at p q a n hp ha hn h0 w
  · obtain rfl : n = 0 := by omega
    rw [show decide (0 < 0 ∧ p = a ∧ q = 0) = false from by simp]
    go_enter Try.func18, Try.ntmps18
    go_wp2_with fail
    have hbw : Below w.heap.size w (w.alloc (.cells #[.int .u64 (p : Int), .int .u64 (q : Int)] 34)) := (Below.refl _ _).alloc (Nat.le_refl _) _
    generalize w.alloc (.cells #[.int .u64 (p : Int), .int .u64 (q : Int)] 34) = w0 at *
    have HW : Hid (Below w.heap.size w w0) := hbw
    clear hbw
    go_quiet (fail)
    go_wp2_with fail
    go_ret
    exact ⟨rfl, below_drewN HW.out nq⟩
def brN (c : Bool) (p : Nat) : Nat := if c then 0 else p
theorem broken_any (p q a n : Nat) (hp : p < 18446744073709551616) (hq : q < 18446744073709551616) (ha : a < 18446744073709551616) (hn : n < 18446744073709551616) (w : World) : Calls Try.prog 19 #[.agg #[.int .u64 (p : Int), .int .u64 (q : Int)], .int .u64 (a : Int), .int .u64 (n : Int)] w fun e w' => e = .returned (.agg #[.int .u64 ((brN (ovB p q a n) p : Nat) : Int), .int .u64 ((brN (ovB p q a n) q : Nat) : Int)]) ∧ Below w.heap.size w w' := by
  have ho : ∀ w, Calls Try.prog 29 #[.int .u64 (p : Int), .int .u64 (q : Int), .int .u64 (a : Int), .int .u64 (n : Int)] w fun e w' => e = .returned (.bool (ovB p q a n)) ∧ w' = w := fun w => overlap_any p q a n (by omega) (by omega) (by omega) (by omega) w
  cases hv : ovB p q a n <;> rw [hv] at ho <;> clear hv
  all_goals
    simp only [brN, if_true, if_false, Bool.false_eq_true]
    go_enter Try.func19, Try.ntmps19
    go_wp2_with (first | (go_at_call 29; refine (ho _).mono ?_; rintro e w' ⟨rfl, rfl⟩))
    refine bodyPost_ret (v := .agg #[.int .u64 _, .int .u64 _]) (by simp [results, Try.results19, go_sem]) rfl ⟨rfl, two_new _ _ _⟩
end Go.Proofs.Ytcpaddnigembkaa
