/- The document's get and set of one byte. -/
import Derived.Test.YtaiagfdlglidfaaDa
namespace Go.Proofs.Ytaiagfdlglidfaa
open Go.RowKit
set_option linter.unusedVariables false
set_option linter.unusedSimpArgs false
set_option maxRecDepth 100000
theorem get_byte (x i : Nat) (hi : i < 8) : E.getN x (i * 8 : Nat) 8 = byteAt x i := by
  rw [E.getN_in _ _ _ (by omega), show (min (8 : Int) 64).toNat = 8 from by decide]
  unfold byteAt
  rw [pow_256, Nat.mul_comm i 8]
theorem u8_small (x : Nat) (h : x ≤ 255) : IntKind.u8.wrap (x : Int) = x := by
  simp [IntKind.wrap, IntKind.signed, IntKind.bits]; omega
/-- two boxes ahead of all that is new -/
def Two (w V : World) (c d : Array Value) : Prop := V.heap[w.heap.size]? = some (.cells c 28 (0, 0)) ∧ V.heap[w.heap.size + 1]? = some (.cells d 28 (0, 0)) ∧ Below w.heap.size w V
theorem Two.step {w V V' : World} {c d : Array Value} (h : Two w V c d) (hb : Below V.heap.size V V') : Two w V' c d := ⟨below_box h.1 hb, below_box h.2.1 hb, h.2.2.trans (hb.mono h.2.2.size)⟩
theorem Two.new (w : World) (c d : Array Value) : Two w ((w.alloc (.cells c 28)).alloc (.cells d 28)) c d := by
  have h1 := Box.new 28 w c
  have h2 := Box.new 28 (w.alloc (.cells c 28)) d
  have e : (w.alloc (.cells c 28)).heap.size = w.heap.size + 1 := by simp
  rw [e] at h2
  exact ⟨h1.alloc _, h2, ((Below.refl _ _).alloc (Nat.le_refl _) _).alloc (by simp) _⟩
theorem Two.set {w V : World} {c d : Array Value} (h : Two w V c d) (i : Nat) (v : Value) : Two w (V.setCell ⟨w.heap.size, i, none⟩ v) (c.setIfInBounds i v) d :=
  ⟨Box.set (t := 28) h.1 i v, Box.other (t := 28) h.2.1 i v (by omega), h.2.2.setCell (p := ⟨w.heap.size, i, none⟩) (Nat.le_refl _) v⟩
theorem Two.res {w V : World} {c d : Array Value} (h : Two w V c d) (u0 u1 u2 : Value) : Below w.heap.size w (((V.setCell ⟨w.heap.size + 1, 0, none⟩ u0).setCell ⟨w.heap.size + 1, 1, none⟩ u1).setCell ⟨w.heap.size + 1, 2, none⟩ u2) :=
  ((h.2.2.setCell (p := ⟨w.heap.size + 1, 0, none⟩) (Nat.le_succ _) u0).setCell (p := ⟨w.heap.size + 1, 1, none⟩) (Nat.le_succ _) u1).setCell (p := ⟨w.heap.size + 1, 2, none⟩) (Nat.le_succ _) u2
theorem get_cmp (s : Bool) (c t a : Nat) (hc : c < 18446744073709551616) (ha : 16384 ≤ a ∧ a < 16392) (w : World) : Calls Try.prog 29 #[.agg #[.bool s, .int .u64 (c : Int), .int .u64 (t : Int)], .int .u64 (a : Int)] w fun e w' => e = .returned (.int .u8 (byteAt c (a - 16384) : Nat)) ∧ Below w.heap.size w w' := by
  have cg : ∀ V, Calls Try.prog 37 #[.int .u64 (c : Int), .int .i64 (((a : Int) - 16384) * 8), .int .i64 8] V fun e w' => e = .returned (.int .u64 (byteAt c (a - 16384) : Nat)) ∧ Below V.heap.size V w' := fun V => by
    have h := E.rget_all c (((a - 16384) * 8 : Nat) : Int) 8 hc V V (Below.refl _ _)
    rw [get_byte _ _ (by omega), show ((((a - 16384) * 8 : Nat) : Int)) = ((a : Int) - 16384) * 8 from by omega] at h
    exact h
  have hw := u8_small _ (byteAt_le c (a - 16384))
  have h1 : (16384 : Int) ≤ (a : Int) := by omega
  have h2 : (a : Int) < 16392 := by omega
  have hn0 : ¬ (a : Int) = 0 := by omega
  generalize byteAt c (a - 16384) = y at *
  have hb0 : Below w.heap.size w (w.alloc (.cells #[.bool s, .int .u64 (c : Int), .int .u64 (t : Int)] 28)) := (Below.refl _ _).alloc (Nat.le_refl _) _
  have hx0 : Box 28 (w.alloc (.cells #[.bool s, .int .u64 (c : Int), .int .u64 (t : Int)] 28)) w.heap.size #[.bool s, .int .u64 (c : Int), .int .u64 (t : Int)] := Box.new 28 w _
  go_enter Try.func29, Try.ntmps29
  go_upto_region 1 with fail
  generalize w.alloc (.cells #[.bool s, .int .u64 (c : Int), .int .u64 (t : Int)] 28) = w0 at *
  have f0 := hx0.cell 0 _ rfl
  have f1 := hx0.cell 1 _ rfl
  have f2 := hx0.cell 2 _ rfl
  have HB : Hid (Below w.heap.size w w0) := hb0
  clear hb0 hx0
  go_wp2_with fail
  refine (cg _).mono ?_
  rintro e w1 ⟨rfl, hb⟩
  have HB1 : Hid (Below w.heap.size w w1) := HB.out.trans (hb.mono HB.out.size)
  clear hb
  go_wp2_with fail
  go_ret
  exact ⟨rfl, HB1.out⟩
theorem get_now (s : Bool) (c t a : Nat) (ht : t < 18446744073709551616) (ha : 49144 ≤ a ∧ a < 49152) (w : World) : Calls Try.prog 29 #[.agg #[.bool s, .int .u64 (c : Int), .int .u64 (t : Int)], .int .u64 (a : Int)] w fun e w' => e = .returned (.int .u8 (byteAt t (a - 49144) : Nat)) ∧ Below w.heap.size w w' := by
  have cg : ∀ V, Calls Try.prog 37 #[.int .u64 (t : Int), .int .i64 (((a : Int) - 49144) * 8), .int .i64 8] V fun e w' => e = .returned (.int .u64 (byteAt t (a - 49144) : Nat)) ∧ Below V.heap.size V w' := fun V => by
    have h := E.rget_all t (((a - 49144) * 8 : Nat) : Int) 8 ht V V (Below.refl _ _)
    rw [get_byte _ _ (by omega), show ((((a - 49144) * 8 : Nat) : Int)) = ((a : Int) - 49144) * 8 from by omega] at h
    exact h
  have hw := u8_small _ (byteAt_le t (a - 49144))
  have h1 : (49144 : Int) ≤ (a : Int) := by omega
  have h2 : (a : Int) < 49152 := by omega
  have h3 : ¬ (a : Int) < 16392 := by omega
  have h4 : (16384 : Int) ≤ (a : Int) := by omega
  have hn0 : ¬ (a : Int) = 0 := by omega
  generalize byteAt t (a - 49144) = y at *
  have hb0 : Below w.heap.size w (w.alloc (.cells #[.bool s, .int .u64 (c : Int), .int .u64 (t : Int)] 28)) := (Below.refl _ _).alloc (Nat.le_refl _) _
  have hx0 : Box 28 (w.alloc (.cells #[.bool s, .int .u64 (c : Int), .int .u64 (t : Int)] 28)) w.heap.size #[.bool s, .int .u64 (c : Int), .int .u64 (t : Int)] := Box.new 28 w _
  go_enter Try.func29, Try.ntmps29
  go_upto_region 1 with fail
  generalize w.alloc (.cells #[.bool s, .int .u64 (c : Int), .int .u64 (t : Int)] 28) = w0 at *
  have f0 := hx0.cell 0 _ rfl
  have f1 := hx0.cell 1 _ rfl
  have f2 := hx0.cell 2 _ rfl
  have HB : Hid (Below w.heap.size w w0) := hb0
  clear hb0 hx0
  go_wp2_with fail
  refine (cg _).mono ?_
  rintro e w1 ⟨rfl, hb⟩
  have HB1 : Hid (Below w.heap.size w w1) := HB.out.trans (hb.mono HB.out.size)
  clear hb
  go_wp2_with fail
  go_ret
  exact ⟨rfl, HB1.out⟩
theorem get_soft (s : Bool) (c t : Nat) (w : World) : Calls Try.prog 29 #[.agg #[.bool s, .int .u64 (c : Int), .int .u64 (t : Int)], .int .u64 0] w fun e w' => e = .returned (.int .u8 (flN s : Nat)) ∧ Below w.heap.size w w' := by
  cases s
  all_goals
    go_enter Try.func29, Try.ntmps29
    go_wp2_with fail
    go_ret
    exact ⟨by simp [flN], (Below.refl _ _).alloc (Nat.le_refl _) _⟩
theorem get_else (s : Bool) (c t a : Nat) (h0 : ¬ a = 0) (h1 : ¬ (16384 ≤ a ∧ a < 16392)) (h2 : ¬ (49144 ≤ a ∧ a < 49152)) (w : World) : Calls Try.prog 29 #[.agg #[.bool s, .int .u64 (c : Int), .int .u64 (t : Int)], .int .u64 (a : Int)] w fun e w' => e = .returned (.int .u8 0) ∧ Below w.heap.size w w' := by
  have n0 : ¬ (a : Int) = 0 := by omega
  have n1 : ((a : Int) == 0) = false := by simp; omega
  by_cases k1 : a < 16384
  · have d1 : ¬ (16384 : Int) ≤ (a : Int) := by omega
    have d2 : ¬ (49144 : Int) ≤ (a : Int) := by omega
    clear h0 h1 h2 k1
    go_enter Try.func29, Try.ntmps29
    go_wp2_with fail
    go_ret
    exact ⟨rfl, (Below.refl _ _).alloc (Nat.le_refl _) _⟩
  have d1 : (16384 : Int) ≤ (a : Int) := by omega
  have d2 : ¬ (a : Int) < 16392 := by omega
  by_cases k2 : a < 49144
  · have d3 : ¬ (49144 : Int) ≤ (a : Int) := by omega
    clear h0 h1 h2 k1 k2
    go_enter Try.func29, Try.ntmps29
    go_wp2_with fail
    go_ret
    exact ⟨rfl, (Below.refl _ _).alloc (Nat.le_refl _) _⟩
  have d3 : (49144 : Int) ≤ (a : Int) := by omega
  have d4 : ¬ (a : Int) < 49152 := by omega
  clear h0 h1 h2 k1 k2
  go_enter Try.func29, Try.ntmps29
  go_wp2_with fail
  go_ret
  exact ⟨rfl, (Below.refl _ _).alloc (Nat.le_refl _) _⟩
theorem get_any (s : Bool) (c t a : Nat) (hc : c < 18446744073709551616) (ht : t < 18446744073709551616) (w : World) : Calls Try.prog 29 #[.agg #[.bool s, .int .u64 (c : Int), .int .u64 (t : Int)], .int .u64 (a : Int)] w fun e w' => e = .returned (.int .u8 (byteR s c t a : Nat)) ∧ Below w.heap.size w w' := by
  unfold byteR
  by_cases h1 : 16384 ≤ a ∧ a < 16392
  · rw [if_pos h1]; exact get_cmp s c t a hc h1 w
  rw [if_neg h1]
  by_cases h2 : 49144 ≤ a ∧ a < 49152
  · rw [if_pos h2]; exact get_now s c t a ht h2 w
  rw [if_neg h2]
  by_cases h0 : a = 0
  · rw [if_pos h0]; subst h0; exact get_soft s c t w
  rw [if_neg h0]; exact get_else s c t a h0 h1 h2 w
set_option maxHeartbeats 1000000 in
theorem set_cmp (s : Bool) (c t a b : Nat) (hc : c < 18446744073709551616) (hb : b ≤ 255) (ha : 16384 ≤ a ∧ a < 16392) (w : World) : Calls Try.prog 21 #[.agg #[.bool s, .int .u64 (c : Int), .int .u64 (t : Int)], .int .u64 (a : Int), .int .u8 (b : Int)] w fun e w' => e = .returned (.agg #[.bool s, .int .u64 (E.putA c ((a - 16384) * 8 : Nat) 8 b : Nat), .int .u64 (t : Int)]) ∧ Below w.heap.size w w' := by
  have cg : ∀ V, Calls Try.prog 32 #[.int .u64 (c : Int), .int .i64 (((a : Int) - 16384) * 8), .int .i64 8, .int .u64 (b : Int)] V fun e w' => e = .returned (.int .u64 (E.putA c ((a - 16384) * 8 : Nat) 8 b : Nat)) ∧ Below V.heap.size V w' := fun V => by
    have h := E.rput_all c (((a - 16384) * 8 : Nat) : Int) 8 b hc (by omega) V V (Below.refl _ _)
    rw [show ((((a - 16384) * 8 : Nat) : Int)) = ((a : Int) - 16384) * 8 from by omega] at h ⊢
    exact h
  have h1 : (16384 : Int) ≤ (a : Int) := by omega
  have h2 : (a : Int) < 16392 := by omega
  have h3 : decide ((49144 : Int) ≤ (a : Int)) = false := by simp; omega
  have hn0 : ¬ (a : Int) = 0 := by omega
  have hn1 : ((a : Int) == 0) = false := by simp; omega
  have hwb : IntKind.u64.wrap (b : Int) = b := by rw [wrap_u64]; omega
  clear ha hb
  generalize (E.putA c ((a - 16384) * 8 : Nat) 8 b) = r at *
  have X0 : Hid (Two w ((w.alloc (.cells #[.bool s, .int .u64 (c : Int), .int .u64 (t : Int)] 28)).alloc (.cells #[.bool false, .int .u64 0, .int .u64 0] 28)) #[.bool s, .int .u64 (c : Int), .int .u64 (t : Int)] #[.bool false, .int .u64 0, .int .u64 0]) := Two.new w _ _
  go_enter Try.func21, Try.ntmps21
  go_upto_region 1 with fail
  generalize ((w.alloc (.cells #[.bool s, .int .u64 (c : Int), .int .u64 (t : Int)] 28)).alloc (.cells #[.bool false, .int .u64 0, .int .u64 0] 28)) = V0 at *
  have f0 := cellOf X0.out.1 0 _ rfl
  have f1 := cellOf X0.out.1 1 _ rfl
  have f2 := cellOf X0.out.1 2 _ rfl
  have g0 := cellOf X0.out.2.1 0 _ rfl
  have g1 := cellOf X0.out.2.1 1 _ rfl
  have g2 := cellOf X0.out.2.1 2 _ rfl
  have y0 := frozenOf X0.out.1 0
  have y1 := frozenOf X0.out.1 1
  have y2 := frozenOf X0.out.1 2
  have z0 := frozenOf X0.out.2.1 0
  have z1 := frozenOf X0.out.2.1 1
  have z2 := frozenOf X0.out.2.1 2
  go_wp2_with fail
  refine (cg _).mono ?_
  rintro e w1 ⟨rfl, hb⟩
  have X1 : Hid (Two w w1 #[.bool s, .int .u64 (c : Int), .int .u64 (t : Int)] #[.bool false, .int .u64 0, .int .u64 0]) := X0.out.step hb
  clear hb
  clear f0 g0 y0 z0 f1 g1 y1 z1 f2 g2 y2 z2
  have f0 := cellOf X1.out.1 0 _ rfl
  have f1 := cellOf X1.out.1 1 _ rfl
  have f2 := cellOf X1.out.1 2 _ rfl
  have g0 := cellOf X1.out.2.1 0 _ rfl
  have g1 := cellOf X1.out.2.1 1 _ rfl
  have g2 := cellOf X1.out.2.1 2 _ rfl
  have y0 := frozenOf X1.out.1 0
  have y1 := frozenOf X1.out.1 1
  have y2 := frozenOf X1.out.1 2
  have z0 := frozenOf X1.out.2.1 0
  have z1 := frozenOf X1.out.2.1 1
  have z2 := frozenOf X1.out.2.1 2
  go_upto_region 3 with fail
  have X2 : Hid (Two w (w1.setCell ⟨w.heap.size, 1, none⟩ (.int .u64 (r : Nat))) #[.bool s, .int .u64 (r : Nat), .int .u64 (t : Int)] #[.bool false, .int .u64 0, .int .u64 0]) := X1.out.set 1 _
  generalize w1.setCell ⟨w.heap.size, 1, none⟩ (.int .u64 (r : Nat)) = w2 at *
  clear f0 g0 y0 z0 f1 g1 y1 z1 f2 g2 y2 z2
  have f0 := cellOf X2.out.1 0 _ rfl
  have f1 := cellOf X2.out.1 1 _ rfl
  have f2 := cellOf X2.out.1 2 _ rfl
  have g0 := cellOf X2.out.2.1 0 _ rfl
  have g1 := cellOf X2.out.2.1 1 _ rfl
  have g2 := cellOf X2.out.2.1 2 _ rfl
  have y0 := frozenOf X2.out.1 0
  have y1 := frozenOf X2.out.1 1
  have y2 := frozenOf X2.out.1 2
  have z0 := frozenOf X2.out.2.1 0
  have z1 := frozenOf X2.out.2.1 1
  have z2 := frozenOf X2.out.2.1 2
  clear h1 h2
  go_wp2_with fail
  refine bodyPost_ret (v := .agg #[.bool s, .int .u64 (r : Nat), .int .u64 (t : Int)]) (by simp [results, Try.results21, go_sem, g0, g1, g2]) rfl ⟨rfl, ?_⟩
  exact X2.out.res _ _ _
set_option maxHeartbeats 1000000 in
theorem set_now (s : Bool) (c t a b : Nat) (ht : t < 18446744073709551616) (hb : b ≤ 255) (ha : 49144 ≤ a ∧ a < 49152) (w : World) : Calls Try.prog 21 #[.agg #[.bool s, .int .u64 (c : Int), .int .u64 (t : Int)], .int .u64 (a : Int), .int .u8 (b : Int)] w fun e w' => e = .returned (.agg #[.bool s, .int .u64 (c : Int), .int .u64 (E.putA t ((a - 49144) * 8 : Nat) 8 b : Nat)]) ∧ Below w.heap.size w w' := by
  have cg : ∀ V, Calls Try.prog 32 #[.int .u64 (t : Int), .int .i64 (((a : Int) - 49144) * 8), .int .i64 8, .int .u64 (b : Int)] V fun e w' => e = .returned (.int .u64 (E.putA t ((a - 49144) * 8 : Nat) 8 b : Nat)) ∧ Below V.heap.size V w' := fun V => by
    have h := E.rput_all t (((a - 49144) * 8 : Nat) : Int) 8 b ht (by omega) V V (Below.refl _ _)
    rw [show ((((a - 49144) * 8 : Nat) : Int)) = ((a : Int) - 49144) * 8 from by omega] at h ⊢
    exact h
  have h1 : (49144 : Int) ≤ (a : Int) := by omega
  have h2 : (a : Int) < 49152 := by omega
  have h3 : ¬ (a : Int) < 16392 := by omega
  have h4 : (16384 : Int) ≤ (a : Int) := by omega
  have hn0 : ¬ (a : Int) = 0 := by omega
  have hn1 : ((a : Int) == 0) = false := by simp; omega
  have hwb : IntKind.u64.wrap (b : Int) = b := by rw [wrap_u64]; omega
  clear ha hb
  generalize (E.putA t ((a - 49144) * 8 : Nat) 8 b) = r at *
  have X0 : Hid (Two w ((w.alloc (.cells #[.bool s, .int .u64 (c : Int), .int .u64 (t : Int)] 28)).alloc (.cells #[.bool false, .int .u64 0, .int .u64 0] 28)) #[.bool s, .int .u64 (c : Int), .int .u64 (t : Int)] #[.bool false, .int .u64 0, .int .u64 0]) := Two.new w _ _
  go_enter Try.func21, Try.ntmps21
  go_upto_region 1 with fail
  generalize ((w.alloc (.cells #[.bool s, .int .u64 (c : Int), .int .u64 (t : Int)] 28)).alloc (.cells #[.bool false, .int .u64 0, .int .u64 0] 28)) = V0 at *
  have f0 := cellOf X0.out.1 0 _ rfl
  have f1 := cellOf X0.out.1 1 _ rfl
  have f2 := cellOf X0.out.1 2 _ rfl
  have g0 := cellOf X0.out.2.1 0 _ rfl
  have g1 := cellOf X0.out.2.1 1 _ rfl
  have g2 := cellOf X0.out.2.1 2 _ rfl
  have y0 := frozenOf X0.out.1 0
  have y1 := frozenOf X0.out.1 1
  have y2 := frozenOf X0.out.1 2
  have z0 := frozenOf X0.out.2.1 0
  have z1 := frozenOf X0.out.2.1 1
  have z2 := frozenOf X0.out.2.1 2
  go_wp2_with fail
  refine (cg _).mono ?_
  rintro e w1 ⟨rfl, hb⟩
  have X1 : Hid (Two w w1 #[.bool s, .int .u64 (c : Int), .int .u64 (t : Int)] #[.bool false, .int .u64 0, .int .u64 0]) := X0.out.step hb
  clear hb
  clear f0 g0 y0 z0 f1 g1 y1 z1 f2 g2 y2 z2
  have f0 := cellOf X1.out.1 0 _ rfl
  have f1 := cellOf X1.out.1 1 _ rfl
  have f2 := cellOf X1.out.1 2 _ rfl
  have g0 := cellOf X1.out.2.1 0 _ rfl
  have g1 := cellOf X1.out.2.1 1 _ rfl
  have g2 := cellOf X1.out.2.1 2 _ rfl
  have y0 := frozenOf X1.out.1 0
  have y1 := frozenOf X1.out.1 1
  have y2 := frozenOf X1.out.1 2
  have z0 := frozenOf X1.out.2.1 0
  have z1 := frozenOf X1.out.2.1 1
  have z2 := frozenOf X1.out.2.1 2
  go_upto_region 3 with fail
  have X2 : Hid (Two w (w1.setCell ⟨w.heap.size, 2, none⟩ (.int .u64 (r : Nat))) #[.bool s, .int .u64 (c : Int), .int .u64 (r : Nat)] #[.bool false, .int .u64 0, .int .u64 0]) := X1.out.set 2 _
  generalize w1.setCell ⟨w.heap.size, 2, none⟩ (.int .u64 (r : Nat)) = w2 at *
  clear f0 g0 y0 z0 f1 g1 y1 z1 f2 g2 y2 z2
  have f0 := cellOf X2.out.1 0 _ rfl
  have f1 := cellOf X2.out.1 1 _ rfl
  have f2 := cellOf X2.out.1 2 _ rfl
  have g0 := cellOf X2.out.2.1 0 _ rfl
  have g1 := cellOf X2.out.2.1 1 _ rfl
  have g2 := cellOf X2.out.2.1 2 _ rfl
  have y0 := frozenOf X2.out.1 0
  have y1 := frozenOf X2.out.1 1
  have y2 := frozenOf X2.out.1 2
  have z0 := frozenOf X2.out.2.1 0
  have z1 := frozenOf X2.out.2.1 1
  have z2 := frozenOf X2.out.2.1 2
  go_wp2_with fail
  refine bodyPost_ret (v := .agg #[.bool s, .int .u64 (c : Int), .int .u64 (r : Nat)]) (by simp [results, Try.results21, go_sem, g0, g1, g2]) rfl ⟨rfl, ?_⟩
  exact X2.out.res _ _ _
theorem set_soft (s : Bool) (c t b : Nat) (hb : b ≤ 255) (w : World) : Calls Try.prog 21 #[.agg #[.bool s, .int .u64 (c : Int), .int .u64 (t : Int)], .int .u64 0, .int .u8 (b : Int)] w fun e w' => e = .returned (.agg #[.bool (b % 2 == 1), .int .u64 (c : Int), .int .u64 (t : Int)]) ∧ Below w.heap.size w w' := by
  have e1 : ((b : Int) % 2 == 1) = (b % 2 == 1) := by rw [Bool.eq_iff_iff]; simp; omega
  have e3 : decide ((b : Int) % 2 = 1) = (b % 2 == 1) := e1
  generalize (b % 2 == 1) = r at *
  have X0 : Hid (Two w ((w.alloc (.cells #[.bool s, .int .u64 (c : Int), .int .u64 (t : Int)] 28)).alloc (.cells #[.bool false, .int .u64 0, .int .u64 0] 28)) #[.bool s, .int .u64 (c : Int), .int .u64 (t : Int)] #[.bool false, .int .u64 0, .int .u64 0]) := Two.new w _ _
  go_enter Try.func21, Try.ntmps21
  go_upto_region 1 with fail
  generalize ((w.alloc (.cells #[.bool s, .int .u64 (c : Int), .int .u64 (t : Int)] 28)).alloc (.cells #[.bool false, .int .u64 0, .int .u64 0] 28)) = V0 at *
  have f0 := cellOf X0.out.1 0 _ rfl
  have f1 := cellOf X0.out.1 1 _ rfl
  have f2 := cellOf X0.out.1 2 _ rfl
  have g0 := cellOf X0.out.2.1 0 _ rfl
  have g1 := cellOf X0.out.2.1 1 _ rfl
  have g2 := cellOf X0.out.2.1 2 _ rfl
  have y0 := frozenOf X0.out.1 0
  have y1 := frozenOf X0.out.1 1
  have y2 := frozenOf X0.out.1 2
  have z0 := frozenOf X0.out.2.1 0
  have z1 := frozenOf X0.out.2.1 1
  have z2 := frozenOf X0.out.2.1 2
  go_upto_region 7 with fail
  have X2 : Hid (Two w (V0.setCell ⟨w.heap.size, 0, none⟩ (.bool r)) #[.bool r, .int .u64 (c : Int), .int .u64 (t : Int)] #[.bool false, .int .u64 0, .int .u64 0]) := X0.out.set 0 _
  generalize V0.setCell ⟨w.heap.size, 0, none⟩ (.bool r) = w2 at *
  clear f0 g0 y0 z0 f1 g1 y1 z1 f2 g2 y2 z2
  have f0 := cellOf X2.out.1 0 _ rfl
  have f1 := cellOf X2.out.1 1 _ rfl
  have f2 := cellOf X2.out.1 2 _ rfl
  have g0 := cellOf X2.out.2.1 0 _ rfl
  have g1 := cellOf X2.out.2.1 1 _ rfl
  have g2 := cellOf X2.out.2.1 2 _ rfl
  have y0 := frozenOf X2.out.1 0
  have y1 := frozenOf X2.out.1 1
  have y2 := frozenOf X2.out.1 2
  have z0 := frozenOf X2.out.2.1 0
  have z1 := frozenOf X2.out.2.1 1
  have z2 := frozenOf X2.out.2.1 2
  go_wp2_with fail
  refine bodyPost_ret (v := .agg #[.bool r, .int .u64 (c : Int), .int .u64 (t : Int)]) (by simp [results, Try.results21, go_sem, g0, g1, g2]) rfl ⟨rfl, ?_⟩
  exact X2.out.res _ _ _
theorem set_else (s : Bool) (c t a b : Nat) (h0 : ¬ a = 0) (h1 : ¬ (16384 ≤ a ∧ a < 16392)) (h2 : ¬ (49144 ≤ a ∧ a < 49152)) (w : World) : Calls Try.prog 21 #[.agg #[.bool s, .int .u64 (c : Int), .int .u64 (t : Int)], .int .u64 (a : Int), .int .u8 (b : Int)] w fun e w' => e = .returned (.agg #[.bool s, .int .u64 (c : Int), .int .u64 (t : Int)]) ∧ Below w.heap.size w w' := by
  have n0 : ¬ (a : Int) = 0 := by omega
  have n1 : ((a : Int) == 0) = false := by simp; omega
  by_cases k1 : a < 16384
  · have d1 : ¬ (16384 : Int) ≤ (a : Int) := by omega
    have d2 : ¬ (49144 : Int) ≤ (a : Int) := by omega
    clear h0 h1 h2 k1
    have X0 : Hid (Two w ((w.alloc (.cells #[.bool s, .int .u64 (c : Int), .int .u64 (t : Int)] 28)).alloc (.cells #[.bool false, .int .u64 0, .int .u64 0] 28)) #[.bool s, .int .u64 (c : Int), .int .u64 (t : Int)] #[.bool false, .int .u64 0, .int .u64 0]) := Two.new w _ _
    go_enter Try.func21, Try.ntmps21
    go_upto_region 1 with fail
    generalize ((w.alloc (.cells #[.bool s, .int .u64 (c : Int), .int .u64 (t : Int)] 28)).alloc (.cells #[.bool false, .int .u64 0, .int .u64 0] 28)) = V0 at *
    have f0 := cellOf X0.out.1 0 _ rfl
    have f1 := cellOf X0.out.1 1 _ rfl
    have f2 := cellOf X0.out.1 2 _ rfl
    have g0 := cellOf X0.out.2.1 0 _ rfl
    have g1 := cellOf X0.out.2.1 1 _ rfl
    have g2 := cellOf X0.out.2.1 2 _ rfl
    have y0 := frozenOf X0.out.1 0
    have y1 := frozenOf X0.out.1 1
    have y2 := frozenOf X0.out.1 2
    have z0 := frozenOf X0.out.2.1 0
    have z1 := frozenOf X0.out.2.1 1
    have z2 := frozenOf X0.out.2.1 2
    go_wp2_with fail
    refine bodyPost_ret (v := .agg #[.bool s, .int .u64 (c : Int), .int .u64 (t : Int)]) (by simp [results, Try.results21, go_sem, g0, g1, g2]) rfl ⟨rfl, ?_⟩
    exact X0.out.res _ _ _
  have d1 : (16384 : Int) ≤ (a : Int) := by omega
  have d2 : ¬ (a : Int) < 16392 := by omega
  by_cases k2 : a < 49144
  · have d3 : ¬ (49144 : Int) ≤ (a : Int) := by omega
    clear h0 h1 h2 k1 k2
    have X0 : Hid (Two w ((w.alloc (.cells #[.bool s, .int .u64 (c : Int), .int .u64 (t : Int)] 28)).alloc (.cells #[.bool false, .int .u64 0, .int .u64 0] 28)) #[.bool s, .int .u64 (c : Int), .int .u64 (t : Int)] #[.bool false, .int .u64 0, .int .u64 0]) := Two.new w _ _
    go_enter Try.func21, Try.ntmps21
    go_upto_region 1 with fail
    generalize ((w.alloc (.cells #[.bool s, .int .u64 (c : Int), .int .u64 (t : Int)] 28)).alloc (.cells #[.bool false, .int .u64 0, .int .u64 0] 28)) = V0 at *
    have f0 := cellOf X0.out.1 0 _ rfl
    have f1 := cellOf X0.out.1 1 _ rfl
    have f2 := cellOf X0.out.1 2 _ rfl
    have g0 := cellOf X0.out.2.1 0 _ rfl
    have g1 := cellOf X0.out.2.1 1 _ rfl
    have g2 := cellOf X0.out.2.1 2 _ rfl
    have y0 := frozenOf X0.out.1 0
    have y1 := frozenOf X0.out.1 1
    have y2 := frozenOf X0.out.1 2
    have z0 := frozenOf X0.out.2.1 0
    have z1 := frozenOf X0.out.2.1 1
    have z2 := frozenOf X0.out.2.1 2
    go_wp2_with fail
    refine bodyPost_ret (v := .agg #[.bool s, .int .u64 (c : Int), .int .u64 (t : Int)]) (by simp [results, Try.results21, go_sem, g0, g1, g2]) rfl ⟨rfl, ?_⟩
    exact X0.out.res _ _ _
  have d3 : (49144 : Int) ≤ (a : Int) := by omega
  have d4 : ¬ (a : Int) < 49152 := by omega
  clear h0 h1 h2 k1 k2
  have X0 : Hid (Two w ((w.alloc (.cells #[.bool s, .int .u64 (c : Int), .int .u64 (t : Int)] 28)).alloc (.cells #[.bool false, .int .u64 0, .int .u64 0] 28)) #[.bool s, .int .u64 (c : Int), .int .u64 (t : Int)] #[.bool false, .int .u64 0, .int .u64 0]) := Two.new w _ _
  go_enter Try.func21, Try.ntmps21
  go_upto_region 1 with fail
  generalize ((w.alloc (.cells #[.bool s, .int .u64 (c : Int), .int .u64 (t : Int)] 28)).alloc (.cells #[.bool false, .int .u64 0, .int .u64 0] 28)) = V0 at *
  have f0 := cellOf X0.out.1 0 _ rfl
  have f1 := cellOf X0.out.1 1 _ rfl
  have f2 := cellOf X0.out.1 2 _ rfl
  have g0 := cellOf X0.out.2.1 0 _ rfl
  have g1 := cellOf X0.out.2.1 1 _ rfl
  have g2 := cellOf X0.out.2.1 2 _ rfl
  have y0 := frozenOf X0.out.1 0
  have y1 := frozenOf X0.out.1 1
  have y2 := frozenOf X0.out.1 2
  have z0 := frozenOf X0.out.2.1 0
  have z1 := frozenOf X0.out.2.1 1
  have z2 := frozenOf X0.out.2.1 2
  go_wp2_with fail
  refine bodyPost_ret (v := .agg #[.bool s, .int .u64 (c : Int), .int .u64 (t : Int)]) (by simp [results, Try.results21, go_sem, g0, g1, g2]) rfl ⟨rfl, ?_⟩
  exact X0.out.res _ _ _
end Go.Proofs.Ytaiagfdlglidfaa
