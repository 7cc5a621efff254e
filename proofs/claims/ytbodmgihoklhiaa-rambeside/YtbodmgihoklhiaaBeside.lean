/- The statement on what lies beside returns true for every input. -/
import Derived.Test.YtbodmgihoklhiaaOpen
namespace Go.Proofs.Ytbodmgihoklhiaa
open Go.ChangeShapes Go.WideShapes Go.ChangeAt Go.RowKit Go.Maps
set_option linter.unusedVariables false
theorem load_back (M : Nat → Nat) (x y : Nat) (k : Int) (s : Nat) (h : putB x k s = true) : loadV (over M x k.toNat (byteAt y)) x k s = y % 256 ^ k.toNat := by
  unfold loadV
  rw [if_pos h, h256_congr _ (byteAt y) k.toNat 0 (fun j hj => by rw [Nat.zero_add, over_in _ _ _ _ _ hj]), h256_byteAt]
theorem load_beside (M : Nat → Nat) (x y t : Nat) (k : Int) (s : Nat) (h : ¬ (x ≤ t ∧ t < x + k.toNat)) : loadV (over M x k.toNat (byteAt y)) t 1 s = loadV M t 1 s := by
  unfold loadV
  split
  · simp only [show (1 : Int).toNat = 1 from rfl, h256, Nat.add_zero]
    unfold over
    rw [if_neg h]
  · rfl
theorem open_agg {P : Program} {W : World} {r : Reach} {b0 : Nat} {t : TypeId} {fs : Array Field} {v : Value} (ht : P.underlying t = some (.struct fs)) (hv : Value.okWide P W r b0 t v) : ∃ cs, v = .agg cs := by
  obtain ⟨cs, rfl, _⟩ : ∃ cs, v = .agg cs ∧ cs.size = P.cellsOf t ∧ Row.okWide P W r b0 t cs := by
    simpa [Value.okWide, ht] using hv
  exact ⟨cs, rfl⟩
set_option maxRecDepth 100000 in
theorem open_opv {H : Type} {enc : TypeId × Value → H} {W : World} {held : Bool} {r : Reach} {b0 : Nat} {v : Value} {d : DataW H} {p : List MemPlace} (hv : Value.okWide Try.prog W r b0 42 v) (h : DataW.Trod enc Try.prog W 0 (fun _ => true) held 42 v d p) :
    ∃ o : OpD, v = .agg o.cells ∧ o.In (fun q => W.heap.size ≤ q) W ∧ o.l ≤ 9223372036854775807 := by
  obtain ⟨cs, rfl⟩ := open_agg Try.underlying42 hv
  obtain ⟨fuel, hf⟩ := h
  obtain ⟨o, ho, h1, h2⟩ := open_op hf
  refine ⟨o, ?_, h1, h2⟩
  simp only [Value.cells] at ho
  rw [show cs = o.cells from Array.toList_inj.1 ho]
theorem mask8 (y : Nat) (hy : y < 18446744073709551616) : bits .and .u64 (y : Nat) 255 = ((y % 256 : Nat) : Int) := by
  have := bits_and_u64_nat y 255 hy (by omega)
  rw [show ((255 : Nat) : Int) = 255 from rfl] at this
  rw [this, show (255 : Nat) = 2 ^ 8 - 1 from rfl, Nat.and_two_pow_sub_one_eq_mod]
theorem mask16 (y : Nat) (hy : y < 18446744073709551616) : bits .and .u64 (y : Nat) 65535 = ((y % 65536 : Nat) : Int) := by
  have := bits_and_u64_nat y 65535 hy (by omega)
  rw [show ((65535 : Nat) : Int) = 65535 from rfl] at this
  rw [this, show (65535 : Nat) = 2 ^ 16 - 1 from rfl, Nat.and_two_pow_sub_one_eq_mod]
theorem mask32 (y : Nat) (hy : y < 18446744073709551616) : bits .and .u64 (y : Nat) 4294967295 = ((y % 4294967296 : Nat) : Int) := by
  have := bits_and_u64_nat y 4294967295 hy (by omega)
  rw [show ((4294967295 : Nat) : Int) = 4294967295 from rfl] at this
  rw [this, show (4294967295 : Nat) = 2 ^ 32 - 1 from rfl, Nat.and_two_pow_sub_one_eq_mod]
theorem load_8192 {w : World} {F : Nat → Prop} {rb n : Nat} {lg : Value} {M : Nat → Nat} (h : RamAt w F rb 8192 n lg M) (x : Nat) (k : Int) (hx : x < 18446744073709551616) :
    Calls Try.prog 16 #[.pointer (some ⟨rb, 0, none⟩), .int .u64 (x : Nat), .int .i64 k] w fun e w' => e = .returned (.tuple #[.int .u64 (loadV M x k 8192 : Nat), .bool (putB x k 8192)]) ∧ Below w.heap.size w w' := load_any h (by omega) x k hx
theorem store_8192 {w : World} {F : Nat → Prop} {rb n : Nat} {M : Nat → Nat} (h : RamAt w F rb 8192 n (.pointer none) M) (x : Nat) (k : Int) (y : Nat) (hx : x < 18446744073709551616) (hy : y < 18446744073709551616) (hn : n + 8 ≤ 1000000) :
    Calls Try.prog 17 #[.pointer (some ⟨rb, 0, none⟩), .int .u64 (x : Nat), .int .i64 k, .int .u64 (y : Nat)] w fun e w' => e = .returned (.bool (putB x k 8192)) ∧ ∃ F', RamAt w' F' rb 8192 (n + 8) (.pointer none) (if putB x k 8192 = true then over M x k.toNat (byteAt y) else M) ∧ Step F w F' w' := store_any h (by omega) x k y hx hy hn
/-- what the statement holds at its end -/
def endB (x : Nat) (k : Int) (t was now : Nat) : Bool := (decide (x ≤ t) && decide (((t - x : Nat) : Int) < k)) || now == was
set_option maxHeartbeats 4000000 in
theorem beside_core (W : World) (v : Value) (len : Nat) (ops : Nat → OpD) (hsc : ScriptIn W v len ops) (z : Int) (x : Nat) (k : Int) (y : Nat) (oa : Option Addr) (ol oc t : Nat) (ht : t < 18446744073709551616) (hx : x < 18446744073709551616) (hy : y < 18446744073709551616) :
    Calls Try.prog 5 #[v, .agg #[.int .i64 z, .int .u64 (x : Nat), .int .i64 k, .int .u64 (y : Nat), .slice oa ol oc], .int .u64 (t : Nat)] W fun e w' => e = .returned (.bool true) ∧ Below W.heap.size W w' := by
  have HS : Hid _ := hsc
  clear hsc
  go_enter Try.func5, Try.ntmps5
  go_wp2_with (first | (go_at_call 9; refine (awake_any _).mono ?_; rintro e w1 ⟨rfl, hb1⟩; have h01 : Below W.heap.size W w1 := ((Below.refl _ _).alloc (Nat.le_refl _) _).trans (hb1.mono (by simp)); have x1 := below_box (heap_alloc_new W _) hb1))
  refine (played_any _ v len ops (ScriptIn.below HS.out h01)).mono ?_
  rintro e w2 ⟨pv, a, n, c, rfl, hBl, rfl | ⟨rb, F, M, rfl, hboth, hFW⟩⟩
  · go_wp2
    go_ret
    exact ⟨rfl, (h01.trans (hBl.mono h01.size)).alloc (Nat.le_trans h01.size hBl.size) _⟩
  · have hw0 : W.heap.size < w1.heap.size := by have := hb1.size; simp at this; omega
    have x2 := below_box x1 hBl
    have hal : Below w2.heap.size w2 (w2.alloc (.cells #[.int .u64 8192, .slice a n c] 28)) := (Below.refl _ _).alloc (Nat.le_refl _) _
    have h02 : Below W.heap.size W w2 := h01.trans (hBl.mono h01.size)
    have h03 : Below W.heap.size W (w2.alloc (.cells #[.int .u64 8192, .slice a n c] 28)) := h02.trans (hal.mono h02.size)
    have x3 := below_box x2 hal
    have hr3 := hboth.1.below hal
    have hFn : ¬ F W.heap.size := fun hq => by have := hFW _ hq; omega
    have hFW0 : ∀ q, F q → W.heap.size ≤ q := fun q hq => by have := hFW q hq; omega
    clear hb1 h01 x1 x2 hal h02 hboth hFW hBl
    have X : Hid (_ ∧ _ ∧ _ ∧ _ ∧ _) := ⟨h03, x3, hr3, hFn, hFW0⟩
    clear h03 x3 hr3 hFn hFW0
    cases hp : putB x k 8192 with
    | false =>
      have HP : Hid (putB x k 8192 = false) := hp
      clear hp
      go_wp2_with (first | (go_at_call 16; refine (load_8192 X.out.2.2.1 t 1 ht).mono ?_; rintro e w4 ⟨rfl, hb4⟩; obtain ⟨q0, q1, q2, q3, q4⟩ := box5_facts (below_box X.out.2.1 hb4); have Y : Hid _ := hb4; clear hb4) | (go_at_call 17; refine (store_8192 (X.out.2.2.1.below Y.out) x k y hx hy (by omega)).mono ?_; rw [HP.out]; rintro e w5 ⟨rfl, F5, h5, hs5⟩))
      go_ret
      have h04 : Below W.heap.size W w4 := X.out.1.trans (Y.out.mono X.out.1.size)
      exact ⟨rfl, h04.trans (hs5.below h04.size X.out.2.2.2.2)⟩
    | true =>
      have hw := hp
      simp only [putB, Bool.and_eq_true] at hw
      have hk : k = 1 ∨ k = 2 ∨ k = 4 ∨ k = 8 := by simpa [widB] using hw.1
      have hlb := load_back M x y k 8192 hp
      have hbe := load_beside M x y t k 8192
      have hin : (2147483648 : Int) ≤ x ∧ (x : Int) + k ≤ 2147483648 + 8192 := by simpa [inB] using hw.2
      obtain ⟨b1, hb1⟩ : ∃ b, putB t 1 8192 = b := ⟨_, rfl⟩
      obtain ⟨was, hwas⟩ : ∃ u, loadV M t 1 8192 = u := ⟨_, rfl⟩
      obtain ⟨now, hnow⟩ : ∃ u, loadV (over M x k.toNat (byteAt y)) t 1 8192 = u := ⟨_, rfl⟩
      obtain ⟨vv, hvv⟩ : ∃ u, loadV (over M x k.toNat (byteAt y)) x k 8192 = u := ⟨_, rfl⟩
      have hv1 : vv = y % 256 ^ k.toNat := by rw [← hvv, hlb]
      have hend : (x ≤ t ∧ t < x + k.toNat) ∨ now = was := by
        by_cases h : x ≤ t ∧ t < x + k.toNat
        · exact .inl h
        · right; rw [← hnow, ← hwas]; exact hbe h
      have HP : Hid (_ ∧ _ ∧ _ ∧ _ ∧ _ ∧ _ ∧ _) := ⟨hp, hb1, hwas, hnow, hvv, hv1, hend⟩
      clear hp hw hlb hbe hb1 hwas hnow hvv hv1 hend
      go_wp2_with (first | (go_at_call 16; refine (load_8192 X.out.2.2.1 t 1 ht).mono ?_; rw [HP.out.2.1, HP.out.2.2.1]; rintro e w4 ⟨rfl, hb4⟩; obtain ⟨q0, q1, q2, q3, q4⟩ := box5_facts (below_box X.out.2.1 hb4); have Y : Hid _ := hb4; clear hb4))
      refine (store_8192 (X.out.2.2.1.below Y.out) x k y hx hy (by omega)).mono ?_
      rw [HP.out.1, if_pos rfl]
      rintro e w5 ⟨rfl, F5, h5, hs5⟩
      have x5 := step_box hs5 (below_box X.out.2.1 Y.out) X.out.2.2.2.1
      have h04 : Below W.heap.size W w4 := X.out.1.trans (Y.out.mono X.out.1.size)
      have h05 : Below W.heap.size W w5 := h04.trans (hs5.below h04.size X.out.2.2.2.2)
      have Z : Hid (_ ∧ _ ∧ _) := ⟨h5, h05, x5⟩
      clear h5 hs5 x5 h04 h05 q0 q1 q2 q3 q4
      go_wp2_with fail
      refine (load_8192 Z.out.1 t 1 ht).mono ?_
      rw [HP.out.2.1, HP.out.2.2.2.1]
      rintro e w6 ⟨rfl, hb6⟩
      have x6 := below_box Z.out.2.2 hb6
      obtain ⟨q0, q1, q2, q3, q4⟩ := box5_facts x6
      have U : Hid (_ ∧ _) := ⟨hb6, x6⟩
      clear hb6 x6
      go_wp2_with fail
      refine (load_8192 (Z.out.1.below U.out.1) x k hx).mono ?_
      rw [HP.out.1, HP.out.2.2.2.2.1]
      rintro e w7 ⟨rfl, hb7⟩
      clear q0 q1 q2 q3 q4
      obtain ⟨q0, q1, q2, q3, q4⟩ := box5_facts (below_box U.out.2 hb7)
      have h06 : Below W.heap.size W w6 := Z.out.2.1.trans (U.out.1.mono Z.out.2.1.size)
      have h07 : Below W.heap.size W w7 := h06.trans (hb7.mono h06.size)
      have V : Hid _ := h07
      clear hb7 h06 h07
      rcases hk with rfl | rfl | rfl | rfl
      · have hm := mask8 y hy
        have hvy : vv = y % 256 := by have h := HP.out.2.2.2.2.2.1; rw [show (256 ^ Int.toNat 1 : Nat) = 256 from by decide] at h; exact h
        have HE : Hid ((x ≤ t ∧ t < x + 1) ∨ now = was) := HP.out.2.2.2.2.2.2
        clear HP
        go_wp2
        go_quiet (fail)
        go_wp2
        all_goals
          go_ret
          have he := HE.out
          refine ⟨ret_bool ?_, below_drewN V.out nq⟩
          first
            | rfl
            | (have hnw : now = was := by (rcases he with h | h; · omega; · exact h)
               rw [hnw]; simp)
            | (rw [Bool.eq_iff_iff]; simp; omega)
      · have hm := mask16 y hy
        have hvy : vv = y % 65536 := by have h := HP.out.2.2.2.2.2.1; rw [show (256 ^ Int.toNat 2 : Nat) = 65536 from by decide] at h; exact h
        have HE : Hid ((x ≤ t ∧ t < x + 2) ∨ now = was) := HP.out.2.2.2.2.2.2
        clear HP
        go_wp2
        go_quiet (fail)
        go_wp2
        all_goals
          go_ret
          have he := HE.out
          refine ⟨ret_bool ?_, below_drewN V.out nq⟩
          first
            | rfl
            | (have hnw : now = was := by (rcases he with h | h; · omega; · exact h)
               rw [hnw]; simp)
            | (rw [Bool.eq_iff_iff]; simp; omega)
      · have hm := mask32 y hy
        have hvy : vv = y % 4294967296 := by have h := HP.out.2.2.2.2.2.1; rw [show (256 ^ Int.toNat 4 : Nat) = 4294967296 from by decide] at h; exact h
        have HE : Hid ((x ≤ t ∧ t < x + 4) ∨ now = was) := HP.out.2.2.2.2.2.2
        clear HP
        go_wp2
        go_quiet (fail)
        go_wp2
        all_goals
          go_ret
          have he := HE.out
          refine ⟨ret_bool ?_, below_drewN V.out nq⟩
          first
            | rfl
            | (have hnw : now = was := by (rcases he with h | h; · omega; · exact h)
               rw [hnw]; simp)
            | (rw [Bool.eq_iff_iff]; simp; omega)
      · have hvy : vv = y := by have h := HP.out.2.2.2.2.2.1; rw [show (256 ^ Int.toNat 8 : Nat) = 18446744073709551616 from by decide] at h; omega
        have HE : Hid ((x ≤ t ∧ t < x + 8) ∨ now = was) := HP.out.2.2.2.2.2.2
        clear HP
        go_wp2
        go_quiet (fail)
        go_wp2
        all_goals
          go_ret
          have he := HE.out
          refine ⟨ret_bool ?_, below_drewN V.out nq⟩
          first
            | rfl
            | (have hnw : now = was := by (rcases he with h | h; · omega; · exact h)
               rw [hnw]; simp)
            | (rw [Bool.eq_iff_iff]; simp; omega)
theorem beside_walk (W : World) (v : Value) (len : Nat) (ops : Nat → OpD) (hsc : ScriptIn W v len ops) (o : OpD) (ho : o.In (fun q => W.heap.size ≤ q) W) (hl : o.l ≤ 9223372036854775807) (a2 : Int) (w2 : (Lit.int .u64 a2).wf = true) :
    Calls Try.prog 5 #[v, .agg o.cells, .int .u64 a2] W fun e w' => e = .returned (.bool true) ∧ Below W.heap.size W w' := by
  obtain ⟨t, rfl, ht⟩ := nat_u64 w2
  obtain ⟨z, x, k, y, oa, ol, oc⟩ := o
  exact beside_core W v len ops hsc z x k y oa ol oc t ht ho.1 ho.2.1
end Go.Proofs.Ytbodmgihoklhiaa
