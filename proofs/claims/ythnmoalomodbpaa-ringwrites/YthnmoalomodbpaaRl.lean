/- What the driver offers, on both sides. -/
import Derived.Test.YthnmoalomodbpaaRi
import Derived.Test.YthnmoalomodbpaaRg
import Derived.Deep.RegionHeld3
namespace Go.Proofs.Ythnmoalomodbpaa
open Go.RowKit Go.Maps
set_option linter.unusedVariables false
set_option linter.unusedSimpArgs false
set_option maxRecDepth 100000
/-- a layout that Check lets be, in a memory of 8192 bytes -/
structure Gd (n D A U : Nat) : Prop where
  chk : chkN (n : Int) D A U 8192 = 0
  n1 : 1 ≤ n
  n2 : n ≤ 256
  pw : powB (n : Int) = true
  a1 : 2147483648 ≤ A
  a2 : A + 6 + 2 * n ≤ 2147491840
  u1 : 2147483648 ≤ U
  u2 : U + 6 + 8 * n ≤ 2147491840
  d1 : D < 18446744073709551616
theorem gd_of {s : Int} {D A U : Nat} (h : chkN s D A U 8192 = 0) (hD : D < 18446744073709551616) : ∃ n : Nat, s = n ∧ Gd n D A U := by
  obtain ⟨n, rfl, h1, h2, h3, _, _, _, _, h4, h5⟩ := chk_zero h
  exact ⟨n, rfl, ⟨h, h1, h2, h3, h4.1, by omega, h5.1, by omega, hD⟩⟩
theorem pow_two {n : Nat} (h : powB (n : Int) = true) : ∃ k, k < 9 ∧ n = 2 ^ k := by
  have key : (List.range 257).all (fun n => !powB (n : Int) || (List.range 9).any (fun k => n == 2 ^ k)) = true := by decide +kernel
  obtain ⟨m, hm, _, h2⟩ := pow_in h
  have hm' : n = m := by omega
  subst hm'
  have h1 := List.all_eq_true.1 key n (List.mem_range.2 (by omega))
  rw [h] at h1
  simp only [Bool.not_true, Bool.false_or] at h1
  obtain ⟨k, hk, he⟩ := List.any_eq_true.1 h1
  exact ⟨k, List.mem_range.1 hk, by simpa using he⟩
theorem and_pow {n m : Nat} (h : powB (n : Int) = true) : m &&& (n - 1) = m % n := by
  obtain ⟨k, _, rfl⟩ := pow_two h
  exact Nat.and_two_pow_sub_one_eq_mod m k
theorem wrapi (y : Nat) (h : y < 9223372036854775808) : IntKind.i64.wrap (y : Int) = (y : Int) := by
  simp [IntKind.wrap, IntKind.signed, IntKind.bits]
  omega
theorem one_box (w : World) (o : Obj) : Below w.heap.size w (w.alloc o) := (Below.refl _ _).alloc (Nat.le_refl _) _
theorem slot_any {n D A U : Nat} (h : Gd n D A U) (m r : Nat) (hm : m ≤ 65535) (hr : r = m % n) (w : World) : Calls Try.prog 56 #[.agg #[.int .i64 (n : Int), .int .u64 (D : Int), .int .u64 (A : Int), .int .u64 (U : Int)], .int .u16 (m : Int)] w fun e w' => e = .returned (.int .u64 (r : Int)) ∧ Below w.heap.size w w' := by
  have h1 := h.n1
  have h2 := h.n2
  obtain ⟨p, hp⟩ : ∃ p, p = n - 1 := ⟨_, rfl⟩
  have e1 : IntKind.u64.wrap (m : Int) = (m : Int) := by rw [wrap_u64]; omega
  have e2 : wrap64 (p : Int) = (p : Int) := by unfold wrap64; omega
  have e2' : (n : Int) - 1 = (p : Int) := by omega
  have e3 : IntKind.u64.wrap (p : Int) = (p : Int) := by rw [wrap_u64]; omega
  have e4 : bits .and .u64 (m : Int) (p : Int) = (r : Int) := by rw [u64_and_nat m p (by omega) (by omega), hp, and_pow h.pw, hr]
  clear h hp hr h1 h2
  go_enter Try.func56, Try.ntmps56
  go_wp2_with fail
  go_ret
  exact ⟨rfl, one_box _ _⟩
theorem rd_lt {M : Nat → Nat} (hM : ∀ a, M a ≤ 255) (x : Nat) : wordN M x 2 8192 ≤ 65535 := by
  have := wordN_lt hM x 2 8192
  omega
theorem half_any {w : World} {F : Nat → Prop} {rb k : Nat} {M : Nat → Nat} (h : RamAt w F rb 8192 k (.pointer none) M) {n D A U : Nat} (hg : Gd n D A U) (x : Nat) (hx : x < 18446744073709551616) : Calls Try.prog 55 #[.pointer (some ⟨rb, 0, none⟩), .agg #[.int .i64 (n : Int), .int .u64 (D : Int), .int .u64 (A : Int), .int .u64 (U : Int)], .int .u64 (x : Int)] w fun e w' => e = .returned (.int .u16 (wordN M x 2 8192 : Nat)) ∧ Below w.heap.size w w' := by
  have HR : Hid (RamAt (w.alloc (.cells #[.int .i64 (n : Int), .int .u64 (D : Int), .int .u64 (A : Int), .int .u64 (U : Int)] 24)) F rb 8192 k (.pointer none) M ∧ Below w.heap.size w (w.alloc (.cells #[.int .i64 (n : Int), .int .u64 (D : Int), .int .u64 (A : Int), .int .u64 (U : Int)] 24))) := ⟨h.below (one_box _ _), one_box _ _⟩
  have hlt := rd_lt h.le x
  have HM : Hid (∀ a, M a ≤ 255) := h.le
  have HG : Hid (Gd n D A U ∧ A < 18446744073709551616 ∧ U < 18446744073709551616 ∧ x < 18446744073709551616) := ⟨hg, by have := hg.a2; omega, by have := hg.u2; omega, hx⟩
  obtain ⟨y, hy⟩ : ∃ y, wordN M x 2 8192 = y := ⟨_, rfl⟩
  rw [hy] at hlt ⊢
  have ey : IntKind.u16.wrap (y : Int) = (y : Int) := by rw [wrap16]; omega
  have HY : Hid (wordN M x 2 8192 = y) := hy
  clear h hg hx hlt hy
  cases hin : inB x 2 2147483648 8192 with
  | false =>
    have HI : Hid (inB x 2 2147483648 8192 = false) := hin
    clear hin
    obtain rfl : y = 0 := by rw [← HY.out, wordN, if_neg (by rw [show inB (x : Int) ((2 : Nat) : Int) 2147483648 ((8192 : Nat) : Int) = false from HI.out]; decide)]
    go_enter Try.func55, Try.ntmps55
    go_wp2_with fail
    refine (check_any HG.out.1.d1 HG.out.2.1 HG.out.2.2.1 HR.out.1 (by omega)).mono ?_
    rintro e w1 ⟨rfl, hb1⟩
    rw [HG.out.1.chk]
    have X1 : Hid (RamAt w1 F rb 8192 k (.pointer none) M ∧ Below w.heap.size w w1) := ⟨HR.out.1.below hb1, below_to HR.out.2 hb1⟩
    clear hb1 HR
    go_wp2_with fail
    refine (read_out X1.out.1 (by omega) x 2 HG.out.2.2.2 (by omega) HI.out).mono ?_
    rintro e w2 ⟨rfl, hw⟩
    rw [hw]
    clear hw w2
    go_wp2_with fail
    refine (of_any (fun _ => 0) 0 0 _ (by decide) (by decide) (fun i hi => by omega) _ (.inl ⟨rfl, _, _, rfl⟩)).mono ?_
    rintro e w2 ⟨rfl, hw⟩
    rw [hw]
    clear hw w2
    have e00 : ((h256 (fun _ => 0) 0 0 : Nat) : Int) = 0 := rfl
    rw [e00]
    go_wp2_with fail
    go_ret
    exact ⟨rfl, X1.out.2⟩
  | true =>
    have HI : Hid (inB x 2 2147483648 8192 = true) := hin
    clear hin
    have HV : Hid (h256 (fun i => M (x + i)) 2 0 = y) := by
      show _ = _
      rw [← HY.out, wordN, if_pos (show inB (x : Int) ((2 : Nat) : Int) 2147483648 ((8192 : Nat) : Int) = true from HI.out)]
    go_enter Try.func55, Try.ntmps55
    go_wp2_with fail
    refine (check_any HG.out.1.d1 HG.out.2.1 HG.out.2.2.1 HR.out.1 (by omega)).mono ?_
    rintro e w1 ⟨rfl, hb1⟩
    rw [HG.out.1.chk]
    have X1 : Hid (RamAt w1 F rb 8192 k (.pointer none) M ∧ Below w.heap.size w w1) := ⟨HR.out.1.below hb1, below_to HR.out.2 hb1⟩
    clear hb1 HR
    go_wp2_with fail
    refine (read_in X1.out.1 (by omega) x 2 HG.out.2.2.2 (by omega) HI.out).mono ?_
    rintro e w2 ⟨rfl, ho, hb2⟩
    have X2 : Hid (Below w.heap.size w w2 ∧ Reads .u8 w2 (.slice (some ⟨w1.heap.size, 0, none⟩) 2 2) 2 (fun i => M (x + i))) := ⟨below_to X1.out.2 hb2, reads_own ho⟩
    clear ho hb2 X1
    go_wp2_with fail
    refine (of_any (fun i => M (x + i)) 2 2 _ (by decide) (by decide) (fun i _ => HM.out _) _ X2.out.2).mono ?_
    rintro e w3 ⟨rfl, hw⟩
    rw [hw, HV.out]
    clear hw w3
    go_wp2_with fail
    go_ret
    exact ⟨rfl, X2.out.1⟩
theorem flags_any {w : World} {F : Nat → Prop} {rb k : Nat} {M : Nat → Nat} (h : RamAt w F rb 8192 k (.pointer none) M) {n D A U : Nat} (hg : Gd n D A U) : Calls Try.prog 23 #[.pointer (some ⟨rb, 0, none⟩), .agg #[.int .i64 (n : Int), .int .u64 (D : Int), .int .u64 (A : Int), .int .u64 (U : Int)]] w fun e w' => e = .returned (.int .u16 (wordN M (A) 2 8192 : Nat)) ∧ Below w.heap.size w w' := by
  have B0 : Hid ((w.alloc (.cells #[.int .i64 (n : Int), .int .u64 (D : Int), .int .u64 (A : Int), .int .u64 (U : Int)] 24)).heap[w.heap.size]? = some (.cells #[.int .i64 (n : Int), .int .u64 (D : Int), .int .u64 (A : Int), .int .u64 (U : Int)] 24 (0, 0)) ∧ RamAt (w.alloc (.cells #[.int .i64 (n : Int), .int .u64 (D : Int), .int .u64 (A : Int), .int .u64 (U : Int)] 24)) F rb 8192 k (.pointer none) M ∧ Below w.heap.size w (w.alloc (.cells #[.int .i64 (n : Int), .int .u64 (D : Int), .int .u64 (A : Int), .int .u64 (U : Int)] 24))) := ⟨heap_alloc_new _ _, h.below (one_box _ _), one_box _ _⟩
  have g1 := hg.a1
  have g2 := hg.a2
  have g3 := hg.n2
  have g4 := hg.n1
  have HX : Hid (A = A ∧ A < 18446744073709551616) := ⟨by omega, by omega⟩
  have HG : Hid (Gd n D A U) := hg
  clear g1 g2 g3 g4 hg h  
  rw [HX.out.1]
  go_enter Try.func23, Try.ntmps23
  go_upto_region 1 with fail
  generalize (w.alloc (.cells #[.int .i64 (n : Int), .int .u64 (D : Int), .int .u64 (A : Int), .int .u64 (U : Int)] 24)) = w0 at *
  obtain ⟨c0, c1, c2, c3⟩ := box4_facts B0.out.1
  go_wp2_with fail
  refine (half_any B0.out.2.1 HG.out A HX.out.2).mono ?_
  rintro e w1 ⟨rfl, hb1⟩
  have X1 : Hid (Below w.heap.size w w1) := below_to B0.out.2.2 hb1
  clear hb1
  go_wp2_with fail
  go_ret
  exact ⟨rfl, X1.out⟩
theorem offered_any {w : World} {F : Nat → Prop} {rb k : Nat} {M : Nat → Nat} (h : RamAt w F rb 8192 k (.pointer none) M) {n D A U : Nat} (hg : Gd n D A U) : Calls Try.prog 25 #[.pointer (some ⟨rb, 0, none⟩), .agg #[.int .i64 (n : Int), .int .u64 (D : Int), .int .u64 (A : Int), .int .u64 (U : Int)]] w fun e w' => e = .returned (.int .u16 (wordN M (A + 2) 2 8192 : Nat)) ∧ Below w.heap.size w w' := by
  have B0 : Hid ((w.alloc (.cells #[.int .i64 (n : Int), .int .u64 (D : Int), .int .u64 (A : Int), .int .u64 (U : Int)] 24)).heap[w.heap.size]? = some (.cells #[.int .i64 (n : Int), .int .u64 (D : Int), .int .u64 (A : Int), .int .u64 (U : Int)] 24 (0, 0)) ∧ RamAt (w.alloc (.cells #[.int .i64 (n : Int), .int .u64 (D : Int), .int .u64 (A : Int), .int .u64 (U : Int)] 24)) F rb 8192 k (.pointer none) M ∧ Below w.heap.size w (w.alloc (.cells #[.int .i64 (n : Int), .int .u64 (D : Int), .int .u64 (A : Int), .int .u64 (U : Int)] 24))) := ⟨heap_alloc_new _ _, h.below (one_box _ _), one_box _ _⟩
  have g1 := hg.a1
  have g2 := hg.a2
  have g3 := hg.n2
  have g4 := hg.n1
  obtain ⟨A2, qA2⟩ : ∃ y : Nat, y = A + 2 := ⟨_, rfl⟩
  have wA2 : IntKind.u64.wrap ((A : Int) + 2) = (A2 : Int) := by rw [wrap_u64]; omega
  have HX : Hid (A + 2 = A2 ∧ A2 < 18446744073709551616) := ⟨by omega, by omega⟩
  have HG : Hid (Gd n D A U) := hg
  clear g1 g2 g3 g4 hg h  qA2
  rw [HX.out.1]
  go_enter Try.func25, Try.ntmps25
  go_upto_region 1 with fail
  generalize (w.alloc (.cells #[.int .i64 (n : Int), .int .u64 (D : Int), .int .u64 (A : Int), .int .u64 (U : Int)] 24)) = w0 at *
  obtain ⟨c0, c1, c2, c3⟩ := box4_facts B0.out.1
  go_wp2_with fail
  refine (half_any B0.out.2.1 HG.out A2 HX.out.2).mono ?_
  rintro e w1 ⟨rfl, hb1⟩
  have X1 : Hid (Below w.heap.size w w1) := below_to B0.out.2.2 hb1
  clear hb1
  go_wp2_with fail
  go_ret
  exact ⟨rfl, X1.out⟩
theorem head_any {w : World} {F : Nat → Prop} {rb k : Nat} {M : Nat → Nat} (h : RamAt w F rb 8192 k (.pointer none) M) {n D A U : Nat} (hg : Gd n D A U) (m r : Nat) (hm : m ≤ 65535) (hr : r = m % n) : Calls Try.prog 27 #[.pointer (some ⟨rb, 0, none⟩), .agg #[.int .i64 (n : Int), .int .u64 (D : Int), .int .u64 (A : Int), .int .u64 (U : Int)], .int .u16 (m : Int)] w fun e w' => e = .returned (.int .u16 (wordN M (A + 4 + 2 * r) 2 8192 : Nat)) ∧ Below w.heap.size w w' := by
  have B0 : Hid ((w.alloc (.cells #[.int .i64 (n : Int), .int .u64 (D : Int), .int .u64 (A : Int), .int .u64 (U : Int)] 24)).heap[w.heap.size]? = some (.cells #[.int .i64 (n : Int), .int .u64 (D : Int), .int .u64 (A : Int), .int .u64 (U : Int)] 24 (0, 0)) ∧ RamAt (w.alloc (.cells #[.int .i64 (n : Int), .int .u64 (D : Int), .int .u64 (A : Int), .int .u64 (U : Int)] 24)) F rb 8192 k (.pointer none) M ∧ Below w.heap.size w (w.alloc (.cells #[.int .i64 (n : Int), .int .u64 (D : Int), .int .u64 (A : Int), .int .u64 (U : Int)] 24))) := ⟨heap_alloc_new _ _, h.below (one_box _ _), one_box _ _⟩
  have g1 := hg.a1
  have g2 := hg.a2
  have g3 := hg.n2
  have g4 := hg.n1
  have g5 : r < n := by rw [hr]; exact Nat.mod_lt _ (by omega)
  have er : IntKind.u64.wrap (r : Int) = (r : Int) := by rw [wrap_u64]; omega
  obtain ⟨A4, qA4⟩ : ∃ y : Nat, y = A + 4 := ⟨_, rfl⟩
  have wA4 : IntKind.u64.wrap ((A : Int) + 4) = (A4 : Int) := by rw [wrap_u64]; omega
  obtain ⟨r2, qr2⟩ : ∃ y : Nat, y = 2 * r := ⟨_, rfl⟩
  have wr2 : IntKind.u64.wrap (2 * (r : Int)) = (r2 : Int) := by rw [wrap_u64]; omega
  obtain ⟨x, qx⟩ : ∃ y : Nat, y = A4 + r2 := ⟨_, rfl⟩
  have wx : IntKind.u64.wrap ((A4 : Int) + (r2 : Int)) = (x : Int) := by rw [wrap_u64]; omega
  have HX : Hid (A + 4 + 2 * r = x ∧ x < 18446744073709551616) := ⟨by omega, by omega⟩
  have HG : Hid (Gd n D A U) := hg
  have HS : Hid (∀ V, Calls Try.prog 56 #[.agg #[.int .i64 (n : Int), .int .u64 (D : Int), .int .u64 (A : Int), .int .u64 (U : Int)], .int .u16 (m : Int)] V fun e w' => e = .returned (.int .u64 (r : Int)) ∧ Below V.heap.size V w') := fun V => slot_any hg m r hm hr V
  clear g1 g2 g3 g4 hg h g5 hm hr qA4 qr2 qx
  rw [HX.out.1]
  go_enter Try.func27, Try.ntmps27
  go_upto_region 1 with fail
  generalize (w.alloc (.cells #[.int .i64 (n : Int), .int .u64 (D : Int), .int .u64 (A : Int), .int .u64 (U : Int)] 24)) = w0 at *
  obtain ⟨c0, c1, c2, c3⟩ := box4_facts B0.out.1
  have Bd : Hid (w0.drew.heap[w.heap.size]? = some (.cells #[.int .i64 (n : Int), .int .u64 (D : Int), .int .u64 (A : Int), .int .u64 (U : Int)] 24 (0, 0)) ∧ RamAt w0.drew F rb 8192 k (.pointer none) M ∧ Below w.heap.size w w0.drew) := ⟨B0.out.1, B0.out.2.1.below (Below.drew (Below.refl _ _)), B0.out.2.2.drew⟩
  go_region_held3 (fun Z => Z.cell? ⟨w.heap.size, 0, none⟩ = some (.int .i64 (n : Int)) ∧ Z.cell? ⟨w.heap.size, 1, none⟩ = some (.int .u64 (D : Int)) ∧ Z.cell? ⟨w.heap.size, 2, none⟩ = some (.int .u64 (A : Int)) ∧ Z.cell? ⟨w.heap.size, 3, none⟩ = some (.int .u64 (U : Int))) (go_keep) (first | (go_at_call 56; refine (HS.out _).mono ?_; rintro e w1 ⟨rfl, hb1⟩; have X1 : Hid (w1.heap[w.heap.size]? = some (.cells #[.int .i64 (n : Int), .int .u64 (D : Int), .int .u64 (A : Int), .int .u64 (U : Int)] 24 (0, 0)) ∧ RamAt w1 F rb 8192 k (.pointer none) M ∧ Below w.heap.size w w1) := ⟨below_box Bd.out.1 hb1, Bd.out.2.1.below hb1, below_to Bd.out.2.2 hb1⟩; clear hb1; obtain ⟨d0, d1, d2, d3⟩ := box4_facts X1.out.1) | (go_at_call 55; refine (half_any X1.out.2.1 HG.out x HX.out.2).mono ?_; rintro e w2 ⟨rfl, hb2⟩; have X2 : Hid (w2.heap[w.heap.size]? = some (.cells #[.int .i64 (n : Int), .int .u64 (D : Int), .int .u64 (A : Int), .int .u64 (U : Int)] 24 (0, 0)) ∧ Below w.heap.size w w2) := ⟨below_box X1.out.1 hb2, below_to X1.out.2.2 hb2⟩; clear hb2; obtain ⟨e0, e1, e2, e3⟩ := box4_facts X2.out.1))
  go_wp2_with fail
  go_ret
  exact ⟨rfl, X2.out.2⟩
theorem wanted_any {w : World} {F : Nat → Prop} {rb k : Nat} {M : Nat → Nat} (h : RamAt w F rb 8192 k (.pointer none) M) {n D A U : Nat} (hg : Gd n D A U) : Calls Try.prog 29 #[.pointer (some ⟨rb, 0, none⟩), .agg #[.int .i64 (n : Int), .int .u64 (D : Int), .int .u64 (A : Int), .int .u64 (U : Int)]] w fun e w' => e = .returned (.int .u16 (wordN M (A + 4 + 2 * n) 2 8192 : Nat)) ∧ Below w.heap.size w w' := by
  have B0 : Hid ((w.alloc (.cells #[.int .i64 (n : Int), .int .u64 (D : Int), .int .u64 (A : Int), .int .u64 (U : Int)] 24)).heap[w.heap.size]? = some (.cells #[.int .i64 (n : Int), .int .u64 (D : Int), .int .u64 (A : Int), .int .u64 (U : Int)] 24 (0, 0)) ∧ RamAt (w.alloc (.cells #[.int .i64 (n : Int), .int .u64 (D : Int), .int .u64 (A : Int), .int .u64 (U : Int)] 24)) F rb 8192 k (.pointer none) M ∧ Below w.heap.size w (w.alloc (.cells #[.int .i64 (n : Int), .int .u64 (D : Int), .int .u64 (A : Int), .int .u64 (U : Int)] 24))) := ⟨heap_alloc_new _ _, h.below (one_box _ _), one_box _ _⟩
  have g1 := hg.a1
  have g2 := hg.a2
  have g3 := hg.n2
  have g4 := hg.n1
  have en : IntKind.u64.wrap (n : Int) = (n : Int) := by rw [wrap_u64]; omega
  obtain ⟨A4, qA4⟩ : ∃ y : Nat, y = A + 4 := ⟨_, rfl⟩
  have wA4 : IntKind.u64.wrap ((A : Int) + 4) = (A4 : Int) := by rw [wrap_u64]; omega
  obtain ⟨n2, qn2⟩ : ∃ y : Nat, y = 2 * n := ⟨_, rfl⟩
  have wn2 : IntKind.u64.wrap (2 * (n : Int)) = (n2 : Int) := by rw [wrap_u64]; omega
  obtain ⟨x, qx⟩ : ∃ y : Nat, y = A4 + n2 := ⟨_, rfl⟩
  have wx : IntKind.u64.wrap ((A4 : Int) + (n2 : Int)) = (x : Int) := by rw [wrap_u64]; omega
  have HX : Hid (A + 4 + 2 * n = x ∧ x < 18446744073709551616) := ⟨by omega, by omega⟩
  have HG : Hid (Gd n D A U) := hg
  clear g1 g2 g3 g4 hg h  qA4 qn2 qx
  rw [HX.out.1]
  go_enter Try.func29, Try.ntmps29
  go_upto_region 1 with fail
  generalize (w.alloc (.cells #[.int .i64 (n : Int), .int .u64 (D : Int), .int .u64 (A : Int), .int .u64 (U : Int)] 24)) = w0 at *
  obtain ⟨c0, c1, c2, c3⟩ := box4_facts B0.out.1
  go_wp2_with fail
  refine (half_any B0.out.2.1 HG.out x HX.out.2).mono ?_
  rintro e w1 ⟨rfl, hb1⟩
  have X1 : Hid (Below w.heap.size w w1) := below_to B0.out.2.2 hb1
  clear hb1
  go_wp2_with fail
  go_ret
  exact ⟨rfl, X1.out⟩
theorem rflags_any {F : Nat → Prop} {w : World} {nn vc : Nat} {va : Option Addr} {bs : Nat → Nat × Nat} {M : Nat → Nat} (h : RefIn F w (.slice va nn vc) nn bs) (hM : ∀ a, rget bs nn a = M a) (hle : ∀ a, M a ≤ 255) (hn : nn ≤ 1000000) {n D A U : Nat} (hg : Gd n D A U) : Calls Try.prog 24 #[.agg #[.int .u64 8192, .slice va nn vc], .agg #[.int .i64 (n : Int), .int .u64 (D : Int), .int .u64 (A : Int), .int .u64 (U : Int)]] w fun e w' => e = .returned (.int .i64 (wordN M (A) 2 8192 : Nat)) ∧ Below w.heap.size w w' := by
  have B0 : Hid (((w.alloc (.cells #[.int .u64 8192, .slice va nn vc] 29)).alloc (.cells #[.int .i64 (n : Int), .int .u64 (D : Int), .int .u64 (A : Int), .int .u64 (U : Int)] 24)).heap[w.heap.size]? = some (.cells #[.int .u64 8192, .slice va nn vc] 29 (0, 0)) ∧ ((w.alloc (.cells #[.int .u64 8192, .slice va nn vc] 29)).alloc (.cells #[.int .i64 (n : Int), .int .u64 (D : Int), .int .u64 (A : Int), .int .u64 (U : Int)] 24)).heap[w.heap.size + 1]? = some (.cells #[.int .i64 (n : Int), .int .u64 (D : Int), .int .u64 (A : Int), .int .u64 (U : Int)] 24 (0, 0)) ∧ Below w.heap.size w ((w.alloc (.cells #[.int .u64 8192, .slice va nn vc] 29)).alloc (.cells #[.int .i64 (n : Int), .int .u64 (D : Int), .int .u64 (A : Int), .int .u64 (U : Int)] 24))) := ⟨(two_in w _ _).1, (two_in w _ _).2, two_boxes w _ _⟩
  have g1 := hg.a1
  have g2 := hg.a2
  have g3 := hg.n2
  have g4 := hg.n1
  have HX : Hid (A = A ∧ A < 18446744073709551616) := ⟨by omega, by omega⟩
  have hlt := rd_lt hle A
  have HR : Hid (∀ V, Below w.heap.size w V → Calls Try.prog 51 #[.agg #[.int .u64 8192, .slice va nn vc], .int .u64 (A : Int), .int .i64 2] V fun e w' => e = .returned (.int .u64 (wordN M A 2 8192 : Nat)) ∧ Below V.heap.size V w') := fun V hV => rword_any F V 8192 A 2 nn va vc bs M (h.below hV) hM hle hn (by omega) HX.out.2 (by decide)
  clear g1 g2 g3 g4 hg h hM hle hn  
  rw [HX.out.1]
  generalize wordN M A 2 8192 = y at *
  have ey : wrap64 (y : Int) = (y : Int) := by unfold wrap64; omega
  have ey2 : IntKind.i64.wrap (y : Int) = (y : Int) := wrapi y (Nat.lt_of_le_of_lt hlt (by decide))
  clear hlt
  go_enter Try.func24, Try.ntmps24
  go_upto_region 1 with fail
  generalize ((w.alloc (.cells #[.int .u64 8192, .slice va nn vc] 29)).alloc (.cells #[.int .i64 (n : Int), .int .u64 (D : Int), .int .u64 (A : Int), .int .u64 (U : Int)] 24)) = w0 at *
  obtain ⟨r0, r1, _, _⟩ := box_facts B0.out.1
  obtain ⟨c0, c1, c2, c3⟩ := box4_facts B0.out.2.1
  go_wp2_with fail
  refine (HR.out _ B0.out.2.2).mono ?_
  rintro e w1 ⟨rfl, hb1⟩
  have X1 : Hid (Below w.heap.size w w1) := below_to B0.out.2.2 hb1
  clear hb1
  go_wp2_with fail
  go_ret
  exact ⟨rfl, X1.out⟩
theorem roffered_any {F : Nat → Prop} {w : World} {nn vc : Nat} {va : Option Addr} {bs : Nat → Nat × Nat} {M : Nat → Nat} (h : RefIn F w (.slice va nn vc) nn bs) (hM : ∀ a, rget bs nn a = M a) (hle : ∀ a, M a ≤ 255) (hn : nn ≤ 1000000) {n D A U : Nat} (hg : Gd n D A U) : Calls Try.prog 26 #[.agg #[.int .u64 8192, .slice va nn vc], .agg #[.int .i64 (n : Int), .int .u64 (D : Int), .int .u64 (A : Int), .int .u64 (U : Int)]] w fun e w' => e = .returned (.int .i64 (wordN M (A + 2) 2 8192 : Nat)) ∧ Below w.heap.size w w' := by
  have B0 : Hid (((w.alloc (.cells #[.int .u64 8192, .slice va nn vc] 29)).alloc (.cells #[.int .i64 (n : Int), .int .u64 (D : Int), .int .u64 (A : Int), .int .u64 (U : Int)] 24)).heap[w.heap.size]? = some (.cells #[.int .u64 8192, .slice va nn vc] 29 (0, 0)) ∧ ((w.alloc (.cells #[.int .u64 8192, .slice va nn vc] 29)).alloc (.cells #[.int .i64 (n : Int), .int .u64 (D : Int), .int .u64 (A : Int), .int .u64 (U : Int)] 24)).heap[w.heap.size + 1]? = some (.cells #[.int .i64 (n : Int), .int .u64 (D : Int), .int .u64 (A : Int), .int .u64 (U : Int)] 24 (0, 0)) ∧ Below w.heap.size w ((w.alloc (.cells #[.int .u64 8192, .slice va nn vc] 29)).alloc (.cells #[.int .i64 (n : Int), .int .u64 (D : Int), .int .u64 (A : Int), .int .u64 (U : Int)] 24))) := ⟨(two_in w _ _).1, (two_in w _ _).2, two_boxes w _ _⟩
  have g1 := hg.a1
  have g2 := hg.a2
  have g3 := hg.n2
  have g4 := hg.n1
  obtain ⟨A2, qA2⟩ : ∃ y : Nat, y = A + 2 := ⟨_, rfl⟩
  have wA2 : IntKind.u64.wrap ((A : Int) + 2) = (A2 : Int) := by rw [wrap_u64]; omega
  have HX : Hid (A + 2 = A2 ∧ A2 < 18446744073709551616) := ⟨by omega, by omega⟩
  have hlt := rd_lt hle A2
  have HR : Hid (∀ V, Below w.heap.size w V → Calls Try.prog 51 #[.agg #[.int .u64 8192, .slice va nn vc], .int .u64 (A2 : Int), .int .i64 2] V fun e w' => e = .returned (.int .u64 (wordN M A2 2 8192 : Nat)) ∧ Below V.heap.size V w') := fun V hV => rword_any F V 8192 A2 2 nn va vc bs M (h.below hV) hM hle hn (by omega) HX.out.2 (by decide)
  clear g1 g2 g3 g4 hg h hM hle hn  qA2
  rw [HX.out.1]
  generalize wordN M A2 2 8192 = y at *
  have ey : wrap64 (y : Int) = (y : Int) := by unfold wrap64; omega
  have ey2 : IntKind.i64.wrap (y : Int) = (y : Int) := wrapi y (Nat.lt_of_le_of_lt hlt (by decide))
  clear hlt
  go_enter Try.func26, Try.ntmps26
  go_upto_region 1 with fail
  generalize ((w.alloc (.cells #[.int .u64 8192, .slice va nn vc] 29)).alloc (.cells #[.int .i64 (n : Int), .int .u64 (D : Int), .int .u64 (A : Int), .int .u64 (U : Int)] 24)) = w0 at *
  obtain ⟨r0, r1, _, _⟩ := box_facts B0.out.1
  obtain ⟨c0, c1, c2, c3⟩ := box4_facts B0.out.2.1
  go_wp2_with fail
  refine (HR.out _ B0.out.2.2).mono ?_
  rintro e w1 ⟨rfl, hb1⟩
  have X1 : Hid (Below w.heap.size w w1) := below_to B0.out.2.2 hb1
  clear hb1
  go_wp2_with fail
  go_ret
  exact ⟨rfl, X1.out⟩
theorem rhead_any {F : Nat → Prop} {w : World} {nn vc : Nat} {va : Option Addr} {bs : Nat → Nat × Nat} {M : Nat → Nat} (h : RefIn F w (.slice va nn vc) nn bs) (hM : ∀ a, rget bs nn a = M a) (hle : ∀ a, M a ≤ 255) (hn : nn ≤ 1000000) {n D A U : Nat} (hg : Gd n D A U) (m r : Nat) (hm : m ≤ 65535) (hr : r = m % n) : Calls Try.prog 28 #[.agg #[.int .u64 8192, .slice va nn vc], .agg #[.int .i64 (n : Int), .int .u64 (D : Int), .int .u64 (A : Int), .int .u64 (U : Int)], .int .i64 (m : Int)] w fun e w' => e = .returned (.int .i64 (wordN M (A + 4 + 2 * r) 2 8192 : Nat)) ∧ Below w.heap.size w w' := by
  have B0 : Hid (((w.alloc (.cells #[.int .u64 8192, .slice va nn vc] 29)).alloc (.cells #[.int .i64 (n : Int), .int .u64 (D : Int), .int .u64 (A : Int), .int .u64 (U : Int)] 24)).heap[w.heap.size]? = some (.cells #[.int .u64 8192, .slice va nn vc] 29 (0, 0)) ∧ ((w.alloc (.cells #[.int .u64 8192, .slice va nn vc] 29)).alloc (.cells #[.int .i64 (n : Int), .int .u64 (D : Int), .int .u64 (A : Int), .int .u64 (U : Int)] 24)).heap[w.heap.size + 1]? = some (.cells #[.int .i64 (n : Int), .int .u64 (D : Int), .int .u64 (A : Int), .int .u64 (U : Int)] 24 (0, 0)) ∧ Below w.heap.size w ((w.alloc (.cells #[.int .u64 8192, .slice va nn vc] 29)).alloc (.cells #[.int .i64 (n : Int), .int .u64 (D : Int), .int .u64 (A : Int), .int .u64 (U : Int)] 24))) := ⟨(two_in w _ _).1, (two_in w _ _).2, two_boxes w _ _⟩
  have g1 := hg.a1
  have g2 := hg.a2
  have g3 := hg.n2
  have g4 := hg.n1
  have g5 : r < n := by rw [hr]; exact Nat.mod_lt _ (by omega)
  have gm : (m : Int).tmod (n : Int) = (r : Int) := by rw [Int.tmod_eq_emod_of_nonneg (by omega), hr]; simp
  have gm2 : (m : Int) % (n : Int) = (r : Int) := by rw [hr]; simp
  have gn : ¬ (n : Int) = 0 := by omega
  have gn0 : ¬ n = 0 := by omega
  have gn2 : ((n : Int) == 0) = false := by simp; omega
  have er : IntKind.u64.wrap (r : Int) = (r : Int) := by rw [wrap_u64]; omega
  obtain ⟨A4, qA4⟩ : ∃ y : Nat, y = A + 4 := ⟨_, rfl⟩
  have wA4 : IntKind.u64.wrap ((A : Int) + 4) = (A4 : Int) := by rw [wrap_u64]; omega
  obtain ⟨r2, qr2⟩ : ∃ y : Nat, y = 2 * r := ⟨_, rfl⟩
  have wr2 : IntKind.u64.wrap (2 * (r : Int)) = (r2 : Int) := by rw [wrap_u64]; omega
  obtain ⟨x, qx⟩ : ∃ y : Nat, y = A4 + r2 := ⟨_, rfl⟩
  have wx : IntKind.u64.wrap ((A4 : Int) + (r2 : Int)) = (x : Int) := by rw [wrap_u64]; omega
  have HX : Hid (A + 4 + 2 * r = x ∧ x < 18446744073709551616) := ⟨by omega, by omega⟩
  have hlt := rd_lt hle x
  have HR : Hid (∀ V, Below w.heap.size w V → Calls Try.prog 51 #[.agg #[.int .u64 8192, .slice va nn vc], .int .u64 (x : Int), .int .i64 2] V fun e w' => e = .returned (.int .u64 (wordN M x 2 8192 : Nat)) ∧ Below V.heap.size V w') := fun V hV => rword_any F V 8192 x 2 nn va vc bs M (h.below hV) hM hle hn (by omega) HX.out.2 (by decide)
  clear g1 g2 g3 g4 hg h hM hle hn g5 hm hr qA4 qr2 qx
  rw [HX.out.1]
  generalize wordN M x 2 8192 = y at *
  have ey : wrap64 (y : Int) = (y : Int) := by unfold wrap64; omega
  have ey2 : IntKind.i64.wrap (y : Int) = (y : Int) := wrapi y (Nat.lt_of_le_of_lt hlt (by decide))
  clear hlt
  go_enter Try.func28, Try.ntmps28
  go_upto_region 1 with fail
  generalize ((w.alloc (.cells #[.int .u64 8192, .slice va nn vc] 29)).alloc (.cells #[.int .i64 (n : Int), .int .u64 (D : Int), .int .u64 (A : Int), .int .u64 (U : Int)] 24)) = w0 at *
  obtain ⟨r0, r1, _, _⟩ := box_facts B0.out.1
  obtain ⟨c0, c1, c2, c3⟩ := box4_facts B0.out.2.1
  go_region_held3 (fun Z => Z.cell? ⟨w.heap.size, 0, none⟩ = some (.int .u64 8192) ∧ Z.cell? ⟨w.heap.size, 1, none⟩ = some (.slice va nn vc) ∧ Z.cell? ⟨w.heap.size + 1, 0, none⟩ = some (.int .i64 (n : Int)) ∧ Z.cell? ⟨w.heap.size + 1, 1, none⟩ = some (.int .u64 (D : Int)) ∧ Z.cell? ⟨w.heap.size + 1, 2, none⟩ = some (.int .u64 (A : Int)) ∧ Z.cell? ⟨w.heap.size + 1, 3, none⟩ = some (.int .u64 (U : Int))) (go_keep) (first | (go_at_call 51; refine (HR.out _ B0.out.2.2.drew).mono ?_; rintro e w1 ⟨rfl, hb1⟩; have X1 : Hid (w1.heap[w.heap.size]? = some (.cells #[.int .u64 8192, .slice va nn vc] 29 (0, 0)) ∧ w1.heap[w.heap.size + 1]? = some (.cells #[.int .i64 (n : Int), .int .u64 (D : Int), .int .u64 (A : Int), .int .u64 (U : Int)] 24 (0, 0)) ∧ Below w.heap.size w w1) := ⟨below_box (w := w0.drew) B0.out.1 hb1, below_box (w := w0.drew) B0.out.2.1 hb1, below_to B0.out.2.2.drew hb1⟩; clear hb1; obtain ⟨s0, s1, _, _⟩ := box_facts X1.out.1; obtain ⟨d0, d1, d2, d3⟩ := box4_facts X1.out.2.1))
  go_wp2_with fail
  go_ret
  exact ⟨rfl, X1.out.2.2⟩
theorem rwanted_any {F : Nat → Prop} {w : World} {nn vc : Nat} {va : Option Addr} {bs : Nat → Nat × Nat} {M : Nat → Nat} (h : RefIn F w (.slice va nn vc) nn bs) (hM : ∀ a, rget bs nn a = M a) (hle : ∀ a, M a ≤ 255) (hn : nn ≤ 1000000) {n D A U : Nat} (hg : Gd n D A U) : Calls Try.prog 30 #[.agg #[.int .u64 8192, .slice va nn vc], .agg #[.int .i64 (n : Int), .int .u64 (D : Int), .int .u64 (A : Int), .int .u64 (U : Int)]] w fun e w' => e = .returned (.int .i64 (wordN M (A + 4 + 2 * n) 2 8192 : Nat)) ∧ Below w.heap.size w w' := by
  have B0 : Hid (((w.alloc (.cells #[.int .u64 8192, .slice va nn vc] 29)).alloc (.cells #[.int .i64 (n : Int), .int .u64 (D : Int), .int .u64 (A : Int), .int .u64 (U : Int)] 24)).heap[w.heap.size]? = some (.cells #[.int .u64 8192, .slice va nn vc] 29 (0, 0)) ∧ ((w.alloc (.cells #[.int .u64 8192, .slice va nn vc] 29)).alloc (.cells #[.int .i64 (n : Int), .int .u64 (D : Int), .int .u64 (A : Int), .int .u64 (U : Int)] 24)).heap[w.heap.size + 1]? = some (.cells #[.int .i64 (n : Int), .int .u64 (D : Int), .int .u64 (A : Int), .int .u64 (U : Int)] 24 (0, 0)) ∧ Below w.heap.size w ((w.alloc (.cells #[.int .u64 8192, .slice va nn vc] 29)).alloc (.cells #[.int .i64 (n : Int), .int .u64 (D : Int), .int .u64 (A : Int), .int .u64 (U : Int)] 24))) := ⟨(two_in w _ _).1, (two_in w _ _).2, two_boxes w _ _⟩
  have g1 := hg.a1
  have g2 := hg.a2
  have g3 := hg.n2
  have g4 := hg.n1
  have en : IntKind.u64.wrap (n : Int) = (n : Int) := by rw [wrap_u64]; omega
  obtain ⟨A4, qA4⟩ : ∃ y : Nat, y = A + 4 := ⟨_, rfl⟩
  have wA4 : IntKind.u64.wrap ((A : Int) + 4) = (A4 : Int) := by rw [wrap_u64]; omega
  obtain ⟨n2, qn2⟩ : ∃ y : Nat, y = 2 * n := ⟨_, rfl⟩
  have wn2 : IntKind.u64.wrap (2 * (n : Int)) = (n2 : Int) := by rw [wrap_u64]; omega
  obtain ⟨x, qx⟩ : ∃ y : Nat, y = A4 + n2 := ⟨_, rfl⟩
  have wx : IntKind.u64.wrap ((A4 : Int) + (n2 : Int)) = (x : Int) := by rw [wrap_u64]; omega
  have HX : Hid (A + 4 + 2 * n = x ∧ x < 18446744073709551616) := ⟨by omega, by omega⟩
  have hlt := rd_lt hle x
  have HR : Hid (∀ V, Below w.heap.size w V → Calls Try.prog 51 #[.agg #[.int .u64 8192, .slice va nn vc], .int .u64 (x : Int), .int .i64 2] V fun e w' => e = .returned (.int .u64 (wordN M x 2 8192 : Nat)) ∧ Below V.heap.size V w') := fun V hV => rword_any F V 8192 x 2 nn va vc bs M (h.below hV) hM hle hn (by omega) HX.out.2 (by decide)
  clear g1 g2 g3 g4 hg h hM hle hn  qA4 qn2 qx
  rw [HX.out.1]
  generalize wordN M x 2 8192 = y at *
  have ey : wrap64 (y : Int) = (y : Int) := by unfold wrap64; omega
  have ey2 : IntKind.i64.wrap (y : Int) = (y : Int) := wrapi y (Nat.lt_of_le_of_lt hlt (by decide))
  clear hlt
  go_enter Try.func30, Try.ntmps30
  go_upto_region 1 with fail
  generalize ((w.alloc (.cells #[.int .u64 8192, .slice va nn vc] 29)).alloc (.cells #[.int .i64 (n : Int), .int .u64 (D : Int), .int .u64 (A : Int), .int .u64 (U : Int)] 24)) = w0 at *
  obtain ⟨r0, r1, _, _⟩ := box_facts B0.out.1
  obtain ⟨c0, c1, c2, c3⟩ := box4_facts B0.out.2.1
  go_wp2_with fail
  refine (HR.out _ B0.out.2.2).mono ?_
  rintro e w1 ⟨rfl, hb1⟩
  have X1 : Hid (Below w.heap.size w w1) := below_to B0.out.2.2 hb1
  clear hb1
  go_wp2_with fail
  go_ret
  exact ⟨rfl, X1.out⟩
end Go.Proofs.Ythnmoalomodbpaa
