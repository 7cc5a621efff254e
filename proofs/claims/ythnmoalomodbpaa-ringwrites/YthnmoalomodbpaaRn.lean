/- Put, Publish and Want of the program. -/
import Derived.Test.YthnmoalomodbpaaRl
namespace Go.Proofs.Ythnmoalomodbpaa
open Go.RowKit Go.Maps
set_option linter.unusedVariables false
set_option linter.unusedSimpArgs false
set_option maxRecDepth 100000
theorem place32 (w : World) : Calls Try.prog 71 #[.int .i64 32] w fun e w' => e = .returned (.bool true) ∧ w' = w := by
  go_enter Try.func71, Try.ntmps71
  go_wp2_with fail
  go_ret
  exact ⟨rfl, rfl⟩
theorem mask32 (w : World) : Calls Try.prog 72 #[.int .i64 32] w fun e w' => e = .returned (.int .u64 4294967295) ∧ w' = w := by
  go_enter Try.func72, Try.ntmps72
  go_wp2_with fail
  go_ret
  exact ⟨rfl, rfl⟩
theorem put_num (d c : Nat) (hd : d ≤ 65535) (hc : c ≤ 4294967295) : bits BinOp.or IntKind.u64 (bits BinOp.andNot IntKind.u64 (d : Int) 18446744069414584320) (bits BinOp.and IntKind.u64 (IntKind.u64.wrap ((c : Int) * 4294967296)) 18446744069414584320) = ((d + c * 4294967296 : Nat) : Int) := by
  obtain ⟨q, hq⟩ : ∃ q : Nat, q = c * 4294967296 := ⟨_, rfl⟩
  have e0 : IntKind.u64.wrap ((c : Int) * 4294967296) = (q : Int) := by rw [wrap_u64]; omega
  have e1 : bits BinOp.andNot IntKind.u64 (d : Int) 18446744069414584320 = (d : Int) := by
    rw [u64_andNot (d : Int) 18446744069414584320 (by omega) (by omega) (by decide) (by decide)]
    show ((d &&& (2 ^ 32 - 1) : Nat) : Int) = _
    rw [Nat.and_two_pow_sub_one_eq_mod, Nat.mod_eq_of_lt (by omega)]
  have e2 : bits BinOp.and IntKind.u64 (q : Int) 18446744069414584320 = (q : Int) := by
    rw [u64_and (q : Int) 18446744069414584320 (by omega) (by omega) (by decide) (by decide)]
    show ((q &&& 4294967295 <<< 32 : Nat) : Int) = _
    have : q = c <<< 32 := by rw [Nat.shiftLeft_eq]; exact hq
    rw [this, ← Nat.shiftLeft_and_distrib]
    rw [show c &&& 4294967295 = c &&& (2 ^ 32 - 1) from rfl, Nat.and_two_pow_sub_one_eq_mod, Nat.mod_eq_of_lt (by omega)]
  rw [e0, e1, e2, bits_or_u64_nat _ _ (by omega) (by omega)]
  have h := Nat.two_pow_add_eq_or_of_lt (i := 32) (b := d) (by omega) c
  rw [Nat.or_comm, hq, Nat.mul_comm c 4294967296, show (4294967296 : Nat) = 2 ^ 32 from rfl, ← h, Nat.add_comm]
theorem wput_any (d c e : Nat) (hd : d ≤ 65535) (hc : c ≤ 4294967295) (he : e = d + c * 4294967296) (w : World) : Calls Try.prog 57 #[.int .u64 (d : Int), .int .i64 32, .int .i64 32, .int .u64 (c : Int)] w fun r w' => r = .returned (.int .u64 (e : Int)) ∧ w' = w := by
  have E : Hid (bits BinOp.or IntKind.u64 (bits BinOp.andNot IntKind.u64 (d : Int) 18446744069414584320) (bits BinOp.and IntKind.u64 (IntKind.u64.wrap ((c : Int) * 4294967296)) 18446744069414584320) = (e : Int)) := by rw [he]; exact put_num d c hd hc
  clear hd hc he
  go_enter Try.func57, Try.ntmps57
  go_wp2_with fail
  refine (place32 _).mono ?_
  rintro e w2 ⟨rfl, hw⟩
  rw [hw]
  clear hw w2
  go_wp2_with fail
  refine (mask32 _).mono ?_
  rintro e w2 ⟨rfl, hw⟩
  rw [hw]
  clear hw w2
  go_wp2_with fail
  go_ret
  exact ⟨ret_int E.out, rfl⟩
/-- an entry's bytes -/
def eB (d c : Nat) : Nat → Nat := catF (byteAt d) 4 (byteAt c)
theorem entry_bytes (d c : Nat) (hd : d ≤ 65535) : ∀ i, i < 8 → byteAt (d + c * 4294967296) i = eB d c i := by
  intro i hi
  unfold eB catF byteAt
  rcases (by omega : i = 0 ∨ i = 1 ∨ i = 2 ∨ i = 3 ∨ i = 4 ∨ i = 5 ∨ i = 6 ∨ i = 7) with rfl | rfl | rfl | rfl | rfl | rfl | rfl | rfl
  all_goals simp
  all_goals omega
theorem ReadsF.below {F : Nat → Prop} {w w' : World} {v : Value} {n : Nat} {f : Nat → Nat} (h : ReadsF F w v n f) (hb : Below w.heap.size w w') : ReadsF F w' v n f := h.step (Step.of_below hb)
theorem lay_any {w : World} {F : Nat → Prop} {rb k : Nat} {M : Nat → Nat} (h : RamAt w F rb 8192 k (.pointer none) M) {n D A U : Nat} (hg : Gd n D A U) (x : Nat) (va : Option Addr) (vc Lb : Nat) (f : Nat → Nat) (hr : ReadsF F w (.slice va Lb vc) Lb f) (hf : ∀ i, i < Lb → f i ≤ 255) (hx : 2147483648 ≤ x ∧ x + Lb ≤ 2147491840) (hk : k + Lb ≤ 1000000) : Calls Try.prog 58 #[.pointer (some ⟨rb, 0, none⟩), .agg #[.int .i64 (n : Int), .int .u64 (D : Int), .int .u64 (A : Int), .int .u64 (U : Int)], .int .u64 (x : Int), .slice va Lb vc] w fun e w' => e = .returned (.bool true) ∧ ∃ F', RamAt w' F' rb 8192 (k + Lb) (.pointer none) (over M x Lb f) ∧ Step F w F' w' := by
  have HR : Hid (RamAt (w.alloc (.cells #[.int .i64 (n : Int), .int .u64 (D : Int), .int .u64 (A : Int), .int .u64 (U : Int)] 24)) F rb 8192 k (.pointer none) M ∧ ReadsF F (w.alloc (.cells #[.int .i64 (n : Int), .int .u64 (D : Int), .int .u64 (A : Int), .int .u64 (U : Int)] 24)) (.slice va Lb vc) Lb f ∧ Below w.heap.size w (w.alloc (.cells #[.int .i64 (n : Int), .int .u64 (D : Int), .int .u64 (A : Int), .int .u64 (U : Int)] 24))) := ⟨h.below (one_box _ _), hr.below (one_box _ _), one_box _ _⟩
  have HG : Hid (Gd n D A U ∧ A < 18446744073709551616 ∧ U < 18446744073709551616 ∧ x < 18446744073709551616 ∧ inB x Lb 2147483648 8192 = true ∧ (∀ i, i < Lb → f i ≤ 255) ∧ k + Lb ≤ 1000000) := ⟨hg, by have := hg.a2; omega, by have := hg.u2; omega, by omega, by simp only [inB, decide_eq_true_iff]; omega, hf, hk⟩
  clear h hr hg hf hx hk
  go_enter Try.func58, Try.ntmps58
  go_wp2_with fail
  refine (check_any HG.out.1.d1 HG.out.2.1 HG.out.2.2.1 HR.out.1 (by omega)).mono ?_
  rintro e w1 ⟨rfl, hb1⟩
  rw [HG.out.1.chk]
  have X1 : Hid (RamAt w1 F rb 8192 k (.pointer none) M ∧ ReadsF F w1 (.slice va Lb vc) Lb f ∧ Below w.heap.size w w1) := ⟨HR.out.1.below hb1, HR.out.2.1.below hb1, below_to HR.out.2.2 hb1⟩
  clear hb1 HR
  go_wp2_with fail
  refine (write_any X1.out.1 (by omega) x Lb f _ HG.out.2.2.2.1 X1.out.2.1 HG.out.2.2.2.2.2.1 HG.out.2.2.2.2.2.2).mono ?_
  rintro e w2 ⟨rfl, F2, h2, hs2⟩
  have hin : inB (x : Int) (Lb : Int) 2147483648 ((8192 : Nat) : Int) = true := HG.out.2.2.2.2.1
  rw [hin] at h2 ⊢
  rw [if_pos rfl] at h2
  have X2 : Hid (RamAt w2 F2 rb 8192 (k + Lb) (.pointer none) (over M x Lb f) ∧ Step F w F2 w2) := ⟨h2, (Step.of_below X1.out.2.2).trans hs2⟩
  clear h2 hs2 hin
  go_wp2_with fail
  go_ret
  exact ⟨rfl, F2, X2.out.1, X2.out.2⟩
theorem bytes_F {F : Nat → Prop} (x : Nat) (n : Int) (Lb : Nat) (hx : x < 18446744073709551616) (hL : Lb = (min n 4096).toNat) (w : World) (hF : ∀ k, F k → k < w.heap.size) : Calls Try.prog 53 #[.int .u64 (x : Int), .int .i64 n] w fun e w' => ∃ a c, e = .returned (.slice a Lb c) ∧ ReadsF F w' (.slice a Lb c) Lb (byteAt x) ∧ Below w.heap.size w w' :=
  (bytes_any x n Lb hx hL w).mono fun e w' ⟨v, he, ho, hb⟩ => by
    obtain ⟨a, c, rfl⟩ := own_form ho
    exact ⟨a, c, he, reads_ownF ho hF, hb⟩
theorem publish_any {w : World} {F : Nat → Prop} {rb k : Nat} {M : Nat → Nat} (h : RamAt w F rb 8192 k (.pointer none) M) {n D A U : Nat} (hg : Gd n D A U) (m : Nat) (hm : m ≤ 65535) (hk : k + 2 ≤ 1000000) : Calls Try.prog 34 #[.pointer (some ⟨rb, 0, none⟩), .agg #[.int .i64 (n : Int), .int .u64 (D : Int), .int .u64 (A : Int), .int .u64 (U : Int)], .int .u16 (m : Int)] w fun e w' => e = .returned (.bool true) ∧ ∃ F', RamAt w' F' rb 8192 (k + 2) (.pointer none) (over M (U + 2) 2 (byteAt m)) ∧ Step F w F' w' := by
  have B0 : Hid ((w.alloc (.cells #[.int .i64 (n : Int), .int .u64 (D : Int), .int .u64 (A : Int), .int .u64 (U : Int)] 24)).heap[w.heap.size]? = some (.cells #[.int .i64 (n : Int), .int .u64 (D : Int), .int .u64 (A : Int), .int .u64 (U : Int)] 24 (0, 0)) ∧ RamAt (w.alloc (.cells #[.int .i64 (n : Int), .int .u64 (D : Int), .int .u64 (A : Int), .int .u64 (U : Int)] 24)) F rb 8192 k (.pointer none) M ∧ Below w.heap.size w (w.alloc (.cells #[.int .i64 (n : Int), .int .u64 (D : Int), .int .u64 (A : Int), .int .u64 (U : Int)] 24))) := ⟨heap_alloc_new _ _, h.below (one_box _ _), one_box _ _⟩
  have g1 := hg.u1
  have g2 := hg.u2
  have g3 := hg.n2
  have g4 := hg.n1
  have em : IntKind.u64.wrap (m : Int) = (m : Int) := by rw [wrap_u64]; omega
  obtain ⟨x, qx⟩ : ∃ y : Nat, y = U + 2 := ⟨_, rfl⟩
  have wx : IntKind.u64.wrap ((U : Int) + 2) = (x : Int) := by rw [wrap_u64]; omega
  have HX : Hid (U + 2 = x ∧ (2147483648 ≤ x ∧ x + 2 ≤ 2147491840) ∧ m < 18446744073709551616 ∧ k + 2 ≤ 1000000) := ⟨by omega, ⟨by omega, by omega⟩, by omega, hk⟩
  have HG : Hid (Gd n D A U) := hg
  have HN : Hid (¬ F w.heap.size) := fun hf => by have := h.lt _ hf; omega
  clear g1 g2 g3 g4 hg h hm hk qx
  rw [HX.out.1]
  go_enter Try.func34, Try.ntmps34
  go_upto_region 1 with fail
  generalize (w.alloc (.cells #[.int .i64 (n : Int), .int .u64 (D : Int), .int .u64 (A : Int), .int .u64 (U : Int)] 24)) = w0 at *
  obtain ⟨c0, c1, c2, c3⟩ := box4_facts B0.out.1
  have X0 : Hid (w0.drew.heap[w.heap.size]? = some (.cells #[.int .i64 (n : Int), .int .u64 (D : Int), .int .u64 (A : Int), .int .u64 (U : Int)] 24 (0, 0)) ∧ RamAt w0.drew F rb 8192 k (.pointer none) M ∧ Below w.heap.size w w0.drew) := ⟨B0.out.1, B0.out.2.1.below (Below.drew (Below.refl _ _)), B0.out.2.2.drew⟩
  go_region_held3 (fun Z => Z.cell? ⟨w.heap.size, 0, none⟩ = some (.int .i64 (n : Int)) ∧ Z.cell? ⟨w.heap.size, 1, none⟩ = some (.int .u64 (D : Int)) ∧ Z.cell? ⟨w.heap.size, 2, none⟩ = some (.int .u64 (A : Int)) ∧ Z.cell? ⟨w.heap.size, 3, none⟩ = some (.int .u64 (U : Int))) (go_keep) (first | (go_at_call 53; refine (bytes_F (F := F) m 2 2 HX.out.2.2.1 (by decide) _ (fun q hq => X0.out.2.1.lt q hq)).mono ?_; rintro e w2 ⟨ba, bc, rfl, hr, hb⟩; have X2 : Hid ((w2.heap[w.heap.size]? = some (.cells #[.int .i64 (n : Int), .int .u64 (D : Int), .int .u64 (A : Int), .int .u64 (U : Int)] 24 (0, 0)) ∧ RamAt w2 F rb 8192 k (.pointer none) M ∧ Below w.heap.size w w2) ∧ ReadsF F w2 (.slice ba 2 bc) 2 (byteAt m)) := ⟨⟨below_box X0.out.1 hb, X0.out.2.1.below hb, below_to X0.out.2.2 hb⟩, hr⟩; clear hb hr; obtain ⟨e0, e1, e2, e3⟩ := box4_facts X2.out.1.1) | (go_at_call 58; refine (lay_any X2.out.1.2.1 HG.out x ba bc 2 (byteAt m) X2.out.2 (fun i _ => byteAt_le _ _) HX.out.2.1 HX.out.2.2.2).mono ?_; rintro e w3 ⟨rfl, F3, hr, hs⟩; have X3 : Hid (RamAt w3 F3 rb 8192 (k + 2) (.pointer none) (over M x 2 (byteAt m)) ∧ Step F w F3 w3 ∧ w3.heap[w.heap.size]? = some (.cells #[.int .i64 (n : Int), .int .u64 (D : Int), .int .u64 (A : Int), .int .u64 (U : Int)] 24 (0, 0))) := ⟨hr, (Step.of_below X2.out.1.2.2).trans hs, step_box hs X2.out.1.1 (fun hf => HN.out hf)⟩; clear hr hs; obtain ⟨f0, f1, f2, f3⟩ := box4_facts X3.out.2.2))
  go_wp2_with fail
  go_ret
  exact ⟨rfl, F3, X3.out.1, X3.out.2.1⟩
theorem want_any {w : World} {F : Nat → Prop} {rb k : Nat} {M : Nat → Nat} (h : RamAt w F rb 8192 k (.pointer none) M) {n D A U : Nat} (hg : Gd n D A U) (m : Nat) (hm : m ≤ 65535) (hk : k + 2 ≤ 1000000) : Calls Try.prog 36 #[.pointer (some ⟨rb, 0, none⟩), .agg #[.int .i64 (n : Int), .int .u64 (D : Int), .int .u64 (A : Int), .int .u64 (U : Int)], .int .u16 (m : Int)] w fun e w' => e = .returned (.bool true) ∧ ∃ F', RamAt w' F' rb 8192 (k + 2) (.pointer none) (over M (U + 4 + 8 * n) 2 (byteAt m)) ∧ Step F w F' w' := by
  have B0 : Hid ((w.alloc (.cells #[.int .i64 (n : Int), .int .u64 (D : Int), .int .u64 (A : Int), .int .u64 (U : Int)] 24)).heap[w.heap.size]? = some (.cells #[.int .i64 (n : Int), .int .u64 (D : Int), .int .u64 (A : Int), .int .u64 (U : Int)] 24 (0, 0)) ∧ RamAt (w.alloc (.cells #[.int .i64 (n : Int), .int .u64 (D : Int), .int .u64 (A : Int), .int .u64 (U : Int)] 24)) F rb 8192 k (.pointer none) M ∧ Below w.heap.size w (w.alloc (.cells #[.int .i64 (n : Int), .int .u64 (D : Int), .int .u64 (A : Int), .int .u64 (U : Int)] 24))) := ⟨heap_alloc_new _ _, h.below (one_box _ _), one_box _ _⟩
  have g1 := hg.u1
  have g2 := hg.u2
  have g3 := hg.n2
  have g4 := hg.n1
  have em : IntKind.u64.wrap (m : Int) = (m : Int) := by rw [wrap_u64]; omega
  have en : IntKind.u64.wrap (n : Int) = (n : Int) := by rw [wrap_u64]; omega
  obtain ⟨U4, qU4⟩ : ∃ y : Nat, y = U + 4 := ⟨_, rfl⟩
  have wU4 : IntKind.u64.wrap ((U : Int) + 4) = (U4 : Int) := by rw [wrap_u64]; omega
  obtain ⟨n8, qn8⟩ : ∃ y : Nat, y = 8 * n := ⟨_, rfl⟩
  have wn8 : IntKind.u64.wrap (8 * (n : Int)) = (n8 : Int) := by rw [wrap_u64]; omega
  obtain ⟨x, qx⟩ : ∃ y : Nat, y = U4 + n8 := ⟨_, rfl⟩
  have wx : IntKind.u64.wrap ((U4 : Int) + (n8 : Int)) = (x : Int) := by rw [wrap_u64]; omega
  have HX : Hid (U + 4 + 8 * n = x ∧ (2147483648 ≤ x ∧ x + 2 ≤ 2147491840) ∧ m < 18446744073709551616 ∧ k + 2 ≤ 1000000) := ⟨by omega, ⟨by omega, by omega⟩, by omega, hk⟩
  have HG : Hid (Gd n D A U) := hg
  have HN : Hid (¬ F w.heap.size) := fun hf => by have := h.lt _ hf; omega
  clear g1 g2 g3 g4 hg h hm hk qU4 qn8 qx
  rw [HX.out.1]
  go_enter Try.func36, Try.ntmps36
  go_upto_region 1 with fail
  generalize (w.alloc (.cells #[.int .i64 (n : Int), .int .u64 (D : Int), .int .u64 (A : Int), .int .u64 (U : Int)] 24)) = w0 at *
  obtain ⟨c0, c1, c2, c3⟩ := box4_facts B0.out.1
  have X0 : Hid (w0.drew.heap[w.heap.size]? = some (.cells #[.int .i64 (n : Int), .int .u64 (D : Int), .int .u64 (A : Int), .int .u64 (U : Int)] 24 (0, 0)) ∧ RamAt w0.drew F rb 8192 k (.pointer none) M ∧ Below w.heap.size w w0.drew) := ⟨B0.out.1, B0.out.2.1.below (Below.drew (Below.refl _ _)), B0.out.2.2.drew⟩
  go_region_held3 (fun Z => Z.cell? ⟨w.heap.size, 0, none⟩ = some (.int .i64 (n : Int)) ∧ Z.cell? ⟨w.heap.size, 1, none⟩ = some (.int .u64 (D : Int)) ∧ Z.cell? ⟨w.heap.size, 2, none⟩ = some (.int .u64 (A : Int)) ∧ Z.cell? ⟨w.heap.size, 3, none⟩ = some (.int .u64 (U : Int))) (go_keep) (first | (go_at_call 53; refine (bytes_F (F := F) m 2 2 HX.out.2.2.1 (by decide) _ (fun q hq => X0.out.2.1.lt q hq)).mono ?_; rintro e w2 ⟨ba, bc, rfl, hr, hb⟩; have X2 : Hid ((w2.heap[w.heap.size]? = some (.cells #[.int .i64 (n : Int), .int .u64 (D : Int), .int .u64 (A : Int), .int .u64 (U : Int)] 24 (0, 0)) ∧ RamAt w2 F rb 8192 k (.pointer none) M ∧ Below w.heap.size w w2) ∧ ReadsF F w2 (.slice ba 2 bc) 2 (byteAt m)) := ⟨⟨below_box X0.out.1 hb, X0.out.2.1.below hb, below_to X0.out.2.2 hb⟩, hr⟩; clear hb hr; obtain ⟨e0, e1, e2, e3⟩ := box4_facts X2.out.1.1) | (go_at_call 58; refine (lay_any X2.out.1.2.1 HG.out x ba bc 2 (byteAt m) X2.out.2 (fun i _ => byteAt_le _ _) HX.out.2.1 HX.out.2.2.2).mono ?_; rintro e w3 ⟨rfl, F3, hr, hs⟩; have X3 : Hid (RamAt w3 F3 rb 8192 (k + 2) (.pointer none) (over M x 2 (byteAt m)) ∧ Step F w F3 w3 ∧ w3.heap[w.heap.size]? = some (.cells #[.int .i64 (n : Int), .int .u64 (D : Int), .int .u64 (A : Int), .int .u64 (U : Int)] 24 (0, 0))) := ⟨hr, (Step.of_below X2.out.1.2.2).trans hs, step_box hs X2.out.1.1 (fun hf => HN.out hf)⟩; clear hr hs; obtain ⟨f0, f1, f2, f3⟩ := box4_facts X3.out.2.2))
  go_wp2_with fail
  go_ret
  exact ⟨rfl, F3, X3.out.1, X3.out.2.1⟩
theorem over_same {M : Nat → Nat} (x L : Nat) {f g : Nat → Nat} (h : ∀ i, i < L → f i = g i) (a : Nat) : over M x L f a = over M x L g a := by
  unfold over
  split
  · exact h _ (by omega)
  · rfl
theorem put15_any {w : World} {F : Nat → Prop} {rb k : Nat} {M : Nat → Nat} (h : RamAt w F rb 8192 k (.pointer none) M) {n D A U : Nat} (hg : Gd n D A U) (m r d c : Nat) (hm : m ≤ 65535) (hr : r = m % n) (hd : d ≤ 65535) (hc : c ≤ 4294967295) (hk : k + 8 ≤ 1000000) : Calls Try.prog 32 #[.pointer (some ⟨rb, 0, none⟩), .agg #[.int .i64 (n : Int), .int .u64 (D : Int), .int .u64 (A : Int), .int .u64 (U : Int)], .int .u16 (m : Int), .int .u16 (d : Int), .int .u32 (c : Int)] w fun e w' => e = .returned (.bool true) ∧ ∃ F', RamAt w' F' rb 8192 (k + 8) (.pointer none) (over M (U + 4 + 8 * r) 8 (eB d c)) ∧ Step F w F' w' := by
  have B0 : Hid ((w.alloc (.cells #[.int .i64 (n : Int), .int .u64 (D : Int), .int .u64 (A : Int), .int .u64 (U : Int)] 24)).heap[w.heap.size]? = some (.cells #[.int .i64 (n : Int), .int .u64 (D : Int), .int .u64 (A : Int), .int .u64 (U : Int)] 24 (0, 0)) ∧ RamAt (w.alloc (.cells #[.int .i64 (n : Int), .int .u64 (D : Int), .int .u64 (A : Int), .int .u64 (U : Int)] 24)) F rb 8192 k (.pointer none) M ∧ Below w.heap.size w (w.alloc (.cells #[.int .i64 (n : Int), .int .u64 (D : Int), .int .u64 (A : Int), .int .u64 (U : Int)] 24))) := ⟨heap_alloc_new _ _, h.below (one_box _ _), one_box _ _⟩
  have g1 := hg.u1
  have g2 := hg.u2
  have g3 := hg.n2
  have g4 := hg.n1
  have g5 : r < n := by rw [hr]; exact Nat.mod_lt _ (by omega)
  have ed : IntKind.u64.wrap (d : Int) = (d : Int) := by rw [wrap_u64]; omega
  have ec : IntKind.u64.wrap (c : Int) = (c : Int) := by rw [wrap_u64]; omega
  obtain ⟨v, hv⟩ : ∃ v, v = d + c * 4294967296 := ⟨_, rfl⟩
  obtain ⟨U4, qU4⟩ : ∃ y : Nat, y = U + 4 := ⟨_, rfl⟩
  have wU4 : IntKind.u64.wrap ((U : Int) + 4) = (U4 : Int) := by rw [wrap_u64]; omega
  obtain ⟨r8, qr8⟩ : ∃ y : Nat, y = 8 * r := ⟨_, rfl⟩
  have wr8 : IntKind.u64.wrap (8 * (r : Int)) = (r8 : Int) := by rw [wrap_u64]; omega
  obtain ⟨x, qx⟩ : ∃ y : Nat, y = U4 + r8 := ⟨_, rfl⟩
  have wx : IntKind.u64.wrap ((U4 : Int) + (r8 : Int)) = (x : Int) := by rw [wrap_u64]; omega
  have HX : Hid (U + 4 + 8 * r = x ∧ (2147483648 ≤ x ∧ x + 8 ≤ 2147491840) ∧ v < 18446744073709551616 ∧ k + 8 ≤ 1000000) := ⟨by omega, ⟨by omega, by omega⟩, by omega, hk⟩
  have HG : Hid (Gd n D A U) := hg
  have HS : Hid (∀ V, Calls Try.prog 56 #[.agg #[.int .i64 (n : Int), .int .u64 (D : Int), .int .u64 (A : Int), .int .u64 (U : Int)], .int .u16 (m : Int)] V fun e w' => e = .returned (.int .u64 (r : Int)) ∧ Below V.heap.size V w') := fun V => slot_any hg m r hm hr V
  have HP : Hid (∀ V, Calls Try.prog 57 #[.int .u64 (d : Int), .int .i64 32, .int .i64 32, .int .u64 (c : Int)] V fun r w' => r = .returned (.int .u64 (v : Int)) ∧ w' = V) := fun V => wput_any d c v hd hc hv V
  have HE : Hid (∀ i, i < 8 → byteAt v i = eB d c i) := by rw [hv]; exact entry_bytes d c hd
  have HN : Hid (¬ F w.heap.size) := fun hf => by have := h.lt _ hf; omega
  clear g1 g2 g3 g4 g5 hg h hm hk hr hd hc hv qU4 qr8 qx
  rw [HX.out.1]
  go_enter Try.func32, Try.ntmps32
  go_upto_region 1 with fail
  generalize (w.alloc (.cells #[.int .i64 (n : Int), .int .u64 (D : Int), .int .u64 (A : Int), .int .u64 (U : Int)] 24)) = w0 at *
  obtain ⟨c0, c1, c2, c3⟩ := box4_facts B0.out.1
  go_wp2_with fail
  refine (HP.out _).mono ?_
  rintro e w5 ⟨rfl, hw⟩
  rw [hw]
  clear hw w5
  go_upto_region 2 with fail
  have X0 : Hid (w0.drew.heap[w.heap.size]? = some (.cells #[.int .i64 (n : Int), .int .u64 (D : Int), .int .u64 (A : Int), .int .u64 (U : Int)] 24 (0, 0)) ∧ RamAt w0.drew F rb 8192 k (.pointer none) M ∧ Below w.heap.size w w0.drew) := ⟨B0.out.1, B0.out.2.1.below (Below.drew (Below.refl _ _)), B0.out.2.2.drew⟩
  go_region_held3 (fun Z => Z.cell? ⟨w.heap.size, 0, none⟩ = some (.int .i64 (n : Int)) ∧ Z.cell? ⟨w.heap.size, 1, none⟩ = some (.int .u64 (D : Int)) ∧ Z.cell? ⟨w.heap.size, 2, none⟩ = some (.int .u64 (A : Int)) ∧ Z.cell? ⟨w.heap.size, 3, none⟩ = some (.int .u64 (U : Int))) (go_keep) (first | (go_at_call 56; refine (HS.out _).mono ?_; rintro e w1 ⟨rfl, hb⟩; have X1 : Hid (w1.heap[w.heap.size]? = some (.cells #[.int .i64 (n : Int), .int .u64 (D : Int), .int .u64 (A : Int), .int .u64 (U : Int)] 24 (0, 0)) ∧ RamAt w1 F rb 8192 k (.pointer none) M ∧ Below w.heap.size w w1) := ⟨below_box X0.out.1 hb, X0.out.2.1.below hb, below_to X0.out.2.2 hb⟩; clear hb; obtain ⟨d0, d1, d2, d3⟩ := box4_facts X1.out.1) | (go_at_call 53; refine (bytes_F (F := F) v 8 8 HX.out.2.2.1 (by decide) _ (fun q hq => X1.out.2.1.lt q hq)).mono ?_; rintro e w2 ⟨ba, bc, rfl, hr, hb⟩; have X2 : Hid ((w2.heap[w.heap.size]? = some (.cells #[.int .i64 (n : Int), .int .u64 (D : Int), .int .u64 (A : Int), .int .u64 (U : Int)] 24 (0, 0)) ∧ RamAt w2 F rb 8192 k (.pointer none) M ∧ Below w.heap.size w w2) ∧ ReadsF F w2 (.slice ba 8 bc) 8 (byteAt v)) := ⟨⟨below_box X1.out.1 hb, X1.out.2.1.below hb, below_to X1.out.2.2 hb⟩, hr⟩; clear hb hr; obtain ⟨e0, e1, e2, e3⟩ := box4_facts X2.out.1.1) | (go_at_call 58; refine (lay_any X2.out.1.2.1 HG.out x ba bc 8 (byteAt v) X2.out.2 (fun i _ => byteAt_le _ _) HX.out.2.1 HX.out.2.2.2).mono ?_; rintro e w3 ⟨rfl, F3, hr, hs⟩; have X3 : Hid (RamAt w3 F3 rb 8192 (k + 8) (.pointer none) (over M x 8 (byteAt v)) ∧ Step F w F3 w3 ∧ w3.heap[w.heap.size]? = some (.cells #[.int .i64 (n : Int), .int .u64 (D : Int), .int .u64 (A : Int), .int .u64 (U : Int)] 24 (0, 0))) := ⟨hr, (Step.of_below X2.out.1.2.2).trans hs, step_box hs X2.out.1.1 (fun hf => HN.out hf)⟩; clear hr hs; obtain ⟨f0, f1, f2, f3⟩ := box4_facts X3.out.2.2))
  go_wp2_with fail
  go_ret
  exact ⟨rfl, F3, X3.out.1.congr (fun a => over_same _ _ HE.out a), X3.out.2.1⟩
end Go.Proofs.Ythnmoalomodbpaa
