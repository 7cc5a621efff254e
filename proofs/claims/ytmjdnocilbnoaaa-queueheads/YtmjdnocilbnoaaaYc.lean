/- Texts put together. -/
import Derived.Test.YtmjdnocilbnoaaaYb
import Derived.Laws.StructEq
import Derived.Test.YtmjdnocilbnoaaaYa
import Derived.Laws.BitsAllLaws
import Derived.Deep.AppendLies
import Derived.Deep.RegionHeld3
import Derived.Deep.DeepCutAuto
/- Put, Publish and Want of the program. -/
namespace Go.Proofs.Ytmjdnocilbnoaaa
open Go.RowKit Go.Maps
set_option linter.unusedVariables false
set_option linter.unusedSimpArgs false
set_option maxRecDepth 100000
theorem place32 (w : World) : Calls Try.prog 100 #[.int .i64 32] w fun e w' => e = .returned (.bool true) ∧ w' = w := by
  go_enter Try.func100, Try.ntmps100
  go_wp2_with fail
  go_ret
  exact ⟨rfl, rfl⟩
theorem mask32 (w : World) : Calls Try.prog 101 #[.int .i64 32] w fun e w' => e = .returned (.int .u64 4294967295) ∧ w' = w := by
  go_enter Try.func101, Try.ntmps101
  go_wp2_with fail
  go_ret
  exact ⟨rfl, rfl⟩
theorem put_num (d c : Nat) (hd : d ≤ 65535) (hc : c ≤ 4294967295) : bits BinOp.or IntKind.u64 (bits BinOp.andNot IntKind.u64 (d : Int) 18446744069414584320) (bits BinOp.and IntKind.u64 (IntKind.u64.wrap ((c : Int) * 4294967296)) 18446744069414584320) = ((d + c * 4294967296 : Nat) : Int) := by
  obtain ⟨q, hq⟩ : ∃ q : Nat, q = c * 4294967296 := ⟨_, rfl⟩
  have e0 : IntKind.u64.wrap ((c : Int) * 4294967296) = (q : Int) := by rw [wrap_u64]; omega
  have e1 : bits BinOp.andNot IntKind.u64 (d : Int) 18446744069414584320 = (d : Int) := by
    rw [u64_andNot (d : Int) 18446744069414584320 (by omega) (by omega) (by decide) (by decide)]
    show ((d &&& (2 ^ 32 - 1) : Nat) : Int) = _
    rw [Nat.and_two_pow_sub_one_eq_mod, Nat.mod_eq_of_lt (by omega)]
  have e2 : bits BinOp.and IntKind.u64 (q : Int) 18446744069414584320 = (q : Int) := by
    rw [u64_and (q : Int) 18446744069414584320 (by omega) (by omega) (by decide) (by decide)]
    show ((q &&& 4294967295 <<< 32 : Nat) : Int) = _
    have : q = c <<< 32 := by rw [Nat.shiftLeft_eq]; exact hq
    rw [this, ← Nat.shiftLeft_and_distrib]
    rw [show c &&& 4294967295 = c &&& (2 ^ 32 - 1) from rfl, Nat.and_two_pow_sub_one_eq_mod, Nat.mod_eq_of_lt (by omega)]
  rw [e0, e1, e2, bits_or_u64_nat _ _ (by omega) (by omega)]
  have h := Nat.two_pow_add_eq_or_of_lt (i := 32) (b := d) (by omega) c
  rw [Nat.or_comm, hq, Nat.mul_comm c 4294967296, show (4294967296 : Nat) = 2 ^ 32 from rfl, ← h, Nat.add_comm]
theorem wput_any (d c e : Nat) (hd : d ≤ 65535) (hc : c ≤ 4294967295) (he : e = d + c * 4294967296) (w : World) : Calls Try.prog 85 #[.int .u64 (d : Int), .int .i64 32, .int .i64 32, .int .u64 (c : Int)] w fun r w' => r = .returned (.int .u64 (e : Int)) ∧ w' = w := by
  have E : Hid (bits BinOp.or IntKind.u64 (bits BinOp.andNot IntKind.u64 (d : Int) 18446744069414584320) (bits BinOp.and IntKind.u64 (IntKind.u64.wrap ((c : Int) * 4294967296)) 18446744069414584320) = (e : Int)) := by rw [he]; exact put_num d c hd hc
  clear hd hc he
  go_enter Try.func85, Try.ntmps85
  go_wp2_with fail
  refine (place32 _).mono ?_
  rintro e w2 ⟨rfl, hw⟩
  rw [hw]
  clear hw w2
  go_wp2_with fail
  refine (mask32 _).mono ?_
  rintro e w2 ⟨rfl, hw⟩
  rw [hw]
  clear hw w2
  go_wp2_with fail
  go_ret
  exact ⟨ret_int E.out, rfl⟩
/-- an entry's bytes -/
def eB (d c : Nat) : Nat → Nat := catF (byteAt d) 4 (byteAt c)
theorem entry_bytes (d c : Nat) (hd : d ≤ 65535) : ∀ i, i < 8 → byteAt (d + c * 4294967296) i = eB d c i := by
  intro i hi
  unfold eB catF byteAt
  rcases (by omega : i = 0 ∨ i = 1 ∨ i = 2 ∨ i = 3 ∨ i = 4 ∨ i = 5 ∨ i = 6 ∨ i = 7) with rfl | rfl | rfl | rfl | rfl | rfl | rfl | rfl
  all_goals simp
  all_goals omega
theorem ReadsF.below {F : Nat → Prop} {w w' : World} {v : Value} {n : Nat} {f : Nat → Nat} (h : ReadsF F w v n f) (hb : Below w.heap.size w w') : ReadsF F w' v n f := h.step (Step.of_below hb)
theorem lay_any {w : World} {F : Nat → Prop} {rb k : Nat} {M : Nat → Nat} (h : RamAt w F rb 8192 k (.pointer none) M) {n D A U : Nat} (hg : Gd n D A U) (x : Nat) (va : Option Addr) (vc Lb : Nat) (f : Nat → Nat) (hr : ReadsF F w (.slice va Lb vc) Lb f) (hf : ∀ i, i < Lb → f i ≤ 255) (hx : 2147483648 ≤ x ∧ x + Lb ≤ 2147491840) (hk : k + Lb ≤ 1000000) : Calls Try.prog 73 #[.pointer (some ⟨rb, 0, none⟩), .agg #[.int .i64 (n : Int), .int .u64 (D : Int), .int .u64 (A : Int), .int .u64 (U : Int)], .int .u64 (x : Int), .slice va Lb vc] w fun e w' => e = .returned (.bool true) ∧ ∃ F', RamAt w' F' rb 8192 (k + Lb) (.pointer none) (over M x Lb f) ∧ Step F w F' w' := by
  have HR : Hid (RamAt (w.alloc (.cells #[.int .i64 (n : Int), .int .u64 (D : Int), .int .u64 (A : Int), .int .u64 (U : Int)] 25)) F rb 8192 k (.pointer none) M ∧ ReadsF F (w.alloc (.cells #[.int .i64 (n : Int), .int .u64 (D : Int), .int .u64 (A : Int), .int .u64 (U : Int)] 25)) (.slice va Lb vc) Lb f ∧ Below w.heap.size w (w.alloc (.cells #[.int .i64 (n : Int), .int .u64 (D : Int), .int .u64 (A : Int), .int .u64 (U : Int)] 25))) := ⟨h.below (one_box _ _), hr.below (one_box _ _), one_box _ _⟩
  have HG : Hid (Gd n D A U ∧ A < 18446744073709551616 ∧ U < 18446744073709551616 ∧ x < 18446744073709551616 ∧ inB x Lb 2147483648 8192 = true ∧ (∀ i, i < Lb → f i ≤ 255) ∧ k + Lb ≤ 1000000) := ⟨hg, by have := hg.a2; omega, by have := hg.u2; omega, by omega, by simp only [inB, decide_eq_true_iff]; omega, hf, hk⟩
  clear h hr hg hf hx hk
  go_enter Try.func73, Try.ntmps73
  go_wp2_with fail
  refine (check_any HG.out.1.d1 HG.out.2.1 HG.out.2.2.1 HR.out.1 (by omega)).mono ?_
  rintro e w1 ⟨rfl, hb1⟩
  rw [HG.out.1.chk]
  have X1 : Hid (RamAt w1 F rb 8192 k (.pointer none) M ∧ ReadsF F w1 (.slice va Lb vc) Lb f ∧ Below w.heap.size w w1) := ⟨HR.out.1.below hb1, HR.out.2.1.below hb1, below_to HR.out.2.2 hb1⟩
  clear hb1 HR
  go_wp2_with fail
  refine (write_any X1.out.1 (by omega) x Lb f _ HG.out.2.2.2.1 X1.out.2.1 HG.out.2.2.2.2.2.1 HG.out.2.2.2.2.2.2).mono ?_
  rintro e w2 ⟨rfl, F2, h2, hs2⟩
  have hin : inB (x : Int) (Lb : Int) 2147483648 ((8192 : Nat) : Int) = true := HG.out.2.2.2.2.1
  rw [hin] at h2 ⊢
  rw [if_pos rfl] at h2
  have X2 : Hid (RamAt w2 F2 rb 8192 (k + Lb) (.pointer none) (over M x Lb f) ∧ Step F w F2 w2) := ⟨h2, (Step.of_below X1.out.2.2).trans hs2⟩
  clear h2 hs2 hin
  go_wp2_with fail
  go_ret
  exact ⟨rfl, F2, X2.out.1, X2.out.2⟩
theorem bytes_F {F : Nat → Prop} (x : Nat) (n : Int) (Lb : Nat) (hx : x < 18446744073709551616) (hL : Lb = (min n 4096).toNat) (w : World) (hF : ∀ k, F k → k < w.heap.size) : Calls Try.prog 43 #[.int .u64 (x : Int), .int .i64 n] w fun e w' => ∃ a c, e = .returned (.slice a Lb c) ∧ ReadsF F w' (.slice a Lb c) Lb (byteAt x) ∧ Below w.heap.size w w' :=
  (bytes_any x n Lb hx hL w).mono fun e w' ⟨v, he, ho, hb⟩ => by
    obtain ⟨a, c, rfl⟩ := own_form ho
    exact ⟨a, c, he, reads_ownF ho hF, hb⟩
theorem publish_any {w : World} {F : Nat → Prop} {rb k : Nat} {M : Nat → Nat} (h : RamAt w F rb 8192 k (.pointer none) M) {n D A U : Nat} (hg : Gd n D A U) (m : Nat) (hm : m ≤ 65535) (hk : k + 2 ≤ 1000000) : Calls Try.prog 72 #[.pointer (some ⟨rb, 0, none⟩), .agg #[.int .i64 (n : Int), .int .u64 (D : Int), .int .u64 (A : Int), .int .u64 (U : Int)], .int .u16 (m : Int)] w fun e w' => e = .returned (.bool true) ∧ ∃ F', RamAt w' F' rb 8192 (k + 2) (.pointer none) (over M (U + 2) 2 (byteAt m)) ∧ Step F w F' w' := by
  have B0 : Hid ((w.alloc (.cells #[.int .i64 (n : Int), .int .u64 (D : Int), .int .u64 (A : Int), .int .u64 (U : Int)] 25)).heap[w.heap.size]? = some (.cells #[.int .i64 (n : Int), .int .u64 (D : Int), .int .u64 (A : Int), .int .u64 (U : Int)] 25 (0, 0)) ∧ RamAt (w.alloc (.cells #[.int .i64 (n : Int), .int .u64 (D : Int), .int .u64 (A : Int), .int .u64 (U : Int)] 25)) F rb 8192 k (.pointer none) M ∧ Below w.heap.size w (w.alloc (.cells #[.int .i64 (n : Int), .int .u64 (D : Int), .int .u64 (A : Int), .int .u64 (U : Int)] 25))) := ⟨heap_alloc_new _ _, h.below (one_box _ _), one_box _ _⟩
  have g1 := hg.u1
  have g2 := hg.u2
  have g3 := hg.n2
  have g4 := hg.n1
  have em : IntKind.u64.wrap (m : Int) = (m : Int) := by rw [wrap_u64]; omega
  obtain ⟨x, qx⟩ : ∃ y : Nat, y = U + 2 := ⟨_, rfl⟩
  have wx : IntKind.u64.wrap ((U : Int) + 2) = (x : Int) := by rw [wrap_u64]; omega
  have HX : Hid (U + 2 = x ∧ (2147483648 ≤ x ∧ x + 2 ≤ 2147491840) ∧ m < 18446744073709551616 ∧ k + 2 ≤ 1000000) := ⟨by omega, ⟨by omega, by omega⟩, by omega, hk⟩
  have HG : Hid (Gd n D A U) := hg
  have HN : Hid (¬ F w.heap.size) := fun hf => by have := h.lt _ hf; omega
  clear g1 g2 g3 g4 hg h hm hk qx
  rw [HX.out.1]
  go_enter Try.func72, Try.ntmps72
  go_upto_region 1 with fail
  generalize (w.alloc (.cells #[.int .i64 (n : Int), .int .u64 (D : Int), .int .u64 (A : Int), .int .u64 (U : Int)] 25)) = w0 at *
  obtain ⟨c0, c1, c2, c3⟩ := box4_facts B0.out.1
  have X0 : Hid (w0.drew.heap[w.heap.size]? = some (.cells #[.int .i64 (n : Int), .int .u64 (D : Int), .int .u64 (A : Int), .int .u64 (U : Int)] 25 (0, 0)) ∧ RamAt w0.drew F rb 8192 k (.pointer none) M ∧ Below w.heap.size w w0.drew) := ⟨B0.out.1, B0.out.2.1.below (Below.drew (Below.refl _ _)), B0.out.2.2.drew⟩
  go_region_held3 (fun Z => Z.cell? ⟨w.heap.size, 0, none⟩ = some (.int .i64 (n : Int)) ∧ Z.cell? ⟨w.heap.size, 1, none⟩ = some (.int .u64 (D : Int)) ∧ Z.cell? ⟨w.heap.size, 2, none⟩ = some (.int .u64 (A : Int)) ∧ Z.cell? ⟨w.heap.size, 3, none⟩ = some (.int .u64 (U : Int))) (go_keep) (first | (go_at_call 43; refine (bytes_F (F := F) m 2 2 HX.out.2.2.1 (by decide) _ (fun q hq => X0.out.2.1.lt q hq)).mono ?_; rintro e w2 ⟨ba, bc, rfl, hr, hb⟩; have X2 : Hid ((w2.heap[w.heap.size]? = some (.cells #[.int .i64 (n : Int), .int .u64 (D : Int), .int .u64 (A : Int), .int .u64 (U : Int)] 25 (0, 0)) ∧ RamAt w2 F rb 8192 k (.pointer none) M ∧ Below w.heap.size w w2) ∧ ReadsF F w2 (.slice ba 2 bc) 2 (byteAt m)) := ⟨⟨below_box X0.out.1 hb, X0.out.2.1.below hb, below_to X0.out.2.2 hb⟩, hr⟩; clear hb hr; obtain ⟨e0, e1, e2, e3⟩ := box4_facts X2.out.1.1) | (go_at_call 73; refine (lay_any X2.out.1.2.1 HG.out x ba bc 2 (byteAt m) X2.out.2 (fun i _ => byteAt_le _ _) HX.out.2.1 HX.out.2.2.2).mono ?_; rintro e w3 ⟨rfl, F3, hr, hs⟩; have X3 : Hid (RamAt w3 F3 rb 8192 (k + 2) (.pointer none) (over M x 2 (byteAt m)) ∧ Step F w F3 w3 ∧ w3.heap[w.heap.size]? = some (.cells #[.int .i64 (n : Int), .int .u64 (D : Int), .int .u64 (A : Int), .int .u64 (U : Int)] 25 (0, 0))) := ⟨hr, (Step.of_below X2.out.1.2.2).trans hs, step_box hs X2.out.1.1 (fun hf => HN.out hf)⟩; clear hr hs; obtain ⟨f0, f1, f2, f3⟩ := box4_facts X3.out.2.2))
  go_wp2_with fail
  go_ret
  exact ⟨rfl, F3, X3.out.1, X3.out.2.1⟩
theorem want_any {w : World} {F : Nat → Prop} {rb k : Nat} {M : Nat → Nat} (h : RamAt w F rb 8192 k (.pointer none) M) {n D A U : Nat} (hg : Gd n D A U) (m : Nat) (hm : m ≤ 65535) (hk : k + 2 ≤ 1000000) : Calls Try.prog 52 #[.pointer (some ⟨rb, 0, none⟩), .agg #[.int .i64 (n : Int), .int .u64 (D : Int), .int .u64 (A : Int), .int .u64 (U : Int)], .int .u16 (m : Int)] w fun e w' => e = .returned (.bool true) ∧ ∃ F', RamAt w' F' rb 8192 (k + 2) (.pointer none) (over M (U + 4 + 8 * n) 2 (byteAt m)) ∧ Step F w F' w' := by
  have B0 : Hid ((w.alloc (.cells #[.int .i64 (n : Int), .int .u64 (D : Int), .int .u64 (A : Int), .int .u64 (U : Int)] 25)).heap[w.heap.size]? = some (.cells #[.int .i64 (n : Int), .int .u64 (D : Int), .int .u64 (A : Int), .int .u64 (U : Int)] 25 (0, 0)) ∧ RamAt (w.alloc (.cells #[.int .i64 (n : Int), .int .u64 (D : Int), .int .u64 (A : Int), .int .u64 (U : Int)] 25)) F rb 8192 k (.pointer none) M ∧ Below w.heap.size w (w.alloc (.cells #[.int .i64 (n : Int), .int .u64 (D : Int), .int .u64 (A : Int), .int .u64 (U : Int)] 25))) := ⟨heap_alloc_new _ _, h.below (one_box _ _), one_box _ _⟩
  have g1 := hg.u1
  have g2 := hg.u2
  have g3 := hg.n2
  have g4 := hg.n1
  have em : IntKind.u64.wrap (m : Int) = (m : Int) := by rw [wrap_u64]; omega
  have en : IntKind.u64.wrap (n : Int) = (n : Int) := by rw [wrap_u64]; omega
  obtain ⟨U4, qU4⟩ : ∃ y : Nat, y = U + 4 := ⟨_, rfl⟩
  have wU4 : IntKind.u64.wrap ((U : Int) + 4) = (U4 : Int) := by rw [wrap_u64]; omega
  obtain ⟨n8, qn8⟩ : ∃ y : Nat, y = 8 * n := ⟨_, rfl⟩
  have wn8 : IntKind.u64.wrap (8 * (n : Int)) = (n8 : Int) := by rw [wrap_u64]; omega
  obtain ⟨x, qx⟩ : ∃ y : Nat, y = U4 + n8 := ⟨_, rfl⟩
  have wx : IntKind.u64.wrap ((U4 : Int) + (n8 : Int)) = (x : Int) := by rw [wrap_u64]; omega
  have HX : Hid (U + 4 + 8 * n = x ∧ (2147483648 ≤ x ∧ x + 2 ≤ 2147491840) ∧ m < 18446744073709551616 ∧ k + 2 ≤ 1000000) := ⟨by omega, ⟨by omega, by omega⟩, by omega, hk⟩
  have HG : Hid (Gd n D A U) := hg
  have HN : Hid (¬ F w.heap.size) := fun hf => by have := h.lt _ hf; omega
  clear g1 g2 g3 g4 hg h hm hk qU4 qn8 qx
  rw [HX.out.1]
  go_enter Try.func52, Try.ntmps52
  go_upto_region 1 with fail
  generalize (w.alloc (.cells #[.int .i64 (n : Int), .int .u64 (D : Int), .int .u64 (A : Int), .int .u64 (U : Int)] 25)) = w0 at *
  obtain ⟨c0, c1, c2, c3⟩ := box4_facts B0.out.1
  have X0 : Hid (w0.drew.heap[w.heap.size]? = some (.cells #[.int .i64 (n : Int), .int .u64 (D : Int), .int .u64 (A : Int), .int .u64 (U : Int)] 25 (0, 0)) ∧ RamAt w0.drew F rb 8192 k (.pointer none) M ∧ Below w.heap.size w w0.drew) := ⟨B0.out.1, B0.out.2.1.below (Below.drew (Below.refl _ _)), B0.out.2.2.drew⟩
  go_region_held3 (fun Z => Z.cell? ⟨w.heap.size, 0, none⟩ = some (.int .i64 (n : Int)) ∧ Z.cell? ⟨w.heap.size, 1, none⟩ = some (.int .u64 (D : Int)) ∧ Z.cell? ⟨w.heap.size, 2, none⟩ = some (.int .u64 (A : Int)) ∧ Z.cell? ⟨w.heap.size, 3, none⟩ = some (.int .u64 (U : Int))) (go_keep) (first | (go_at_call 43; refine (bytes_F (F := F) m 2 2 HX.out.2.2.1 (by decide) _ (fun q hq => X0.out.2.1.lt q hq)).mono ?_; rintro e w2 ⟨ba, bc, rfl, hr, hb⟩; have X2 : Hid ((w2.heap[w.heap.size]? = some (.cells #[.int .i64 (n : Int), .int .u64 (D : Int), .int .u64 (A : Int), .int .u64 (U : Int)] 25 (0, 0)) ∧ RamAt w2 F rb 8192 k (.pointer none) M ∧ Below w.heap.size w w2) ∧ ReadsF F w2 (.slice ba 2 bc) 2 (byteAt m)) := ⟨⟨below_box X0.out.1 hb, X0.out.2.1.below hb, below_to X0.out.2.2 hb⟩, hr⟩; clear hb hr; obtain ⟨e0, e1, e2, e3⟩ := box4_facts X2.out.1.1) | (go_at_call 73; refine (lay_any X2.out.1.2.1 HG.out x ba bc 2 (byteAt m) X2.out.2 (fun i _ => byteAt_le _ _) HX.out.2.1 HX.out.2.2.2).mono ?_; rintro e w3 ⟨rfl, F3, hr, hs⟩; have X3 : Hid (RamAt w3 F3 rb 8192 (k + 2) (.pointer none) (over M x 2 (byteAt m)) ∧ Step F w F3 w3 ∧ w3.heap[w.heap.size]? = some (.cells #[.int .i64 (n : Int), .int .u64 (D : Int), .int .u64 (A : Int), .int .u64 (U : Int)] 25 (0, 0))) := ⟨hr, (Step.of_below X2.out.1.2.2).trans hs, step_box hs X2.out.1.1 (fun hf => HN.out hf)⟩; clear hr hs; obtain ⟨f0, f1, f2, f3⟩ := box4_facts X3.out.2.2))
  go_wp2_with fail
  go_ret
  exact ⟨rfl, F3, X3.out.1, X3.out.2.1⟩
theorem over_same {M : Nat → Nat} (x L : Nat) {f g : Nat → Nat} (h : ∀ i, i < L → f i = g i) (a : Nat) : over M x L f a = over M x L g a := by
  unfold over
  split
  · exact h _ (by omega)
  · rfl
theorem put15_any {w : World} {F : Nat → Prop} {rb k : Nat} {M : Nat → Nat} (h : RamAt w F rb 8192 k (.pointer none) M) {n D A U : Nat} (hg : Gd n D A U) (m r d c : Nat) (hm : m ≤ 65535) (hr : r = m % n) (hd : d ≤ 65535) (hc : c ≤ 4294967295) (hk : k + 8 ≤ 1000000) : Calls Try.prog 71 #[.pointer (some ⟨rb, 0, none⟩), .agg #[.int .i64 (n : Int), .int .u64 (D : Int), .int .u64 (A : Int), .int .u64 (U : Int)], .int .u16 (m : Int), .int .u16 (d : Int), .int .u32 (c : Int)] w fun e w' => e = .returned (.bool true) ∧ ∃ F', RamAt w' F' rb 8192 (k + 8) (.pointer none) (over M (U + 4 + 8 * r) 8 (eB d c)) ∧ Step F w F' w' := by
  have B0 : Hid ((w.alloc (.cells #[.int .i64 (n : Int), .int .u64 (D : Int), .int .u64 (A : Int), .int .u64 (U : Int)] 25)).heap[w.heap.size]? = some (.cells #[.int .i64 (n : Int), .int .u64 (D : Int), .int .u64 (A : Int), .int .u64 (U : Int)] 25 (0, 0)) ∧ RamAt (w.alloc (.cells #[.int .i64 (n : Int), .int .u64 (D : Int), .int .u64 (A : Int), .int .u64 (U : Int)] 25)) F rb 8192 k (.pointer none) M ∧ Below w.heap.size w (w.alloc (.cells #[.int .i64 (n : Int), .int .u64 (D : Int), .int .u64 (A : Int), .int .u64 (U : Int)] 25))) := ⟨heap_alloc_new _ _, h.below (one_box _ _), one_box _ _⟩
  have g1 := hg.u1
  have g2 := hg.u2
  have g3 := hg.n2
  have g4 := hg.n1
  have g5 : r < n := by rw [hr]; exact Nat.mod_lt _ (by omega)
  have ed : IntKind.u64.wrap (d : Int) = (d : Int) := by rw [wrap_u64]; omega
  have ec : IntKind.u64.wrap (c : Int) = (c : Int) := by rw [wrap_u64]; omega
  obtain ⟨v, hv⟩ : ∃ v, v = d + c * 4294967296 := ⟨_, rfl⟩
  obtain ⟨U4, qU4⟩ : ∃ y : Nat, y = U + 4 := ⟨_, rfl⟩
  have wU4 : IntKind.u64.wrap ((U : Int) + 4) = (U4 : Int) := by rw [wrap_u64]; omega
  obtain ⟨r8, qr8⟩ : ∃ y : Nat, y = 8 * r := ⟨_, rfl⟩
  have wr8 : IntKind.u64.wrap (8 * (r : Int)) = (r8 : Int) := by rw [wrap_u64]; omega
  obtain ⟨x, qx⟩ : ∃ y : Nat, y = U4 + r8 := ⟨_, rfl⟩
  have wx : IntKind.u64.wrap ((U4 : Int) + (r8 : Int)) = (x : Int) := by rw [wrap_u64]; omega
  have HX : Hid (U + 4 + 8 * r = x ∧ (2147483648 ≤ x ∧ x + 8 ≤ 2147491840) ∧ v < 18446744073709551616 ∧ k + 8 ≤ 1000000) := ⟨by omega, ⟨by omega, by omega⟩, by omega, hk⟩
  have HG : Hid (Gd n D A U) := hg
  have HS : Hid (∀ V, Calls Try.prog 81 #[.agg #[.int .i64 (n : Int), .int .u64 (D : Int), .int .u64 (A : Int), .int .u64 (U : Int)], .int .u16 (m : Int)] V fun e w' => e = .returned (.int .u64 (r : Int)) ∧ Below V.heap.size V w') := fun V => slot_any hg m r hm hr V
  have HP : Hid (∀ V, Calls Try.prog 85 #[.int .u64 (d : Int), .int .i64 32, .int .i64 32, .int .u64 (c : Int)] V fun r w' => r = .returned (.int .u64 (v : Int)) ∧ w' = V) := fun V => wput_any d c v hd hc hv V
  have HE : Hid (∀ i, i < 8 → byteAt v i = eB d c i) := by rw [hv]; exact entry_bytes d c hd
  have HN : Hid (¬ F w.heap.size) := fun hf => by have := h.lt _ hf; omega
  clear g1 g2 g3 g4 g5 hg h hm hk hr hd hc hv qU4 qr8 qx
  rw [HX.out.1]
  go_enter Try.func71, Try.ntmps71
  go_upto_region 1 with fail
  generalize (w.alloc (.cells #[.int .i64 (n : Int), .int .u64 (D : Int), .int .u64 (A : Int), .int .u64 (U : Int)] 25)) = w0 at *
  obtain ⟨c0, c1, c2, c3⟩ := box4_facts B0.out.1
  go_wp2_with fail
  refine (HP.out _).mono ?_
  rintro e w5 ⟨rfl, hw⟩
  rw [hw]
  clear hw w5
  go_upto_region 2 with fail
  have X0 : Hid (w0.drew.heap[w.heap.size]? = some (.cells #[.int .i64 (n : Int), .int .u64 (D : Int), .int .u64 (A : Int), .int .u64 (U : Int)] 25 (0, 0)) ∧ RamAt w0.drew F rb 8192 k (.pointer none) M ∧ Below w.heap.size w w0.drew) := ⟨B0.out.1, B0.out.2.1.below (Below.drew (Below.refl _ _)), B0.out.2.2.drew⟩
  go_region_held3 (fun Z => Z.cell? ⟨w.heap.size, 0, none⟩ = some (.int .i64 (n : Int)) ∧ Z.cell? ⟨w.heap.size, 1, none⟩ = some (.int .u64 (D : Int)) ∧ Z.cell? ⟨w.heap.size, 2, none⟩ = some (.int .u64 (A : Int)) ∧ Z.cell? ⟨w.heap.size, 3, none⟩ = some (.int .u64 (U : Int))) (go_keep) (first | (go_at_call 81; refine (HS.out _).mono ?_; rintro e w1 ⟨rfl, hb⟩; have X1 : Hid (w1.heap[w.heap.size]? = some (.cells #[.int .i64 (n : Int), .int .u64 (D : Int), .int .u64 (A : Int), .int .u64 (U : Int)] 25 (0, 0)) ∧ RamAt w1 F rb 8192 k (.pointer none) M ∧ Below w.heap.size w w1) := ⟨below_box X0.out.1 hb, X0.out.2.1.below hb, below_to X0.out.2.2 hb⟩; clear hb; obtain ⟨d0, d1, d2, d3⟩ := box4_facts X1.out.1) | (go_at_call 43; refine (bytes_F (F := F) v 8 8 HX.out.2.2.1 (by decide) _ (fun q hq => X1.out.2.1.lt q hq)).mono ?_; rintro e w2 ⟨ba, bc, rfl, hr, hb⟩; have X2 : Hid ((w2.heap[w.heap.size]? = some (.cells #[.int .i64 (n : Int), .int .u64 (D : Int), .int .u64 (A : Int), .int .u64 (U : Int)] 25 (0, 0)) ∧ RamAt w2 F rb 8192 k (.pointer none) M ∧ Below w.heap.size w w2) ∧ ReadsF F w2 (.slice ba 8 bc) 8 (byteAt v)) := ⟨⟨below_box X1.out.1 hb, X1.out.2.1.below hb, below_to X1.out.2.2 hb⟩, hr⟩; clear hb hr; obtain ⟨e0, e1, e2, e3⟩ := box4_facts X2.out.1.1) | (go_at_call 73; refine (lay_any X2.out.1.2.1 HG.out x ba bc 8 (byteAt v) X2.out.2 (fun i _ => byteAt_le _ _) HX.out.2.1 HX.out.2.2.2).mono ?_; rintro e w3 ⟨rfl, F3, hr, hs⟩; have X3 : Hid (RamAt w3 F3 rb 8192 (k + 8) (.pointer none) (over M x 8 (byteAt v)) ∧ Step F w F3 w3 ∧ w3.heap[w.heap.size]? = some (.cells #[.int .i64 (n : Int), .int .u64 (D : Int), .int .u64 (A : Int), .int .u64 (U : Int)] 25 (0, 0))) := ⟨hr, (Step.of_below X2.out.1.2.2).trans hs, step_box hs X2.out.1.1 (fun hf => HN.out hf)⟩; clear hr hs; obtain ⟨f0, f1, f2, f3⟩ := box4_facts X3.out.2.2))
  go_wp2_with fail
  go_ret
  exact ⟨rfl, F3, X3.out.1.congr (fun a => over_same _ _ HE.out a), X3.out.2.1⟩
end Go.Proofs.Ytmjdnocilbnoaaa

/- What a walk along descriptors is, in plain numbers. -/
namespace Go.Proofs.Ytmjdnocilbnoaaa
open Go.RowKit Go.Maps
set_option linter.unusedVariables false
set_option linter.unusedSimpArgs false
set_option maxRecDepth 100000
/-- a descriptor -/
structure De where
  a : Nat
  l : Nat
  f : Nat
  x : Nat
def De.zero : De := ⟨0, 0, 0, 0⟩
def De.v (d : De) : Value := .agg #[.int .u64 (d.a : Int), .int .u32 (d.l : Int), .int .u16 (d.f : Int), .int .u16 (d.x : Int)]
def De.c (d : De) : Array Value := #[.int .u64 (d.a : Int), .int .u32 (d.l : Int), .int .u16 (d.f : Int), .int .u16 (d.x : Int)]
structure De.Ok (d : De) : Prop where
  a : d.a < 18446744073709551616
  l : d.l ≤ 4294967295
  f : d.f ≤ 65535
  x : d.x ≤ 65535
theorem De.zero_ok : De.zero.Ok := ⟨by decide, by decide, by decide, by decide⟩
/-- where a descriptor lies -/
def deX (t i : Nat) : Nat := (t + 16 * i) % 18446744073709551616
def deB (t i : Nat) : Bool := decide (i ≤ 255) && inB (deX t i) 16 2147483648 8192
def deN (M : Nat → Nat) (t i : Nat) : De := if deB t i = true then ⟨h256 (fun j => M (deX t i + j)) 8 0, h256 (fun j => M (deX t i + (8 + j))) 4 0, h256 (fun j => M (deX t i + (12 + j))) 2 0, h256 (fun j => M (deX t i + (14 + j))) 2 0⟩ else De.zero
/-- a segment -/
structure Seg where
  a : Nat
  l : Nat
  wr : Bool
/-- has a descriptor a flag (1, 2 or 4)? -/
def fl (f n : Nat) : Bool := decide (f / n % 2 = 1)
def De.seg (d : De) : Seg := ⟨d.a, d.l, fl d.f 2⟩
def lastW (l : List Seg) : Bool := match l.getLast? with | some s => s.wr | none => false
/-- a segment more: its error -/
def addE (l : List Seg) (d : De) : Nat := if inB d.a d.l 2147483648 8192 = true then (if (lastW l && !fl d.f 2) = true then 155 else 0) else 21
/-- how a walk along one table ends: its error, its last descriptor, the segments -/
structure Res where
  e : Nat
  d : De
  l : List Seg
def alongR (M : Nat → Nat) (t n : Nat) : Nat → Int → List Seg → Res
  | 0, i, l => if 0 ≤ i ∧ i < n then ⟨152, De.zero, l⟩ else ⟨151, De.zero, l⟩
  | k + 1, i, l => if 0 ≤ i ∧ i < n then (if deB t i.toNat = true then (if fl (deN M t i.toNat).f 4 = true then ⟨0, deN M t i.toNat, l⟩ else (if addE l (deN M t i.toNat) = 0 then (if fl (deN M t i.toNat).f 1 = true then alongR M t n k ((deN M t i.toNat).x : Int) (l ++ [(deN M t i.toNat).seg]) else ⟨0, deN M t i.toNat, l ++ [(deN M t i.toNat).seg]⟩) else ⟨addE l (deN M t i.toNat), De.zero, l⟩)) else ⟨21, De.zero, l⟩) else ⟨151, De.zero, l⟩
section
variable {M : Nat → Nat} {t n k : Nat} {i : Int} {l : List Seg}
theorem along_out (h : ¬ (0 ≤ i ∧ i < n)) : alongR M t n k i l = ⟨151, De.zero, l⟩ := by cases k <;> simp [alongR, h]
theorem along_loop (h : 0 ≤ i ∧ i < n) : alongR M t n 0 i l = ⟨152, De.zero, l⟩ := by simp [alongR, h]
theorem along_not {j : Nat} (h : j < n) (h1 : deB t j = false) : alongR M t n (k + 1) (j : Int) l = ⟨21, De.zero, l⟩ := by
  have : (0 : Int) ≤ j ∧ (j : Int) < n := by omega
  simp [alongR, this, h1, h]
theorem along_ind {j : Nat} {d : De} (h : j < n) (h1 : deB t j = true) (hd : deN M t j = d) (h2 : fl d.f 4 = true) : alongR M t n (k + 1) (j : Int) l = ⟨0, d, l⟩ := by
  subst hd
  simp [alongR, h1, h2, h]
theorem along_err {j : Nat} {d : De} (h : j < n) (h1 : deB t j = true) (hd : deN M t j = d) (h2 : fl d.f 4 = false) {e : Nat} (h3 : addE l d = e) (h4 : e ≠ 0) : alongR M t n (k + 1) (j : Int) l = ⟨e, De.zero, l⟩ := by
  subst hd h3
  simp [alongR, h1, h2, h, h4]
theorem along_end {j : Nat} {d : De} (h : j < n) (h1 : deB t j = true) (hd : deN M t j = d) (h2 : fl d.f 4 = false) (h3 : addE l d = 0) (h4 : fl d.f 1 = false) : alongR M t n (k + 1) (j : Int) l = ⟨0, d, l ++ [d.seg]⟩ := by
  subst hd
  simp [alongR, h1, h2, h, h3, h4]
theorem along_next {j : Nat} {d : De} (h : j < n) (h1 : deB t j = true) (hd : deN M t j = d) (h2 : fl d.f 4 = false) (h3 : addE l d = 0) (h4 : fl d.f 1 = true) : alongR M t n (k + 1) (j : Int) l = alongR M t n k (d.x : Int) (l ++ [d.seg]) := by
  subst hd
  simp [alongR, h1, h2, h, h3, h4]
end
theorem deN_ok {M : Nat → Nat} (hM : ∀ a, M a ≤ 255) (t i : Nat) : (deN M t i).Ok := by
  unfold deN
  split
  · have := DescAt.lt (M := M) (x := deX t i) ⟨rfl, rfl, rfl, rfl⟩ hM
    exact ⟨this.1, this.2.1, this.2.2.1, this.2.2.2⟩
  · exact De.zero_ok
theorem deN_at {M : Nat → Nat} {t i : Nat} (h : deB t i = true) : DescAt M (deX t i) (deN M t i).a (deN M t i).l (deN M t i).f (deN M t i).x := by
  simp only [deN, h, if_true]
  exact ⟨rfl, rfl, rfl, rfl⟩
theorem deN_no {M : Nat → Nat} {t i : Nat} (h : deB t i = false) : deN M t i = De.zero := by simp [deN, h]
theorem fl_and (f k : Nat) : decide (f &&& 2 ^ k = 0) = !fl f (2 ^ k) := by
  have h2 : f.testBit k = decide (f / 2 ^ k % 2 = 1) := by rw [Nat.testBit_eq_decide_div_mod_eq]
  unfold fl
  rw [← h2]
  cases hb : f.testBit k with
  | true =>
    have : ¬ (f &&& 2 ^ k = 0) := fun h => by
      have h3 := congrArg (fun x => Nat.testBit x k) h
      simp [Nat.testBit_and, hb] at h3
    simp [this]
  | false =>
    have : f &&& 2 ^ k = 0 := by
      apply Nat.eq_of_testBit_eq
      intro i
      rw [Nat.testBit_and, Nat.testBit_two_pow, Nat.zero_testBit]
      by_cases hi : k = i
      · subst hi; simp [hb]
      · simp [hi]
    simp [this]
/-- the table that a descriptor names: its error -/
def tabE (d : De) (al : Bool) : Nat := if (!al || fl d.f 1) = true then 153 else (if (decide (d.l = 0) || decide (4096 < d.l) || decide (¬ d.l % 16 = 0)) = true then 154 else (if inB d.a d.l 2147483648 8192 = true then 0 else 21))
/-- a chain: its error, its segments, its table -/
structure Cn where
  e : Nat
  l : List Seg
  ta : Nat
  tl : Nat
def walkR (M : Nat → Nat) (D n : Nat) (h : Int) (al : Bool) : Cn :=
  if (alongR M D n n h []).e ≠ 0 then ⟨(alongR M D n n h []).e, [], 0, 0⟩
  else if fl (alongR M D n n h []).d.f 4 = false then ⟨0, (alongR M D n n h []).l, 0, 0⟩
  else if tabE (alongR M D n n h []).d al ≠ 0 then ⟨tabE (alongR M D n n h []).d al, [], 0, 0⟩
  else if (alongR M (alongR M D n n h []).d.a ((alongR M D n n h []).d.l / 16) ((alongR M D n n h []).d.l / 16) 0 (alongR M D n n h []).l).e ≠ 0 then ⟨(alongR M (alongR M D n n h []).d.a ((alongR M D n n h []).d.l / 16) ((alongR M D n n h []).d.l / 16) 0 (alongR M D n n h []).l).e, [], 0, 0⟩
  else if fl (alongR M (alongR M D n n h []).d.a ((alongR M D n n h []).d.l / 16) ((alongR M D n n h []).d.l / 16) 0 (alongR M D n n h []).l).d.f 4 = true then ⟨153, [], 0, 0⟩
  else ⟨0, (alongR M (alongR M D n n h []).d.a ((alongR M D n n h []).d.l / 16) ((alongR M D n n h []).d.l / 16) 0 (alongR M D n n h []).l).l, (alongR M D n n h []).d.a, (alongR M D n n h []).d.l⟩
section
variable {M : Nat → Nat} {D n : Nat} {h : Int} {al : Bool} {r s : Res}
theorem walk_err (hr : alongR M D n n h [] = r) (he : r.e ≠ 0) : walkR M D n h al = ⟨r.e, [], 0, 0⟩ := by subst hr; simp [walkR, he]
theorem walk_plain (hr : alongR M D n n h [] = r) (he : r.e = 0) (hf : fl r.d.f 4 = false) : walkR M D n h al = ⟨0, r.l, 0, 0⟩ := by subst hr; simp [walkR, he, hf]
theorem walk_tab (hr : alongR M D n n h [] = r) (he : r.e = 0) (hf : fl r.d.f 4 = true) {e : Nat} (ht : tabE r.d al = e) (h0 : e ≠ 0) : walkR M D n h al = ⟨e, [], 0, 0⟩ := by subst hr ht; simp [walkR, he, hf, h0]
theorem walk_err2 (hr : alongR M D n n h [] = r) (he : r.e = 0) (hf : fl r.d.f 4 = true) (ht : tabE r.d al = 0) (hs : alongR M r.d.a (r.d.l / 16) (r.d.l / 16) 0 r.l = s) (h2 : s.e ≠ 0) : walkR M D n h al = ⟨s.e, [], 0, 0⟩ := by subst hr hs; simp [walkR, he, hf, ht, h2]
theorem walk_nest (hr : alongR M D n n h [] = r) (he : r.e = 0) (hf : fl r.d.f 4 = true) (ht : tabE r.d al = 0) (hs : alongR M r.d.a (r.d.l / 16) (r.d.l / 16) 0 r.l = s) (h2 : s.e = 0) (h3 : fl s.d.f 4 = true) : walkR M D n h al = ⟨153, [], 0, 0⟩ := by subst hr hs; simp [walkR, he, hf, ht, h2, h3]
theorem walk_two (hr : alongR M D n n h [] = r) (he : r.e = 0) (hf : fl r.d.f 4 = true) (ht : tabE r.d al = 0) (hs : alongR M r.d.a (r.d.l / 16) (r.d.l / 16) 0 r.l = s) (h2 : s.e = 0) (h3 : fl s.d.f 4 = false) : walkR M D n h al = ⟨0, s.l, r.d.a, r.d.l⟩ := by subst hr hs; simp [walkR, he, hf, ht, h2, h3]
end
/-- what holds of a walk's segments -/
structure SegOk (s : Seg) : Prop where
  a : s.a < 18446744073709551616
  l : s.l ≤ 8192
  i : inB s.a s.l 2147483648 8192 = true
theorem addE_in {l : List Seg} {d : De} (h : addE l d = 0) : inB d.a d.l 2147483648 8192 = true ∧ (lastW l && !fl d.f 2) = false := by
  unfold addE at h
  split at h
  · rename_i h1
    split at h
    · cases h
    · rename_i h2; exact ⟨h1, by simpa using h2⟩
  · cases h
theorem in_len {a l : Nat} (h : inB a l 2147483648 8192 = true) : l ≤ 8192 ∧ 2147483648 ≤ a ∧ a + l ≤ 2147491840 := by
  have : (2147483648 : Int) ≤ a ∧ (a : Int) + l ≤ 2147483648 + 8192 := by simpa [inB] using h
  omega
theorem along_all {M : Nat → Nat} (hM : ∀ a, M a ≤ 255) (t n : Nat) : ∀ (k : Nat) (i : Int) (l : List Seg), (∀ s ∈ l, SegOk s) → (∀ s ∈ (alongR M t n k i l).l, SegOk s) ∧ (alongR M t n k i l).d.Ok ∧ (alongR M t n k i l).l.length ≤ l.length + k := by
  intro k
  induction k with
  | zero =>
    intro i l hl
    unfold alongR
    split <;> exact ⟨hl, De.zero_ok, by simp⟩
  | succ k ih =>
    intro i l hl
    by_cases hi : 0 ≤ i ∧ i < n
    · obtain ⟨j, rfl⟩ : ∃ j : Nat, i = j := ⟨i.toNat, by omega⟩
      cases h1 : deB t j with
      | false => rw [along_not (by omega) h1]; exact ⟨hl, De.zero_ok, by simp⟩
      | true =>
        obtain ⟨d, hd⟩ : ∃ d, deN M t j = d := ⟨_, rfl⟩
        have hdo : d.Ok := hd ▸ deN_ok hM t j
        cases h2 : fl d.f 4 with
        | true => rw [along_ind (by omega) h1 hd h2]; exact ⟨hl, hdo, by simp⟩
        | false =>
          by_cases h3 : addE l d = 0
          · have hl2 : ∀ s ∈ l ++ [d.seg], SegOk s := by
              intro s hs
              rcases List.mem_append.1 hs with hs | hs
              · exact hl s hs
              · have : s = d.seg := by simpa using hs
                subst this
                exact ⟨hdo.a, (in_len (addE_in h3).1).1, (addE_in h3).1⟩
            cases h4 : fl d.f 1 with
            | false => rw [along_end (by omega) h1 hd h2 h3 h4]; exact ⟨hl2, hdo, by simp⟩
            | true =>
              rw [along_next (by omega) h1 hd h2 h3 h4]
              have := ih (d.x : Int) (l ++ [d.seg]) hl2
              refine ⟨this.1, this.2.1, ?_⟩
              have h5 := this.2.2
              simp at h5
              omega
          · rw [along_err (by omega) h1 hd h2 rfl h3]; exact ⟨hl, De.zero_ok, by simp⟩
    · rw [along_out hi]; exact ⟨hl, De.zero_ok, by simp⟩
theorem tab_in {d : De} {al : Bool} (h : tabE d al = 0) : al = true ∧ fl d.f 1 = false ∧ d.l % 16 = 0 ∧ 16 ≤ d.l ∧ d.l ≤ 4096 ∧ inB d.a d.l 2147483648 8192 = true := by
  unfold tabE at h
  split at h
  · cases h
  · rename_i h1
    split at h
    · cases h
    · rename_i h2
      split at h
      · rename_i h3
        simp only [Bool.or_eq_true, decide_eq_true_iff, not_or, Bool.not_eq_true, Bool.not_eq_false'] at h1 h2
        refine ⟨by simpa using h1.1, by simpa using h1.2, by omega, by omega, by omega, h3⟩
      · cases h
/-- what holds of a chain -/
theorem walk_all {M : Nat → Nat} (hM : ∀ a, M a ≤ 255) (D n : Nat) (hn : n ≤ 256) (h : Int) (al : Bool) : (∀ s ∈ (walkR M D n h al).l, SegOk s) ∧ (walkR M D n h al).l.length ≤ 512 ∧ ((walkR M D n h al).e ≠ 0 → (walkR M D n h al).l = [] ∧ (walkR M D n h al).ta = 0 ∧ (walkR M D n h al).tl = 0) ∧ ((walkR M D n h al).tl = 0 ∨ al = true ∧ inB (walkR M D n h al).ta (walkR M D n h al).tl 2147483648 8192 = true) ∧ (walkR M D n h al).ta < 18446744073709551616 ∧ (walkR M D n h al).tl ≤ 4096 ∧ ((walkR M D n h al).tl = 0 → (walkR M D n h al).ta = 0) := by
  obtain ⟨r, hr⟩ : ∃ r, alongR M D n n h [] = r := ⟨_, rfl⟩
  have h1 := along_all hM D n n h [] (by simp)
  rw [hr] at h1
  simp only [List.length_nil, Nat.zero_add] at h1
  by_cases he : r.e = 0
  · cases hf : fl r.d.f 4 with
    | false => rw [walk_plain hr he hf]; exact ⟨h1.1, by show r.l.length ≤ 512; omega, fun hh => absurd rfl hh, .inl rfl, Nat.succ_pos _, Nat.zero_le _, fun _ => rfl⟩
    | true =>
      by_cases ht : tabE r.d al = 0
      · obtain ⟨s, hs⟩ : ∃ s, alongR M r.d.a (r.d.l / 16) (r.d.l / 16) 0 r.l = s := ⟨_, rfl⟩
        have h2 := along_all hM r.d.a (r.d.l / 16) (r.d.l / 16) 0 r.l h1.1
        rw [hs] at h2
        obtain ⟨t1, t2, t3, t4, t5, t6⟩ := tab_in ht
        by_cases h3 : s.e = 0
        · cases h4 : fl s.d.f 4 with
          | true => rw [walk_nest hr he hf ht hs h3 h4]; exact ⟨by simp, by simp, fun _ => ⟨rfl, rfl, rfl⟩, .inl rfl, Nat.succ_pos _, Nat.zero_le _, fun _ => rfl⟩
          | false => rw [walk_two hr he hf ht hs h3 h4]; exact ⟨h2.1, by show s.l.length ≤ 512; have := h2.2.2; have := h1.2.2; omega, fun hh => absurd rfl hh, .inr ⟨t1, t6⟩, h1.2.1.a, t5, fun hh => by have : r.d.l = 0 := hh; omega⟩
        · rw [walk_err2 hr he hf ht hs h3]; exact ⟨by simp, by simp, fun _ => ⟨rfl, rfl, rfl⟩, .inl rfl, Nat.succ_pos _, Nat.zero_le _, fun _ => rfl⟩
      · rw [walk_tab hr he hf rfl ht]; exact ⟨by simp, by simp, fun _ => ⟨rfl, rfl, rfl⟩, .inl rfl, Nat.succ_pos _, Nat.zero_le _, fun _ => rfl⟩
  · rw [walk_err hr he]; exact ⟨by simp, by simp, fun _ => ⟨rfl, rfl, rfl⟩, .inl rfl, Nat.succ_pos _, Nat.zero_le _, fun _ => rfl⟩
end Go.Proofs.Ytmjdnocilbnoaaa

/- Lists of pieces: the call add of layer 2, and the document's call Same. -/
namespace Go.Proofs.Ytmjdnocilbnoaaa
open Go.RowKit Go.Maps
set_option linter.unusedVariables false
/-- pieces, as cells -/
def spanRow (l : List (Nat × Nat)) : List Value := l.flatMap fun p => [.int .u64 (p.1 : Nat), .int .u64 (p.2 : Nat)]
theorem spanRow_snoc (l : List (Nat × Nat)) (x L : Nat) : spanRow (l ++ [(x, L)]) = spanRow l ++ [.int .u64 (x : Nat), .int .u64 (L : Nat)] := by simp [spanRow]
theorem spanRow_get (l : List (Nat × Nat)) : ∀ i (h : i < l.length), (spanRow l)[i * 2]? = some (.int .u64 ((l[i]).1 : Nat)) ∧ (spanRow l)[i * 2 + 1]? = some (.int .u64 ((l[i]).2 : Nat)) := by
  induction l with
  | nil => intro i h; simp at h
  | cons p r ih =>
    intro i h
    cases i with
    | zero => simp [spanRow]
    | succ j =>
      have := ih j (by simpa using h)
      have e : spanRow (p :: r) = .int .u64 (p.1 : Nat) :: .int .u64 (p.2 : Nat) :: spanRow r := by simp [spanRow]
      rw [e, show (j + 1) * 2 = j * 2 + 1 + 1 from by omega]
      simpa using this
/-- a list of pieces that lies in blocks from B on -/
def SpanIn (B : Nat) (w : World) (v : Value) (l : List (Nat × Nat)) : Prop := w.ownsRow B 48 2 v l.length (spanRow l)
theorem SpanIn.kept {B : Nat} {w w' : World} {v : Value} {l : List (Nat × Nat)} (h : SpanIn B w v l) (hk : ∀ g, v.ownBlock = some g → w'.heap[g]? = w.heap[g]?) : SpanIn B w' v l := by
  refine ⟨h.1, ?_⟩
  rcases h.2 with hn | ⟨g, cap, cur, rfl, hb, hgg, rest⟩
  · exact .inl hn
  · exact .inr ⟨g, cap, cur, rfl, hb, (hk g rfl).trans hgg, rest⟩
theorem SpanIn.form {B : Nat} {w : World} {v : Value} {l : List (Nat × Nat)} (h : SpanIn B w v l) : ∃ a c, v = .slice a l.length c := by
  rcases h.2 with ⟨rfl, h0⟩ | ⟨g, cap, cur, rfl, _⟩
  · exact ⟨none, 0, by rw [h0]⟩
  · exact ⟨_, cap, rfl⟩
theorem SpanIn.lt {B : Nat} {w : World} {v : Value} {l : List (Nat × Nat)} (h : SpanIn B w v l) : ∀ g, v.ownBlock = some g → B ≤ g ∧ g < w.heap.size := World.ownsRow.lt h
theorem Try.info48 : (Try.prog.info? 48).map (fun i => (i.zero, i.size, i.bytes)) = some (some (.agg #[.int .u64 0, .int .u64 0]), 2, 16) := by kernel_rfl
theorem two_new (w : World) (x y : Value) (t : TypeId) : ∀ j u, [x, y][j]? = some u → (w.alloc (.cells #[x, y] t)).cell? ((⟨w.heap.size, 0, none⟩ : Addr).add j) = some u := by
  intro j u hj
  rw [addr_add, Nat.zero_add]
  simp only [World.cell?, heap_alloc_new]
  match j, hj with
  | 0, hj => simpa using hj
  | 1, hj => simpa using hj
theorem SpanIn.cells {B : Nat} {w : World} {v : Value} {l : List (Nat × Nat)} (h : SpanIn B w v l) (h0 : 0 < l.length) : ∃ g c, v = .slice (some ⟨g, 0, none⟩) l.length c ∧ ∀ i, i < l.length → w.cell? ⟨g, i * 2, none⟩ = some (.int .u64 ((l.getD i (0, 0)).1 : Nat)) ∧ w.cell? ⟨g, i * 2 + 1, none⟩ = some (.int .u64 ((l.getD i (0, 0)).2 : Nat)) := by
  have h' := h
  rcases h'.2 with ⟨_, h1⟩ | ⟨g, cap, cur, rfl, hb, hgg, rest⟩
  · omega
  · refine ⟨g, cap, rfl, fun i hi => ?_⟩
    have hc := World.ownsRow.cells h (g := g) rfl
    obtain ⟨e1, e2⟩ := spanRow_get l i hi
    have c1 := hc _ _ e1
    have c2 := hc _ _ e2
    rw [addr_add, Nat.zero_add] at c1 c2
    have e3 : l.getD i (0, 0) = l[i] := by simp [List.getD, hi]
    rw [e3]
    exact ⟨c1, c2⟩
end Go.Proofs.Ytmjdnocilbnoaaa

/- Flags; what a walker has. -/
namespace Go.Proofs.Ytmjdnocilbnoaaa
open Go.RowKit Go.Maps
set_option linter.unusedVariables false
set_option linter.unusedSimpArgs false
set_option maxRecDepth 100000
theorem ne_cast (m : Nat) : (((m : Int)) != 0) = !decide (m = 0) := by
  by_cases h : m = 0
  · subst h; rfl
  · simp [h]
theorem hasf1 (da dl df dx : Nat) (hf : df ≤ 65535) (w : World) : Calls Try.prog 83 #[.agg #[.int .u64 (da : Int), .int .u32 (dl : Int), .int .u16 (df : Int), .int .u16 (dx : Int)], .int .u16 1] w fun e w' => e = .returned (.bool (fl df 1)) ∧ Below w.heap.size w w' := by
  have hb : Below w.heap.size w (w.alloc (.cells #[.int .u64 (da : Int), .int .u32 (dl : Int), .int .u16 (df : Int), .int .u16 (dx : Int)] 151)) := (Below.refl _ _).alloc (Nat.le_refl _) _
  have HB : Hid (Below w.heap.size w (w.alloc (.cells #[.int .u64 (da : Int), .int .u32 (dl : Int), .int .u16 (df : Int), .int .u16 (dx : Int)] 151))) := hb
  have h1 := fl_and df 0
  obtain ⟨m, hm⟩ : ∃ m, m = df &&& 1 := ⟨_, rfl⟩
  have e1 : bits .and .u16 (df : Int) 1 = (m : Int) := by rw [hm]; exact u16_and_nat df 1 (by omega) (by omega)
  have h2 : fl df 1 = !decide (m = 0) := by rw [hm]; simp only [Nat.reducePow] at h1; rw [h1]; simp
  rw [h2]
  have h3 : decide ((m : Int) = 0) = decide (m = 0) := by
    by_cases hh : m = 0
    · simp [hh]
    · simp [hh]
  clear hb hm h1 h2 hf
  go_enter Try.func83, Try.ntmps83
  go_wp2_with fail
  go_ret
  exact ⟨by rw [ne_cast]; rfl, HB.out⟩
theorem hasf2 (da dl df dx : Nat) (hf : df ≤ 65535) (w : World) : Calls Try.prog 83 #[.agg #[.int .u64 (da : Int), .int .u32 (dl : Int), .int .u16 (df : Int), .int .u16 (dx : Int)], .int .u16 2] w fun e w' => e = .returned (.bool (fl df 2)) ∧ Below w.heap.size w w' := by
  have hb : Below w.heap.size w (w.alloc (.cells #[.int .u64 (da : Int), .int .u32 (dl : Int), .int .u16 (df : Int), .int .u16 (dx : Int)] 151)) := (Below.refl _ _).alloc (Nat.le_refl _) _
  have HB : Hid (Below w.heap.size w (w.alloc (.cells #[.int .u64 (da : Int), .int .u32 (dl : Int), .int .u16 (df : Int), .int .u16 (dx : Int)] 151))) := hb
  have h1 := fl_and df 1
  obtain ⟨m, hm⟩ : ∃ m, m = df &&& 2 := ⟨_, rfl⟩
  have e1 : bits .and .u16 (df : Int) 2 = (m : Int) := by rw [hm]; exact u16_and_nat df 2 (by omega) (by omega)
  have h2 : fl df 2 = !decide (m = 0) := by rw [hm]; simp only [Nat.reducePow] at h1; rw [h1]; simp
  rw [h2]
  have h3 : decide ((m : Int) = 0) = decide (m = 0) := by
    by_cases hh : m = 0
    · simp [hh]
    · simp [hh]
  clear hb hm h1 h2 hf
  go_enter Try.func83, Try.ntmps83
  go_wp2_with fail
  go_ret
  exact ⟨by rw [ne_cast]; rfl, HB.out⟩
theorem hasf4 (da dl df dx : Nat) (hf : df ≤ 65535) (w : World) : Calls Try.prog 83 #[.agg #[.int .u64 (da : Int), .int .u32 (dl : Int), .int .u16 (df : Int), .int .u16 (dx : Int)], .int .u16 4] w fun e w' => e = .returned (.bool (fl df 4)) ∧ Below w.heap.size w w' := by
  have hb : Below w.heap.size w (w.alloc (.cells #[.int .u64 (da : Int), .int .u32 (dl : Int), .int .u16 (df : Int), .int .u16 (dx : Int)] 151)) := (Below.refl _ _).alloc (Nat.le_refl _) _
  have HB : Hid (Below w.heap.size w (w.alloc (.cells #[.int .u64 (da : Int), .int .u32 (dl : Int), .int .u16 (df : Int), .int .u16 (dx : Int)] 151))) := hb
  have h1 := fl_and df 2
  obtain ⟨m, hm⟩ : ∃ m, m = df &&& 4 := ⟨_, rfl⟩
  have e1 : bits .and .u16 (df : Int) 4 = (m : Int) := by rw [hm]; exact u16_and_nat df 4 (by omega) (by omega)
  have h2 : fl df 4 = !decide (m = 0) := by rw [hm]; simp only [Nat.reducePow] at h1; rw [h1]; simp
  rw [h2]
  have h3 : decide ((m : Int) = 0) = decide (m = 0) := by
    by_cases hh : m = 0
    · simp [hh]
    · simp [hh]
  clear hb hm h1 h2 hf
  go_enter Try.func83, Try.ntmps83
  go_wp2_with fail
  go_ret
  exact ⟨by rw [ne_cast]; rfl, HB.out⟩
end Go.Proofs.Ytmjdnocilbnoaaa

/- A walker: its memory, its segments; a segment more. -/
namespace Go.Proofs.Ytmjdnocilbnoaaa
open Go.RowKit Go.Maps
set_option linter.unusedVariables false
set_option linter.unusedSimpArgs false
set_option maxRecDepth 100000
/-- what a memory is to a walk: Inv F w: it lies there, F: its blocks -/
structure Wm (rb : Nat) (M : Nat → Nat) (Inv : (Nat → Prop) → World → Prop) : Prop where
  ram : ∀ F w, Inv F w → ∃ G n lg, RamAt w G rb 8192 n lg M
  lt : ∀ F w, Inv F w → ∀ k, F k → k < w.heap.size
  step : ∀ F w G G' w', Inv F w → Step G w G' w' → (∀ k, F k → ¬ G k) → Inv F w'
theorem Wm.below {rb : Nat} {M : Nat → Nat} {Inv : (Nat → Prop) → World → Prop} (m : Wm rb M Inv) {F : Nat → Prop} {w w' : World} (h : Inv F w) (hb : Below w.heap.size w w') : Inv F w' := m.step F w (fun _ => False) (fun _ => False) w' h (Step.of_below hb) (fun _ _ h => h)
/-- all blocks of O but F's are as they were; F' has F's and none more of O's -/
structure Fly (O F : Nat → Prop) (w : World) (F' : Nat → Prop) (w' : World) : Prop where
  os : w'.os = w.os
  tape : w'.tape = w.tape
  output : w'.output = w.output
  size : w.heap.size ≤ w'.heap.size
  block : ∀ k, O k → ¬ F k → w'.heap[k]? = w.heap[k]?
  old : ∀ k, F' k → F k ∨ ¬ O k
  keep : ∀ k, F k → F' k
theorem Fly.trans {O F F' F'' : Nat → Prop} {w w' w'' : World} (h : Fly O F w F' w') (g : Fly O F' w' F'' w'') : Fly O F w F'' w'' :=
  ⟨g.os.trans h.os, g.tape.trans h.tape, g.output.trans h.output, Nat.le_trans h.size g.size,
   fun k hk hf => (g.block k hk (fun hf' => by rcases h.old k hf' with h1 | h1; exact hf h1; exact h1 hk)).trans (h.block k hk hf),
   fun k hf => by rcases g.old k hf with h1 | h1; exact h.old k h1; exact .inr h1,
   fun k hf => g.keep k (h.keep k hf)⟩
theorem Fly.of_step {O F F' : Nat → Prop} {w w' : World} (h : Step F w F' w') (hO : ∀ k, O k → k < w.heap.size) : Fly O F w F' w' :=
  ⟨h.os, h.tape, h.output, h.size, fun k hk hf => h.block k (hO k hk) hf, fun k hf => by rcases h.old k hf with h1 | h1; exact .inl h1; exact .inr (fun ho => by have := hO k ho; omega), h.keep⟩
theorem Fly.of_below {O F : Nat → Prop} {w w' : World} (h : Below w.heap.size w w') (hO : ∀ k, O k → k < w.heap.size) : Fly O F w F w' :=
  ⟨h.os, h.tape, h.output, h.size, fun k hk _ => h.block k (hO k hk), fun _ h => .inl h, fun _ h => h⟩
theorem Fly.refl (O F : Nat → Prop) (w : World) : Fly O F w F w := ⟨rfl, rfl, rfl, Nat.le_refl _, fun _ _ _ => rfl, fun _ h => .inl h, fun _ h => h⟩
theorem Fly.mono {O O' F F' : Nat → Prop} {w w' : World} (h : Fly O F w F' w') (ho : ∀ k, O' k → O k) : Fly O' F w F' w' := ⟨h.os, h.tape, h.output, h.size, fun k hk => h.block k (ho k hk), fun k hf => (h.old k hf).imp id (fun hn hh => hn (ho k hh)), h.keep⟩
theorem Fly.step {F F' : Nat → Prop} {w w' : World} (h : Fly (fun k => k < w.heap.size) F w F' w') : Step F w F' w' := ⟨h.os, h.tape, h.output, h.size, h.block, fun k hf => (h.old k hf).imp id (fun hn => by omega), h.keep⟩
/-- segments, as cells -/
def segRow (l : List Seg) : List Value := l.flatMap fun s => [.int .u64 (s.a : Nat), .int .u64 (s.l : Nat), .bool s.wr]
theorem segRow_snoc (l : List Seg) (s : Seg) : segRow (l ++ [s]) = segRow l ++ [.int .u64 (s.a : Nat), .int .u64 (s.l : Nat), .bool s.wr] := by simp [segRow]
theorem segRow_get (l : List Seg) : ∀ i (h : i < l.length), (segRow l)[i * 3]? = some (.int .u64 ((l[i]).a : Nat)) ∧ (segRow l)[i * 3 + 1]? = some (.int .u64 ((l[i]).l : Nat)) ∧ (segRow l)[i * 3 + 2]? = some (.bool (l[i]).wr) := by
  induction l with
  | nil => intro i h; simp at h
  | cons p r ih =>
    intro i h
    cases i with
    | zero => simp [segRow]
    | succ j =>
      have := ih j (by simpa using h)
      have e : segRow (p :: r) = .int .u64 (p.a : Nat) :: .int .u64 (p.l : Nat) :: .bool p.wr :: segRow r := by simp [segRow]
      rw [e, show (j + 1) * 3 = j * 3 + 1 + 1 + 1 from by omega]
      simpa using this
/-- segments that lie in blocks from B on -/
def SegIn (B : Nat) (w : World) (v : Value) (l : List Seg) : Prop := w.ownsRow B 64 3 v l.length (segRow l)
theorem SegIn.kept {B : Nat} {w w' : World} {v : Value} {l : List Seg} (h : SegIn B w v l) (hk : ∀ g, v.ownBlock = some g → w'.heap[g]? = w.heap[g]?) : SegIn B w' v l := by
  refine ⟨h.1, ?_⟩
  rcases h.2 with hn | ⟨g, cap, cur, rfl, hb, hgg, rest⟩
  · exact .inl hn
  · exact .inr ⟨g, cap, cur, rfl, hb, (hk g rfl).trans hgg, rest⟩
theorem SegIn.form {B : Nat} {w : World} {v : Value} {l : List Seg} (h : SegIn B w v l) : ∃ a c, v = .slice a l.length c := by
  rcases h.2 with ⟨rfl, h0⟩ | ⟨g, cap, cur, rfl, _⟩
  · exact ⟨none, 0, by rw [h0]⟩
  · exact ⟨_, cap, rfl⟩
theorem SegIn.lt {B : Nat} {w : World} {v : Value} {l : List Seg} (h : SegIn B w v l) : ∀ g, v.ownBlock = some g → B ≤ g ∧ g < w.heap.size := World.ownsRow.lt h
theorem SegIn.cells {B : Nat} {w : World} {v : Value} {l : List Seg} (h : SegIn B w v l) (h0 : 0 < l.length) : ∃ g c, v = .slice (some ⟨g, 0, none⟩) l.length c ∧ ∀ i (hi : i < l.length), w.cell? ⟨g, i * 3, none⟩ = some (.int .u64 ((l[i]).a : Nat)) ∧ w.cell? ⟨g, i * 3 + 1, none⟩ = some (.int .u64 ((l[i]).l : Nat)) ∧ w.cell? ⟨g, i * 3 + 2, none⟩ = some (.bool (l[i]).wr) := by
  have h' := h
  rcases h'.2 with ⟨_, h1⟩ | ⟨g, cap, cur, rfl, hb, hgg, rest⟩
  · omega
  · refine ⟨g, cap, rfl, fun i hi => ?_⟩
    have hc := World.ownsRow.cells h (g := g) rfl
    obtain ⟨e1, e2, e3⟩ := segRow_get l i hi
    have c1 := hc _ _ e1
    have c2 := hc _ _ e2
    have c3 := hc _ _ e3
    rw [addr_add, Nat.zero_add] at c1 c2 c3
    exact ⟨c1, c2, c3⟩
theorem lastW_get {l : List Seg} {i : Nat} (hi : i < l.length) (he : i + 1 = l.length) : lastW l = (l[i]).wr := by
  have : l.getLast? = some l[i] := by rw [List.getLast?_eq_getElem?, show l.length - 1 = i from by omega]; simp [hi]
  simp [lastW, this]
theorem Try.info52s : (Try.prog.info? 64).map (fun i => (i.zero, i.size, i.bytes)) = some (some (.agg #[.int .u64 0, .int .u64 0, .bool false]), 3, 24) := by kernel_rfl
theorem info52 : (Try.prog.info? 64).map (·.size) = some 3 := by kernel_rfl
theorem three_new (w : World) (x y z : Value) (t : TypeId) : ∀ j u, [x, y, z][j]? = some u → (w.alloc (.cells #[x, y, z] t)).cell? ((⟨w.heap.size, 0, none⟩ : Addr).add j) = some u := by
  intro j u hj
  rw [addr_add, Nat.zero_add]
  simp only [World.cell?, heap_alloc_new]
  match j, hj with
  | 0, hj => simpa using hj
  | 1, hj => simpa using hj
  | 2, hj => simpa using hj
theorem box3_facts {w : World} {b : Nat} {x0 x1 x2 : Value} {t : TypeId} (h : w.heap[b]? = some (.cells #[x0, x1, x2] t (0, 0))) : w.cell? ⟨b, 0, none⟩ = some x0 ∧ w.cell? ⟨b, 1, none⟩ = some x1 ∧ w.cell? ⟨b, 2, none⟩ = some x2 := ⟨cellOf h 0 _ rfl, cellOf h 1 _ rfl, cellOf h 2 _ rfl⟩
/-- a walker that lies in block wb: its memory, its segments -/
def Wd (Inv : (Nat → Prop) → World → Prop) (O F : Nat → Prop) (w : World) (rb wb : Nat) (l : List Seg) : Prop :=
  Inv F w ∧ ((∀ k, O k → k < w.heap.size) ∧ ¬ O wb) ∧ ¬ F wb ∧ ∃ v, w.heap[wb]? = some (.cells #[.pointer (some ⟨rb, 0, none⟩), v] 149 (0, 0)) ∧ SegIn 0 w v l ∧ ∀ g, v.ownBlock = some g → g ≠ wb ∧ ¬ F g ∧ ¬ O g
section
variable {rb wb : Nat} {M : Nat → Nat} {Inv : (Nat → Prop) → World → Prop} {O F : Nat → Prop} {w w' : World} {l : List Seg}
theorem Wd.lt (h : Wd Inv O F w rb wb l) : wb < w.heap.size := by
  obtain ⟨_, _, _, v, h4, _⟩ := h
  exact (Array.getElem?_eq_some_iff.1 h4).1
theorem Wd.old (h : Wd Inv O F w rb wb l) : ∀ k, O k → k < w.heap.size := h.2.1.1
theorem Wd.below (m : Wm rb M Inv) (h : Wd Inv O F w rb wb l) (hb : Below w.heap.size w w') : Wd Inv O F w' rb wb l := by
  obtain ⟨h1, h2, h3, v, h4, h5, h6⟩ := h
  exact ⟨m.below h1 hb, ⟨fun k hk => Nat.lt_of_lt_of_le (h2.1 k hk) hb.size, h2.2⟩, h3, v, below_box h4 hb, h5.kept (fun g hg => hb.block g (h5.lt g hg).2), h6⟩
theorem Wd.told (h : Wd Inv O F w rb wb l) {F' : Nat → Prop} (hi : Inv F' w') (hs : Step F w F' w') : Wd Inv O F' w' rb wb l := by
  have hlt := h.lt
  obtain ⟨h1, h2, h3, v, h4, h5, h6⟩ := h
  have hn : ∀ g, g < w.heap.size → ¬ F g → ¬ F' g := fun g hg hf hf' => by
    rcases hs.old g hf' with h | h
    · exact hf h
    · omega
  exact ⟨hi, ⟨fun k hk => Nat.lt_of_lt_of_le (h2.1 k hk) hs.size, h2.2⟩, hn wb hlt h3, v, (hs.block wb hlt h3).trans h4, h5.kept (fun g hg => hs.block g (h5.lt g hg).2 (h6 g hg).2.1), fun g hg => ⟨(h6 g hg).1, hn g (h5.lt g hg).2 (h6 g hg).2.1, (h6 g hg).2.2⟩⟩
theorem Wd.boxes (h : Wd Inv O F w rb wb l) : ∃ a c, w.heap[wb]? = some (.cells #[.pointer (some ⟨rb, 0, none⟩), .slice a l.length c] 149 (0, 0)) ∧ SegIn 0 w (.slice a l.length c) l ∧ (∀ g, (Value.slice a l.length c).ownBlock = some g → g ≠ wb ∧ ¬ F g ∧ ¬ O g) := by
  obtain ⟨h1, h2, h3, v, h4, h5, h6⟩ := h
  obtain ⟨a, c, rfl⟩ := h5.form
  exact ⟨a, c, h4, h5, h6⟩
theorem setw_box {w : World} {b : Nat} {p q u : Value} {t : TypeId} (h : w.heap[b]? = some (.cells #[p, q] t (0, 0))) : (w.setCell ⟨b, 1, none⟩ u).heap[b]? = some (.cells #[p, u] t (0, 0)) := by
  rw [setCell_eq_setRow w b 1 _ t (0, 0) u h, setRow_heap w b _ _ t _ h]; rfl
/-- a segment was appended, the walker tells it -/
theorem Wd.more (m : Wm rb M Inv) (h : Wd Inv O F w rb wb l) {a : Option Addr} {c : Nat} (hv : w.heap[wb]? = some (.cells #[.pointer (some ⟨rb, 0, none⟩), .slice a l.length c] 149 (0, 0))) {w1 : World} {g cap : Nat} {s : Seg} (hown : w1.ownsRow 0 64 3 (.slice (some ⟨g, 0, none⟩) (l.length + 1) cap) (l.length + 1) (segRow l ++ [.int .u64 (s.a : Nat), .int .u64 (s.l : Nat), .bool s.wr])) (hgr : w.grownBy w1 (Value.slice a l.length c).ownBlock) (hat : (Value.slice a l.length c).ownBlock = some g ∨ w.heap.size ≤ g) :
    Wd Inv O F (w1.setCell ⟨wb, 1, none⟩ (.slice (some ⟨g, 0, none⟩) (l.length + 1) cap)) rb wb (l ++ [s]) ∧ Fly O F w F (w1.setCell ⟨wb, 1, none⟩ (.slice (some ⟨g, 0, none⟩) (l.length + 1) cap)) := by
  have hlt := h.lt
  obtain ⟨h1, h2, h3, v, h4, h5, h6⟩ := h
  rw [hv] at h4
  simp only [Option.some.injEq, Obj.cells.injEq, Array.mk.injEq, List.cons.injEq, true_and, and_true] at h4
  subst h4
  have hF : ∀ k, F k → (w1.setCell ⟨wb, 1, none⟩ (.slice (some ⟨g, 0, none⟩) (l.length + 1) cap)).heap[k]? = w.heap[k]? := fun k hk => by
    rw [heap_setCell w1 wb 1 _ k (fun e => h3 (e ▸ hk))]
    exact hgr.block k (m.lt F w h1 k hk) (fun e => (h6 k e.symm).2.1 hk)
  have hwb : w1.heap[wb]? = some (.cells #[.pointer (some ⟨rb, 0, none⟩), .slice a l.length c] 149 (0, 0)) := (hgr.block wb hlt (fun e => (h6 wb e.symm).1 rfl)).trans hv
  have hgw : g ≠ wb := by
    rcases hat with h | h
    · exact (h6 g h).1
    · omega
  have hgF : ¬ F g := by
    rcases hat with h | h
    · exact (h6 g h).2.1
    · intro hf; have := m.lt F w h1 g hf; omega
  have hgO : ¬ O g := by
    rcases hat with h | h
    · exact (h6 g h).2.2
    · intro hf; have := h2.1 g hf; omega
  have hsz : (w1.setCell ⟨wb, 1, none⟩ (.slice (some ⟨g, 0, none⟩) (l.length + 1) cap)).heap.size = w1.heap.size := by simp [World.setCell]
  have hstep : Step (fun k => k = wb ∨ (Value.slice a l.length c).ownBlock = some k) w (fun k => k = wb ∨ (Value.slice a l.length c).ownBlock = some k) (w1.setCell ⟨wb, 1, none⟩ (.slice (some ⟨g, 0, none⟩) (l.length + 1) cap)) := by
    refine ⟨hgr.os, hgr.tape, hgr.output, by rw [hsz]; exact hgr.size, fun k hk hn => ?_, fun k hk => .inl hk, fun k hk => hk⟩
    rw [heap_setCell w1 wb 1 _ k (fun e => hn (.inl e))]
    exact hgr.block k hk (fun e => hn (.inr e.symm))
  refine ⟨⟨m.step F w _ _ _ h1 hstep (fun k hk hh => ?_), ⟨fun k hk => Nat.lt_of_lt_of_le (h2.1 k hk) hstep.size, h2.2⟩, h3, _, setw_box hwb, ?_, fun g' hg' => ?_⟩, ⟨hstep.os, hstep.tape, hstep.output, hstep.size, fun k hk hf => ?_, fun k hk => .inl hk, fun k hk => hk⟩⟩
  · rcases hh with hh | hh
    · exact h3 (hh ▸ hk)
    · exact (h6 k hh).2.1 hk
  · have e : (l ++ [s]).length = l.length + 1 := by simp
    unfold SegIn
    rw [segRow_snoc, e]
    refine ⟨hown.1, ?_⟩
    rcases hown.2 with ⟨hn, _⟩ | ⟨g', cap', cur, he, hb, hgg, rest⟩
    · cases hn
    · simp only [Value.slice.injEq, Option.some.injEq, Addr.mk.injEq, and_true, true_and] at he
      obtain ⟨rfl, rfl⟩ := he
      exact .inr ⟨_, _, cur, rfl, hb, (heap_setCell w1 wb 1 _ _ hgw).trans hgg, rest⟩
  · have : g' = g := by simpa [Value.ownBlock] using hg'.symm
    subst this
    exact ⟨hgw, hgF, hgO⟩
  · refine hstep.block k (h2.1 k hk) (fun hh => ?_)
    rcases hh with hh | hh
    · exact h2.2 (hh ▸ hk)
    · exact (h6 k hh).2.2 hk
theorem Wd.mono {O' : Nat → Prop} (h : Wd Inv O F w rb wb l) (ho : ∀ k, O' k → O k) : Wd Inv O' F w rb wb l := by
  obtain ⟨h1, h2, h3, v, h4, h5, h6⟩ := h
  exact ⟨h1, ⟨fun k hk => h2.1 k (ho k hk), fun hk => h2.2 (ho _ hk)⟩, h3, v, h4, h5, fun g hg => ⟨(h6 g hg).1, (h6 g hg).2.1, fun hk => (h6 g hg).2.2 (ho _ hk)⟩⟩
/-- a block that was made since is the walker's no more than O's -/
theorem Wd.box (m : Wm rb M Inv) (h : Wd Inv O F w rb wb l) (hb : Below w.heap.size w w') {b : Nat} (hlt : w.heap.size ≤ b) (hb2 : b < w'.heap.size) : Wd Inv (fun k => O k ∨ k = b) F w' rb wb l := by
  have hl := h.lt
  have hB := h.below m hb
  obtain ⟨h1, h2, h3, v, h4, h5, h6⟩ := hB
  obtain ⟨k1, k2, k3, v', k4, k5, k6⟩ := h
  have hv : v = v' := by
    have := h4
    rw [below_box k4 hb] at this
    simp only [Option.some.injEq, Obj.cells.injEq, Array.mk.injEq, List.cons.injEq, true_and, and_true] at this
    exact this.symm
  subst hv
  refine ⟨h1, ⟨fun k hk => hk.elim (h2.1 k) (fun e => e ▸ hb2), fun hk => hk.elim h2.2 (fun e => by omega)⟩, h3, v, h4, h5, fun g hg => ⟨(h6 g hg).1, (h6 g hg).2.1, fun hk => hk.elim (h6 g hg).2.2 (fun e => ?_)⟩⟩
  have := (k5.lt g hg).2
  omega
end
end Go.Proofs.Ytmjdnocilbnoaaa

/- The bytes that a chain names, in plain lists. -/
namespace Go.Proofs.Ytmjdnocilbnoaaa
open Go.RowKit Go.Maps
set_option linter.unusedVariables false
set_option linter.unusedSimpArgs false
set_option maxRecDepth 100000
/-- the addresses of all that is to be read, or written -/
def addrs (b : Bool) (l : List Seg) : List Nat := l.flatMap fun s => if s.wr = b then (List.range s.l).map (s.a + ·) else []
def sizeN (b : Bool) (l : List Seg) : Nat := (l.map fun s => if s.wr = b then s.l else 0).sum
theorem addrs_length (b : Bool) (l : List Seg) : (addrs b l).length = sizeN b l := by
  induction l with
  | nil => rfl
  | cons s l ih =>
    have e : addrs b (s :: l) = (if s.wr = b then (List.range s.l).map (s.a + ·) else []) ++ addrs b l := by simp [addrs]
    have e2 : sizeN b (s :: l) = (if s.wr = b then s.l else 0) + sizeN b l := by simp [sizeN]
    rw [e, e2, List.length_append, ih]
    split <;> simp
theorem sizeN_cons (b : Bool) (s : Seg) (l : List Seg) : sizeN b (s :: l) = (if s.wr = b then s.l else 0) + sizeN b l := by simp [sizeN]
theorem addrs_cons (b : Bool) (s : Seg) (l : List Seg) : addrs b (s :: l) = (if s.wr = b then (List.range s.l).map (s.a + ·) else []) ++ addrs b l := by simp [addrs]
theorem sizeN_take (b : Bool) (l : List Seg) (i : Nat) (hi : i < l.length) : sizeN b (l.take (i + 1)) = sizeN b (l.take i) + (if (l[i]).wr = b then (l[i]).l else 0) := by
  rw [List.take_add_one, List.getElem?_eq_getElem hi]
  simp only [sizeN, List.map_append, List.sum_append, Option.toList_some, List.map_cons, List.map_nil, List.sum_cons, List.sum_nil, Nat.add_zero]
theorem sizeN_le (b : Bool) (l : List Seg) (h : ∀ s ∈ l, SegOk s) : sizeN b l ≤ l.length * 8192 := by
  induction l with
  | nil => simp [sizeN]
  | cons s l ih =>
    have h1 := ih (fun x hx => h x (List.mem_cons_of_mem _ hx))
    have h2 := (h s (List.mem_cons_self)).l
    rw [sizeN_cons, List.length_cons]
    split <;> omega
def pcs (b : Bool) : List Seg → Nat → Nat → List (Nat × Nat) × Nat × Nat
  | [], f, n => ([], f, n)
  | s :: l, f, n => if s.wr = b then ((if min n (s.l - min f s.l) = 0 then (pcs b l (f - min f s.l) (n - min n (s.l - min f s.l))).1 else (s.a + min f s.l, min n (s.l - min f s.l)) :: (pcs b l (f - min f s.l) (n - min n (s.l - min f s.l))).1), (pcs b l (f - min f s.l) (n - min n (s.l - min f s.l))).2) else pcs b l f n
theorem pcs_other {b : Bool} {s : Seg} {l : List Seg} {f n : Nat} (h : ¬ s.wr = b) : pcs b (s :: l) f n = pcs b l f n := by simp [pcs, h]
theorem pcs_none {b : Bool} {s : Seg} {l : List Seg} {f n sk tk : Nat} (h : s.wr = b) (h1 : sk = min f s.l) (h2 : tk = min n (s.l - sk)) (h0 : tk = 0) : pcs b (s :: l) f n = pcs b l (f - sk) (n - tk) := by
  subst h1
  rw [h0] at h2
  subst h0
  simp only [pcs, h, if_true, ← h2]
theorem pcs_some {b : Bool} {s : Seg} {l : List Seg} {f n sk tk : Nat} (h : s.wr = b) (h1 : sk = min f s.l) (h2 : tk = min n (s.l - sk)) (h0 : ¬ tk = 0) : pcs b (s :: l) f n = ((s.a + sk, tk) :: (pcs b l (f - sk) (n - tk)).1, (pcs b l (f - sk) (n - tk)).2) := by
  subst h1 h2
  simp only [pcs, h, if_true, h0, if_false]
theorem pcs_rest (b : Bool) : ∀ (l : List Seg) (f n : Nat), (pcs b l f n).2 = (f - sizeN b l, n - (sizeN b l - f)) := by
  intro l
  induction l with
  | nil => intro f n; simp [pcs, sizeN]
  | cons s l ih =>
    intro f n
    rw [sizeN_cons]
    by_cases h : s.wr = b
    · simp only [pcs, h, if_true]
      rw [ih]
      simp only [Prod.mk.injEq]
      omega
    · rw [pcs_other h, ih, if_neg h, Nat.zero_add]
def spanA (ps : List (Nat × Nat)) : List Nat := ps.flatMap fun p => (List.range p.2).map (p.1 + ·)
theorem spanA_cons (p : Nat × Nat) (l : List (Nat × Nat)) : spanA (p :: l) = (List.range p.2).map (p.1 + ·) ++ spanA l := by simp [spanA]
theorem spanA_append (k l : List (Nat × Nat)) : spanA (k ++ l) = spanA k ++ spanA l := by simp [spanA]
theorem range_cut (a L f n : Nat) : ((((List.range L).map (a + ·)).drop f).take n) = (List.range (min n (L - f))).map (a + f + ·) := by
  apply List.ext_getElem?
  intro i
  simp only [List.getElem?_take, List.getElem?_drop, List.getElem?_map, List.getElem?_range']
  by_cases h : i < min n (L - f)
  · rw [if_pos (by omega), List.getElem?_range (by omega), List.getElem?_range h]
    simp; omega
  · rw [List.getElem?_eq_none (l := List.range (min n (L - f))) (by simp; omega)]
    split
    · rw [List.getElem?_eq_none (by simp; omega)]; rfl
    · rfl
theorem pcs_span (b : Bool) : ∀ (l : List Seg) (f n : Nat), spanA (pcs b l f n).1 = ((addrs b l).drop f).take n := by
  intro l
  induction l with
  | nil => intro f n; simp [pcs, addrs, spanA]
  | cons s l ih =>
    intro f n
    rw [addrs_cons]
    by_cases h : s.wr = b
    · rw [if_pos h, List.drop_append, List.take_append, range_cut]
      have e1 : f - ((List.range s.l).map (s.a + ·)).length = f - min f s.l := by simp; omega
      have e2 : n - (((List.range s.l).map (s.a + ·)).drop f).length = n - min n (s.l - min f s.l) := by simp; omega
      rw [e1, e2, ← ih]
      have e3 : min n (s.l - f) = min n (s.l - min f s.l) := by omega
      rw [e3]
      by_cases h0 : min n (s.l - min f s.l) = 0
      · rw [pcs_none h rfl rfl h0, h0]; simp
      · rw [pcs_some h rfl rfl h0, spanA_cons]
        have e4 : min f s.l = f := by omega
        simp only [e4]
    · rw [if_neg h, List.nil_append, pcs_other h]
      exact ih f n
theorem pcs_ok {b : Bool} {l : List Seg} (h : ∀ s ∈ l, SegOk s) : ∀ (f n : Nat), ∀ p ∈ (pcs b l f n).1, inB p.1 p.2 2147483648 8192 = true ∧ 0 < p.2 ∧ p.1 < 18446744073709551616 ∧ p.2 ≤ 8192 := by
  induction l with
  | nil => intro f n p hp; simp [pcs] at hp
  | cons s l ih =>
    intro f n p hp
    have ih2 := ih (fun x hx => h x (List.mem_cons_of_mem _ hx))
    by_cases hb : s.wr = b
    · by_cases h0 : min n (s.l - min f s.l) = 0
      · rw [pcs_none hb rfl rfl h0] at hp
        exact ih2 _ _ p hp
      · rw [pcs_some hb rfl rfl h0] at hp
        rcases List.mem_cons.1 hp with rfl | hp
        · have hs := h s List.mem_cons_self
          have h1 := in_len hs.i
          have h3 : min f s.l + min n (s.l - min f s.l) ≤ s.l := by omega
          refine ⟨?_, by simp only; omega, by simp only; omega, by simp only; omega⟩
          simp only [inB, Bool.and_eq_true, decide_eq_true_iff]
          omega
        · exact ih2 _ _ p hp
    · rw [pcs_other hb] at hp
      exact ih2 _ _ p hp
theorem pcs_len (b : Bool) : ∀ (l : List Seg) (f n : Nat), (pcs b l f n).1.length ≤ l.length := by
  intro l
  induction l with
  | nil => intro f n; simp [pcs]
  | cons s l ih =>
    intro f n
    by_cases hb : s.wr = b
    · by_cases h0 : min n (s.l - min f s.l) = 0
      · rw [pcs_none hb rfl rfl h0]
        have := ih (f - min f s.l) (n - min n (s.l - min f s.l))
        simp only [List.length_cons]
        omega
      · rw [pcs_some hb rfl rfl h0]
        have := ih (f - min f s.l) (n - min n (s.l - min f s.l))
        simp only [List.length_cons]
        omega
    · rw [pcs_other hb]
      have := ih f n
      simp only [List.length_cons]
      omega
/-- is there so much? -/
def roomB (b : Bool) (l : List Seg) (f n : Nat) : Bool := decide (f ≤ sizeN b l ∧ n ≤ sizeN b l - f)
theorem room_iff (b : Bool) (l : List Seg) (f n : Nat) : roomB b l f n = true ↔ (pcs b l f n).2 = (0, 0) := by
  rw [pcs_rest]
  simp only [roomB, decide_eq_true_iff, Prod.mk.injEq]
  omega
end Go.Proofs.Ytmjdnocilbnoaaa

/- A segment more. -/
namespace Go.Proofs.Ytmjdnocilbnoaaa
open Go.RowKit Go.Maps
set_option linter.unusedVariables false
set_option linter.unusedSimpArgs false
set_option maxRecDepth 100000
def Tw (da dl df dx : Nat) (w V : World) (q : Nat) : Prop := V.heap[q]? = some (.cells #[.int .u64 (da : Int), .int .u32 (dl : Int), .int .u16 (df : Int), .int .u16 (dx : Int)] 151 (0, 0)) ∧ q < V.heap.size ∧ Below w.heap.size w V
def Tw2 (da dl df dx : Nat) (w V : World) (q p : Nat) (c : Array Value) : Prop := V.heap[q]? = some (.cells #[.int .u64 (da : Int), .int .u32 (dl : Int), .int .u16 (df : Int), .int .u16 (dx : Int)] 151 (0, 0)) ∧ V.heap[p]? = some (.cells c 64 (0, 0)) ∧ q ≠ p ∧ w.heap.size ≤ p ∧ Below w.heap.size w V
section
variable {da dl df dx q p : Nat} {w V V' : World} {c : Array Value}
theorem Tw.below (h : Tw da dl df dx w V q) (hb : Below V.heap.size V V') : Tw da dl df dx w V' q := ⟨below_box h.1 hb, Nat.lt_of_lt_of_le h.2.1 hb.size, below_to h.2.2 hb⟩
theorem Tw2.below (h : Tw2 da dl df dx w V q p c) (hb : Below V.heap.size V V') : Tw2 da dl df dx w V' q p c := ⟨below_box h.1 hb, below_box h.2.1 hb, h.2.2.1, h.2.2.2.1, below_to h.2.2.2.2 hb⟩
theorem Tw.alloc (h : Tw da dl df dx w V q) (c : Array Value) : Tw2 da dl df dx w (V.alloc (.cells c 64)) q V.heap.size c := by
  have hb : Below V.heap.size V (V.alloc (.cells c 64)) := (Below.refl _ _).alloc (Nat.le_refl _) _
  exact ⟨below_box h.1 hb, heap_alloc_new _ _, Nat.ne_of_lt h.2.1, h.2.2.size, below_to h.2.2 hb⟩
theorem Tw2.set (h : Tw2 da dl df dx w V q p c) (c' : Array Value) : Tw2 da dl df dx w (V.setRow p c') q p c' := ⟨(setRow_other _ _ _ _ h.2.2.1).trans h.1, setRow_heap _ _ _ _ _ _ h.2.1, h.2.2.1, h.2.2.2.1, below_setRow h.2.2.2.2 h.2.2.2.1 _⟩
end
set_option maxHeartbeats 2000000 in
theorem seg_any {rb wb : Nat} {M : Nat → Nat} {Inv : (Nat → Prop) → World → Prop} {O F : Nat → Prop} {w : World} {l : List Seg} (m : Wm rb M Inv) (h : Wd Inv O F w rb wb l) (da dl df dx : Nat) (hd : (De.mk da dl df dx).Ok) (hl : l.length ≤ 1000) :
    Calls Try.prog 99 #[.pointer (some ⟨wb, 0, none⟩), .agg #[.int .u64 (da : Int), .int .u32 (dl : Int), .int .u16 (df : Int), .int .u16 (dx : Int)]] w fun e w' => e = .returned (.int .i64 (addE l ⟨da, dl, df, dx⟩ : Int)) ∧ Wd Inv O F w' rb wb (if addE l ⟨da, dl, df, dx⟩ = 0 then l ++ [⟨da, dl, fl df 2⟩] else l) ∧ Fly O F w F w' := by
  obtain ⟨i0, hi, hz0, hz1, hz2⟩ := info_parts Try.info52s
  have hf : df ≤ 65535 := hd.f
  have hwr : IntKind.u64.wrap (dl : Int) = (dl : Int) := by have := hd.l; rw [wrap_u64]; simp at this; omega
  obtain ⟨sb, hsb⟩ : ∃ sb, fl df 2 = sb := ⟨_, rfl⟩
  have HH : Hid (∀ V, Below w.heap.size w V → Calls Try.prog 33 #[.pointer (some ⟨rb, 0, none⟩), .int .u64 (da : Int), .int .u64 (dl : Int)] V fun e w' => e = .returned (.bool (inB da dl 2147483648 8192)) ∧ w' = V) := by
    intro V hV
    obtain ⟨G, n, lg, hr⟩ := m.ram F V (m.below h.1 hV)
    exact has_any hr (by omega) da dl hd.a (by have := hd.l; simp at this; omega)
  have X0 : Hid (Tw da dl df dx w (w.alloc (.cells #[.int .u64 (da : Int), .int .u32 (dl : Int), .int .u16 (df : Int), .int .u16 (dx : Int)] 151)) w.heap.size) := ⟨heap_alloc_new _ _, by simp, (Below.refl _ _).alloc (Nat.le_refl _) _⟩
  have HW : Hid (Wd Inv O F w rb wb l) := h
  obtain ⟨a, c, hwb, hseg, hne⟩ := h.boxes
  have HA : Hid (w.heap[wb]? = some (.cells #[.pointer (some ⟨rb, 0, none⟩), .slice a l.length c] 149 (0, 0)) ∧ SegIn 0 w (.slice a l.length c) l ∧ ∀ g, (Value.slice a l.length c).ownBlock = some g → g ≠ wb ∧ ¬ F g ∧ ¬ O g) := ⟨hwb, hseg, hne⟩
  clear hwb hseg hne
  clear h hd
  go_enter Try.func99, Try.ntmps99
  go_upto_region 1 with fail
  generalize w.alloc (.cells #[.int .u64 (da : Int), .int .u32 (dl : Int), .int .u16 (df : Int), .int .u16 (dx : Int)] 151) = v0 at *
  go_cut [5] (fun x wx => ∃ p : Nat, x = .pointer (some ⟨p, 0, none⟩) ∧ Tw2 da dl df dx w wx w.heap.size p #[.int .u64 (da : Int), .int .u64 (dl : Int), .bool sb])
  case first =>
    have Xd : Hid (Tw da dl df dx w v0.drew w.heap.size) := X0.out.below (Below.refl _ _).drew
    refine wp_region_held_drew (S := fun V => V.cell? ⟨w.heap.size, 0, none⟩ = some (.int .u64 (da : Int)) ∧ V.cell? ⟨w.heap.size, 1, none⟩ = some (.int .u32 (dl : Int)) ∧ V.cell? ⟨w.heap.size, 2, none⟩ = some (.int .u16 (df : Int)) ∧ V.cell? ⟨w.heap.size, 3, none⟩ = some (.int .u16 (dx : Int))) (by kernel_rfl) ⟨cellOf Xd.out.1 0 _ rfl, cellOf Xd.out.1 1 _ rfl, cellOf Xd.out.1 2 _ rfl, cellOf Xd.out.1 3 _ rfl⟩ ?_
    intro hS
    generalize v0.drew = wd at *
    clear X0
    refine wpAnyH_take (i := 0) (v := ?_) rfl (by kernel_rfl) (by kernel_rfl) (by kernel_rfl) (fun _ _ _ h => h) (Or.inl ⟨by kernel_rfl, ?_⟩) hS ?_
    rotate_left
    · intro w hSw; (try dsimp only at hSw); go_simp; try (with_reducible rfl)
    (try simp only [Act.put, List.getElem_toArray, List.getElem_cons_succ, List.getElem_cons_zero, List.setIfInBounds_toArray, List.set_cons_zero, List.set_cons_succ])
    refine wpAnyH_take (i := 1) (v := ?_) rfl (by kernel_rfl) (by kernel_rfl) (by kernel_rfl) (fun _ _ _ h => h) (Or.inl ⟨by kernel_rfl, ?_⟩) hS ?_
    rotate_left
    · intro w hSw; (try dsimp only at hSw); go_simp; try (with_reducible rfl)
    (try simp only [Act.put, List.getElem_toArray, List.getElem_cons_succ, List.getElem_cons_zero, List.setIfInBounds_toArray, List.set_cons_zero, List.set_cons_succ])
    refine wpAnyH_take (i := 2) (v := ?_) rfl (by kernel_rfl) (by kernel_rfl) (by kernel_rfl) (fun _ _ _ h => h) (Or.inl ⟨by kernel_rfl, ?_⟩) hS ?_
    rotate_left
    · intro w hSw; (try dsimp only at hSw); go_simp; try (with_reducible rfl)
    (try simp only [Act.put, List.getElem_toArray, List.getElem_cons_succ, List.getElem_cons_zero, List.setIfInBounds_toArray, List.set_cons_zero, List.set_cons_succ])
    refine wpAnyH_take (i := 3) (v := ?_) rfl (by kernel_rfl) (by kernel_rfl) (by kernel_rfl) (fun _ _ _ h => h) (Or.inl ⟨by kernel_rfl, ?_⟩) hS ?_
    rotate_left
    · intro w hSw; (try dsimp only at hSw); go_simp; try (with_reducible rfl)
    (try simp only [Act.put, List.getElem_toArray, List.getElem_cons_succ, List.getElem_cons_zero, List.setIfInBounds_toArray, List.set_cons_zero, List.set_cons_succ])
    refine wpAnyH_take (i := 4) (v := ?_) rfl (by kernel_rfl) (by kernel_rfl) (by kernel_rfl) (fun _ _ _ h => h) (Or.inl ⟨by kernel_rfl, ?_⟩) hS ?_
    rotate_left
    · intro w hSw; (try dsimp only at hSw); go_simp; try (with_reducible rfl)
    (try simp only [Act.put, List.getElem_toArray, List.getElem_cons_succ, List.getElem_cons_zero, List.setIfInBounds_toArray, List.set_cons_zero, List.set_cons_succ])
    refine wpAnyH_take (i := 5) (v := ?_) rfl (by kernel_rfl) (by kernel_rfl) (by kernel_rfl) (fun _ _ _ h => h) (Or.inl ⟨by kernel_rfl, ?_⟩) hS ?_
    rotate_left
    · intro w hSw; (try dsimp only at hSw); go_simp; try (with_reducible rfl)
    (try simp only [Act.put, List.getElem_toArray, List.getElem_cons_succ, List.getElem_cons_zero, List.setIfInBounds_toArray, List.set_cons_zero, List.set_cons_succ])
    refine wpAnyH_ready (rs := [6, 8]) (by kernel_rfl) (by simp) ?_
    refine AllReadyH.cons rfl (fun K1 hK1 => ?_) (AllReadyH.cons rfl (fun K1 hK1 => ?_) AllReadyH.nil)
    · have _hm : True := trivial
      go_simp
      refine (hasf2 da dl df dx hf _).mono ?_
      rintro e w2 ⟨rfl, hb⟩
      rw [hsb]
      have X2 : Hid (Tw da dl df dx w w2 w.heap.size) := Xd.out.below hb
      clear hb Xd
      refine hK1.out _ _ ⟨cellOf X2.out.1 0 _ rfl, cellOf X2.out.1 1 _ rfl, cellOf X2.out.1 2 _ rfl, cellOf X2.out.1 3 _ rfl⟩ (fun h2 => ?_)
      clear hK1 K1 hS
      (try simp only [Act.put, List.getElem_toArray, List.getElem_cons_succ, List.getElem_cons_zero, List.setIfInBounds_toArray, List.set_cons_zero, List.set_cons_succ])
      refine wpAnyH_take (i := 7) (v := ?_) rfl (by kernel_rfl) (by kernel_rfl) (by kernel_rfl) (fun _ _ _ h => h) (Or.inl ⟨by kernel_rfl, ?_⟩) h2 ?_
      rotate_left
      · intro w hSw; (try dsimp only at hSw); go_simp; try (with_reducible rfl)
      (try simp only [Act.put, List.getElem_toArray, List.getElem_cons_succ, List.getElem_cons_zero, List.setIfInBounds_toArray, List.set_cons_zero, List.set_cons_succ])
      refine wpAnyH_ready (rs := [8]) (by kernel_rfl) (by simp) ?_
      refine AllReadyH.cons rfl (fun K1 hK1 => ?_) AllReadyH.nil
      go_simp
      have X3 : Hid (Tw2 da dl df dx w (w2.alloc (.cells #[.int .u64 0, .int .u64 0, .bool false] 64)) w.heap.size w2.heap.size #[.int .u64 0, .int .u64 0, .bool false]) := X2.out.alloc _
      clear X2
      generalize w2.alloc (.cells #[.int .u64 0, .int .u64 0, .bool false] 64) = w3 at *
      generalize w2.heap.size = p at *
      refine hK1.out _ _ ⟨cellOf X3.out.1 0 _ rfl, cellOf X3.out.1 1 _ rfl, cellOf X3.out.1 2 _ rfl, cellOf X3.out.1 3 _ rfl⟩ (fun h3 => ?_)
      clear hK1 K1 h2
      (try simp only [Act.put, List.getElem_toArray, List.getElem_cons_succ, List.getElem_cons_zero, List.setIfInBounds_toArray, List.set_cons_zero, List.set_cons_succ])
      refine wpAnyH_ready (rs := [9]) (by kernel_rfl) (by simp) ?_
      refine AllReadyH.cons rfl (fun K1 hK1 => ?_) AllReadyH.nil
      rw [if_pos (by kernel_rfl)]
      refine wp_store_row 64 _ _ rfl p #[.int .u64 (da : Int), .int .u64 (dl : Int), .bool sb] rfl rfl 64 #[.int .u64 0, .int .u64 0, .bool false] X3.out.2.1 info52 rfl (by simp [Value.oneCell']) ?_
      have Y : Hid (Tw2 da dl df dx w (w3.setRow p #[.int .u64 (da : Int), .int .u64 (dl : Int), .bool sb]) w.heap.size p #[.int .u64 (da : Int), .int .u64 (dl : Int), .bool sb]) := X3.out.set _
      clear X3
      generalize w3.setRow p #[.int .u64 (da : Int), .int .u64 (dl : Int), .bool sb] = w9 at *
      refine hK1.out _ _ ⟨cellOf Y.out.1 0 _ rfl, cellOf Y.out.1 1 _ rfl, cellOf Y.out.1 2 _ rfl, cellOf Y.out.1 3 _ rfl⟩ (fun h9 => ?_)
      clear hK1 K1 h3
      (try simp only [Act.put, List.getElem_toArray, List.getElem_cons_succ, List.getElem_cons_zero, List.setIfInBounds_toArray, List.set_cons_zero, List.set_cons_succ])
      refine wpAnyH_done (by kernel_rfl) ?_ _
      go_wp2_with fail
      go_meet
      exact ⟨p, rfl, Y.out⟩

    · have _hm : True := trivial
      go_simp
      have X2 : Hid (Tw2 da dl df dx w (wd.alloc (.cells #[.int .u64 0, .int .u64 0, .bool false] 64)) w.heap.size wd.heap.size #[.int .u64 0, .int .u64 0, .bool false]) := Xd.out.alloc _
      clear Xd
      generalize wd.alloc (.cells #[.int .u64 0, .int .u64 0, .bool false] 64) = w2 at *
      generalize wd.heap.size = p at *
      refine hK1.out _ _ ⟨cellOf X2.out.1 0 _ rfl, cellOf X2.out.1 1 _ rfl, cellOf X2.out.1 2 _ rfl, cellOf X2.out.1 3 _ rfl⟩ (fun h2 => ?_)
      clear hK1 K1 hS
      (try simp only [Act.put, List.getElem_toArray, List.getElem_cons_succ, List.getElem_cons_zero, List.setIfInBounds_toArray, List.set_cons_zero, List.set_cons_succ])
      refine wpAnyH_ready (rs := [6]) (by kernel_rfl) (by simp) ?_
      refine AllReadyH.cons rfl (fun K1 hK1 => ?_) AllReadyH.nil
      go_simp
      refine (hasf2 da dl df dx hf _).mono ?_
      rintro e w3 ⟨rfl, hb⟩
      rw [hsb]
      have X3 : Hid (Tw2 da dl df dx w w3 w.heap.size p #[.int .u64 0, .int .u64 0, .bool false]) := X2.out.below hb
      clear hb X2
      refine hK1.out _ _ ⟨cellOf X3.out.1 0 _ rfl, cellOf X3.out.1 1 _ rfl, cellOf X3.out.1 2 _ rfl, cellOf X3.out.1 3 _ rfl⟩ (fun h3 => ?_)
      clear hK1 K1 h2
      (try simp only [Act.put, List.getElem_toArray, List.getElem_cons_succ, List.getElem_cons_zero, List.setIfInBounds_toArray, List.set_cons_zero, List.set_cons_succ])
      refine wpAnyH_take (i := 7) (v := ?_) rfl (by kernel_rfl) (by kernel_rfl) (by kernel_rfl) (fun _ _ _ h => h) (Or.inl ⟨by kernel_rfl, ?_⟩) h3 ?_
      rotate_left
      · intro w hSw; (try dsimp only at hSw); go_simp; try (with_reducible rfl)
      (try simp only [Act.put, List.getElem_toArray, List.getElem_cons_succ, List.getElem_cons_zero, List.setIfInBounds_toArray, List.set_cons_zero, List.set_cons_succ])
      refine wpAnyH_ready (rs := [9]) (by kernel_rfl) (by simp) ?_
      refine AllReadyH.cons rfl (fun K1 hK1 => ?_) AllReadyH.nil
      rw [if_pos (by kernel_rfl)]
      refine wp_store_row 64 _ _ rfl p #[.int .u64 (da : Int), .int .u64 (dl : Int), .bool sb] rfl rfl 64 #[.int .u64 0, .int .u64 0, .bool false] X3.out.2.1 info52 rfl (by simp [Value.oneCell']) ?_
      have Y : Hid (Tw2 da dl df dx w (w3.setRow p #[.int .u64 (da : Int), .int .u64 (dl : Int), .bool sb]) w.heap.size p #[.int .u64 (da : Int), .int .u64 (dl : Int), .bool sb]) := X3.out.set _
      clear X3
      generalize w3.setRow p #[.int .u64 (da : Int), .int .u64 (dl : Int), .bool sb] = w9 at *
      refine hK1.out _ _ ⟨cellOf Y.out.1 0 _ rfl, cellOf Y.out.1 1 _ rfl, cellOf Y.out.1 2 _ rfl, cellOf Y.out.1 3 _ rfl⟩ (fun h9 => ?_)
      clear hK1 K1 h3
      (try simp only [Act.put, List.getElem_toArray, List.getElem_cons_succ, List.getElem_cons_zero, List.setIfInBounds_toArray, List.set_cons_zero, List.set_cons_succ])
      refine wpAnyH_done (by kernel_rfl) ?_ _
      go_wp2_with fail
      go_meet
      exact ⟨p, rfl, Y.out⟩

  case rest =>
  obtain ⟨p, rfl, ht⟩ := hcut
  have X1 : Hid (Tw2 da dl df dx w wc w.heap.size p #[.int .u64 (da : Int), .int .u64 (dl : Int), .bool sb]) := ht
  clear ht
  go_upto_region 2 with fail
  have Xd : Hid (Tw2 da dl df dx w wc.drew w.heap.size p #[.int .u64 (da : Int), .int .u64 (dl : Int), .bool sb]) := X1.out.below (Below.refl _ _).drew
  have W1 : Hid (Wd Inv O F wc.drew rb wb l) := HW.out.below m Xd.out.2.2.2.2
  have HB : Hid (wc.drew.heap[wb]? = some (.cells #[.pointer (some ⟨rb, 0, none⟩), .slice a l.length c] 149 (0, 0)) ∧ SegIn 0 wc.drew (.slice a l.length c) l) := ⟨below_box HA.out.1 Xd.out.2.2.2.2, HA.out.2.1.kept (fun g hg => Xd.out.2.2.2.2.block g (HA.out.2.1.lt g hg).2)⟩
  have HP : Hid (∀ g, (Value.slice a l.length c).ownBlock = some g → g ≠ wb ∧ g ≠ p) := fun g hg => ⟨(HA.out.2.2 g hg).1, fun e => by have := (HA.out.2.1.lt g hg).2; have := Xd.out.2.2.2.1; omega⟩
  clear X0 X1 HA
  obtain ⟨n, hn⟩ : ∃ n, l.length = n := ⟨_, rfl⟩
  rw [hn] at HB HP
  have HPW : Hid (p ≠ wb) := fun e => by have := HW.out.lt; have := Xd.out.2.2.2.1; omega
  have hS5 : (fun Z : World => Z.cell? ⟨wb, 0, none⟩ = some (.pointer (some ⟨rb, 0, none⟩)) ∧ Z.cell? ⟨wb, 1, none⟩ = some (.slice a n c) ∧ Z.cell? ⟨p, 0, none⟩ = some (.int .u64 (da : Int)) ∧ Z.cell? ⟨p, 1, none⟩ = some (.int .u64 (dl : Int)) ∧ Z.cell? ⟨p, 2, none⟩ = some (.bool sb)) wc.drew := ⟨cellOf HB.out.1 0 _ rfl, cellOf HB.out.1 1 _ rfl, cellOf Xd.out.2.1 0 _ rfl, cellOf Xd.out.2.1 1 _ rfl, cellOf Xd.out.2.1 2 _ rfl⟩
  obtain ⟨ib, hin⟩ : ∃ ib, inB da dl 2147483648 8192 = ib := ⟨_, rfl⟩
  have HI : Hid (inB da dl 2147483648 8192 = ib) := hin
  have HN : Hid (l.length = n ∧ l.length ≤ 1000) := ⟨hn, hl⟩
  have hn2 : n ≤ 1000 := by omega
  clear hin hn hl
  go_region_held3 (fun Z => Z.cell? ⟨wb, 0, none⟩ = some (.pointer (some ⟨rb, 0, none⟩)) ∧ Z.cell? ⟨wb, 1, none⟩ = some (.slice a n c) ∧ Z.cell? ⟨p, 0, none⟩ = some (.int .u64 (da : Int)) ∧ Z.cell? ⟨p, 1, none⟩ = some (.int .u64 (dl : Int)) ∧ Z.cell? ⟨p, 2, none⟩ = some (.bool sb)) (go_keep) (first | (go_at_call 33; refine (HH.out _ Xd.out.2.2.2.2).mono ?_; rintro e w2 ⟨rfl, hw⟩; rw [hw]; clear hw w2; rw [HI.out]))
  generalize wc.drew = V at *
  cases ib with
  | false =>
    have he : addE l ⟨da, dl, df, dx⟩ = 21 := by simp [addE, HI.out]
    go_wp2_with fail
    go_ret
    exact ⟨rfl, W1.out, Fly.of_below Xd.out.2.2.2.2 HW.out.old⟩
  | true =>
    obtain ⟨lb, hlb⟩ : ∃ lb, (lastW l && !sb) = lb := ⟨_, rfl⟩
    have HL : Hid ((lastW l && !sb) = lb) := hlb
    clear hlb
    go_upto_region 5 with fail
    go_cut [47] (fun x wx => x = .bool lb ∧ wx = V)
    case first =>
      by_cases h0 : n = 0
      · have e1 : decide ((0 : Int) < n) = false := by simp [h0]
        have e2 : decide (0 < n) = false := by simp [h0]
        have e3 : ¬ (0 : Int) < n := by omega
        have el : lb = false := by
          have : l = [] := List.length_eq_zero_iff.1 (HN.out.1.trans h0)
          rw [← HL.out, this]; rfl
        subst el
        clear h0
        go_wp2_with fail
        go_meet
        exact ⟨rfl, rfl⟩
      · obtain ⟨k, hk⟩ : ∃ k, n = k + 1 := ⟨n - 1, by omega⟩
        have hkl : k < l.length := by have := HN.out.1; omega
        have hb2 := HB.out.2
        rw [← HN.out.1] at hb2
        obtain ⟨g, c', hsl, hcl⟩ := hb2.cells (by omega)
        simp only [Value.slice.injEq, true_and] at hsl
        obtain ⟨rfl, rfl⟩ := hsl
        have hlast := (hcl k hkl).2.2
        rw [← lastW_get hkl (by have := HN.out.1; omega)] at hlast
        have e1 : (0 : Int) < n := by omega
        have e4 : (n : Int) - 1 = (k : Int) := by omega
        have e5 : wrap64 (k : Int) = (k : Int) := by unfold wrap64; omega
        have e6 : (k : Int) < n := by omega
        have hL2 := HL.out
        obtain ⟨lw, hlw⟩ : ∃ lw, lastW l = lw := ⟨_, rfl⟩
        rw [hlw] at hlast hL2
        clear hk h0 hcl hb2 hkl hlw
        cases lw with
        | false =>
          have el : lb = false := by simpa using hL2.symm
          subst el
          clear hL2
          go_wp2_with fail
          go_meet
          exact ⟨rfl, rfl⟩
        | true =>
          cases sb with
          | false =>
            have el : lb = true := by simpa using hL2.symm
            subst el
            clear hL2
            go_wp2_with fail
            go_meet
            exact ⟨rfl, rfl⟩
          | true =>
            have el : lb = false := by simpa using hL2.symm
            subst el
            clear hL2
            go_wp2_with fail
            go_meet
            exact ⟨rfl, rfl⟩
    case rest =>
    obtain ⟨rfl, hw⟩ := hcut
    rw [hw]
    clear hw
    cases lb with
    | true =>
      have he : addE l ⟨da, dl, df, dx⟩ = 155 := by
        have := HL.out
        simp only [addE, HI.out, if_true, hsb, this]
      go_wp2_with fail
      go_ret
      exact ⟨rfl, W1.out, Fly.of_below Xd.out.2.2.2.2 HW.out.old⟩
    | false =>
      have he : addE l ⟨da, dl, df, dx⟩ = 0 := by
        have := HL.out
        simp [addE, HI.out, hsb, this]
      go_upto_region 7 with fail
      have Xe : Hid (Tw2 da dl df dx w V.drew w.heap.size p #[.int .u64 (da : Int), .int .u64 (dl : Int), .bool sb]) := Xd.out.below (Below.refl _ _).drew
      have W2 : Hid (Wd Inv O F V.drew rb wb l) := W1.out.below m (Below.refl _ _).drew
      have HB2 : Hid (V.drew.heap[wb]? = some (.cells #[.pointer (some ⟨rb, 0, none⟩), .slice a n c] 149 (0, 0)) ∧ SegIn 0 V.drew (.slice a n c) l) := HB.out
      clear HB hS5
      refine wp_region_held_drew (S := fun Z => Z.cell? ⟨wb, 0, none⟩ = some (.pointer (some ⟨rb, 0, none⟩)) ∧ Z.cell? ⟨p, 0, none⟩ = some (.int .u64 (da : Int)) ∧ Z.cell? ⟨p, 1, none⟩ = some (.int .u64 (dl : Int)) ∧ Z.cell? ⟨p, 2, none⟩ = some (.bool sb)) (by kernel_rfl) ⟨cellOf HB2.out.1 0 _ rfl, cellOf Xe.out.2.1 0 _ rfl, cellOf Xe.out.2.1 1 _ rfl, cellOf Xe.out.2.1 2 _ rfl⟩ ?_
      intro hS
      clear Xd W1
      generalize V.drew = V2 at *
      refine wpAnyH_take (i := 0) (v := ?_) rfl (by kernel_rfl) (by kernel_rfl) (by kernel_rfl) (fun _ _ _ h => h) (Or.inl ⟨by kernel_rfl, ?_⟩) hS ?_
      rotate_left
      · intro w hSw; (try dsimp only at hSw); go_simp; try (with_reducible rfl)
      (try simp only [Act.put, List.getElem_toArray, List.getElem_cons_succ, List.getElem_cons_zero, List.setIfInBounds_toArray, List.set_cons_zero, List.set_cons_succ])
      refine wpAnyH_take (i := 1) (v := ?_) rfl (by kernel_rfl) (by kernel_rfl) (by kernel_rfl) (fun _ _ _ h => h) (Or.inl ⟨by kernel_rfl, ?_⟩) hS ?_
      rotate_left
      · intro w hSw; (try dsimp only at hSw); go_simp; try (with_reducible rfl)
      (try simp only [Act.put, List.getElem_toArray, List.getElem_cons_succ, List.getElem_cons_zero, List.setIfInBounds_toArray, List.set_cons_zero, List.set_cons_succ])
      refine wpAnyH_take (i := 2) (v := ?_) rfl (by kernel_rfl) (by kernel_rfl) (by kernel_rfl) (fun _ _ _ h => h) (Or.inl ⟨by kernel_rfl, ?_⟩) hS ?_
      rotate_left
      · intro w hSw; (try dsimp only at hSw); go_simp; try (with_reducible rfl)
      (try simp only [Act.put, List.getElem_toArray, List.getElem_cons_succ, List.getElem_cons_zero, List.setIfInBounds_toArray, List.set_cons_zero, List.set_cons_succ])
      refine wpAnyH_take (i := 3) (v := ?_) rfl (by kernel_rfl) (by kernel_rfl) (by kernel_rfl) (fun _ _ _ h => h) (Or.inl ⟨by kernel_rfl, ?_⟩) hS ?_
      rotate_left
      · intro w hSw; (try dsimp only at hSw); go_simp; try (with_reducible rfl)
      (try simp only [Act.put, List.getElem_toArray, List.getElem_cons_succ, List.getElem_cons_zero, List.setIfInBounds_toArray, List.set_cons_zero, List.set_cons_succ])
      refine wpAnyH_take (i := 5) (v := ?_) rfl (by kernel_rfl) (by kernel_rfl) (by kernel_rfl) (fun _ _ _ h => h) (Or.inl ⟨by kernel_rfl, ?_⟩) hS ?_
      rotate_left
      · intro w hSw; (try dsimp only at hSw); go_simp; try (with_reducible rfl)
      (try simp only [Act.put, List.getElem_toArray, List.getElem_cons_succ, List.getElem_cons_zero, List.setIfInBounds_toArray, List.set_cons_zero, List.set_cons_succ])
      refine wpAnyH_ready (rs := [4, 6]) (by kernel_rfl) (by simp) ?_
      refine AllReadyH.cons rfl (fun K1 hK1 => ?_) (AllReadyH.cons rfl (fun K1 hK1 => ?_) AllReadyH.nil)
      · have m1 := cellOf HB2.out.1 1 _ rfl
        go_simp
        refine hK1.out _ _ ⟨cellOf HB2.out.1 0 _ rfl, cellOf Xe.out.2.1 0 _ rfl, cellOf Xe.out.2.1 1 _ rfl, cellOf Xe.out.2.1 2 _ rfl⟩ (fun h2 => ?_)
        clear hK1 K1 hS m1
        (try simp only [Act.put, List.getElem_toArray, List.getElem_cons_succ, List.getElem_cons_zero, List.setIfInBounds_toArray, List.set_cons_zero, List.set_cons_succ])
        refine wpAnyH_ready (rs := [6]) (by kernel_rfl) (by simp) ?_
        refine AllReadyH.cons rfl (fun K1 hK1 => ?_) AllReadyH.nil
        go_simp
        have hb3 : Below V2.heap.size V2 (V2.alloc (.cells #[.int .u64 (da : Int), .int .u64 (dl : Int), .bool sb] 64)) := (Below.refl _ _).alloc (Nat.le_refl _) _
        have W3 : Hid (Wd Inv O F (V2.alloc (.cells #[.int .u64 (da : Int), .int .u64 (dl : Int), .bool sb] 64)) rb wb l) := W2.out.below m hb3
        have Xf : Hid (Tw2 da dl df dx w (V2.alloc (.cells #[.int .u64 (da : Int), .int .u64 (dl : Int), .bool sb] 64)) w.heap.size p #[.int .u64 (da : Int), .int .u64 (dl : Int), .bool sb]) := Xe.out.below hb3
        have HB3 : Hid ((V2.alloc (.cells #[.int .u64 (da : Int), .int .u64 (dl : Int), .bool sb] 64)).heap[wb]? = some (.cells #[.pointer (some ⟨rb, 0, none⟩), .slice a n c] 149 (0, 0)) ∧ SegIn 0 (V2.alloc (.cells #[.int .u64 (da : Int), .int .u64 (dl : Int), .bool sb] 64)) (.slice a n c) l) := ⟨below_box HB2.out.1 hb3, HB2.out.2.kept (fun g hg => hb3.block g (HB2.out.2.lt g hg).2)⟩
        have N3 := three_new V2 (.int .u64 (da : Int)) (.int .u64 (dl : Int)) (.bool sb) 64
        have HN3 : Hid (∀ j u, [Value.int .u64 (da : Int), .int .u64 (dl : Int), .bool sb][j]? = some u → (V2.alloc (.cells #[.int .u64 (da : Int), .int .u64 (dl : Int), .bool sb] 64)).cell? ((⟨V2.heap.size, 0, none⟩ : Addr).add j) = some u) := N3
        clear hb3 N3 W2 Xe HB2
        generalize V2.alloc (.cells #[.int .u64 (da : Int), .int .u64 (dl : Int), .bool sb] 64) = V3 at *
        generalize V2.heap.size = gb at *
        refine hK1.out _ _ ⟨cellOf HB3.out.1 0 _ rfl, cellOf Xf.out.2.1 0 _ rfl, cellOf Xf.out.2.1 1 _ rfl, cellOf Xf.out.2.1 2 _ rfl⟩ (fun h3 => ?_)
        clear hK1 K1 h2
        (try simp only [Act.put, List.getElem_toArray, List.getElem_cons_succ, List.getElem_cons_zero, List.setIfInBounds_toArray, List.set_cons_zero, List.set_cons_succ])
        refine wpAnyH_ready (rs := [7]) (by kernel_rfl) (by simp) ?_
        refine AllReadyH.cons rfl (fun K1 hK1 => ?_) AllReadyH.nil
        rw [if_pos (by kernel_rfl)]
        refine wp_append_lies V3 _ _ 46 rfl 0 64 i0 (.agg #[.int .u64 0, .int .u64 0, .bool false]) 3 24 Try.underlying46 hi hz0 hz1 hz2 rfl (by decide) (.slice a n c) n (segRow l) rfl (by have := HB3.out.2; unfold SegIn at this; rw [HN.out.1] at this; exact this) ⟨gb, 0, none⟩ 1 1 [.int .u64 (da : Int), .int .u64 (dl : Int), .bool sb] rfl rfl HN3.out (by intro u hu; simp at hu; rcases hu with rfl | rfl | rfl <;> rfl) (by omega) (by unfold maxLen; omega) (by omega) (Nat.zero_le _) V3.heap.size rfl ?_
        intro g cap w1 hown hgrow hat hlt
        have D1 : Hid (w1.heap[wb]? = some (.cells #[.pointer (some ⟨rb, 0, none⟩), .slice a n c] 149 (0, 0)) ∧ w1.heap[p]? = some (.cells #[.int .u64 (da : Int), .int .u64 (dl : Int), .bool sb] 64 (0, 0))) := ⟨(hgrow.block wb W3.out.lt (fun e => (HP.out wb e.symm).1 rfl)).trans HB3.out.1, (hgrow.block p (Array.getElem?_eq_some_iff.1 Xf.out.2.1).1 (fun e => (HP.out p e.symm).2 rfl)).trans Xf.out.2.1⟩
        have HM : Hid (Wd Inv O F (w1.setCell ⟨wb, 1, none⟩ (.slice (some ⟨g, 0, none⟩) (n + 1) cap)) rb wb (l ++ [⟨da, dl, sb⟩]) ∧ Fly O F V3 F (w1.setCell ⟨wb, 1, none⟩ (.slice (some ⟨g, 0, none⟩) (n + 1) cap))) := by
          obtain ⟨hn, _⟩ := HN.out
          subst hn
          exact W3.out.more m HB3.out.1 (s := ⟨da, dl, sb⟩) hown hgrow (hat.imp id (fun e => by omega))
        clear hown hgrow hat hlt
        refine hK1.out _ _ ⟨cellOf D1.out.1 0 _ rfl, cellOf D1.out.2 0 _ rfl, cellOf D1.out.2 1 _ rfl, cellOf D1.out.2 2 _ rfl⟩ (fun h4 => ?_)
        clear hK1 K1 h3
        (try simp only [Act.put, List.getElem_toArray, List.getElem_cons_succ, List.getElem_cons_zero, List.setIfInBounds_toArray, List.set_cons_zero, List.set_cons_succ])
        refine wpAnyH_take (i := 8) (v := ?_) rfl (by kernel_rfl) (by kernel_rfl) (by kernel_rfl) (fun _ _ _ h => h) (Or.inl ⟨by kernel_rfl, ?_⟩) h4 ?_
        rotate_left
        · intro w hSw; (try dsimp only at hSw); go_simp; try (with_reducible rfl)
        (try simp only [Act.put, List.getElem_toArray, List.getElem_cons_succ, List.getElem_cons_zero, List.setIfInBounds_toArray, List.set_cons_zero, List.set_cons_succ])
        refine wpAnyH_take (i := 9) (v := ?_) rfl (by kernel_rfl) (by kernel_rfl) (by kernel_rfl) (fun _ _ _ h => h) (Or.inl ⟨by kernel_rfl, ?_⟩) h4 ?_
        rotate_left
        · intro w hSw; (try dsimp only at hSw); go_simp; try (with_reducible rfl)
        (try simp only [Act.put, List.getElem_toArray, List.getElem_cons_succ, List.getElem_cons_zero, List.setIfInBounds_toArray, List.set_cons_zero, List.set_cons_succ])
        refine wpAnyH_ready (rs := [10]) (by kernel_rfl) (by simp) ?_
        refine AllReadyH.cons rfl (fun K1 hK1 => ?_) AllReadyH.nil
        have m1 := cellOf D1.out.1 1 _ rfl
        have m2 := frozenOf D1.out.1 1
        go_simp
        have HF : Hid (Fly O F w F (w1.setCell ⟨wb, 1, none⟩ (.slice (some ⟨g, 0, none⟩) (n + 1) cap))) := (Fly.of_below Xf.out.2.2.2.2 HW.out.old).trans HM.out.2
        have HM2 : Hid (Wd Inv O F (w1.setCell ⟨wb, 1, none⟩ (.slice (some ⟨g, 0, none⟩) (n + 1) cap)) rb wb (l ++ [⟨da, dl, sb⟩]) ∧ (w1.setCell ⟨wb, 1, none⟩ (.slice (some ⟨g, 0, none⟩) (n + 1) cap)).heap[wb]? = some (.cells #[.pointer (some ⟨rb, 0, none⟩), .slice (some ⟨g, 0, none⟩) (n + 1) cap] 149 (0, 0)) ∧ (w1.setCell ⟨wb, 1, none⟩ (.slice (some ⟨g, 0, none⟩) (n + 1) cap)).heap[p]? = some (.cells #[.int .u64 (da : Int), .int .u64 (dl : Int), .bool sb] 64 (0, 0))) := ⟨HM.out.1, setw_box D1.out.1, (heap_setCell _ _ _ _ _ HPW.out).trans D1.out.2⟩
        clear HM m1 m2
        generalize w1.setCell ⟨wb, 1, none⟩ (.slice (some ⟨g, 0, none⟩) (n + 1) cap) = w4 at *
        refine hK1.out _ _ ⟨cellOf HM2.out.2.1 0 _ rfl, cellOf HM2.out.2.2 0 _ rfl, cellOf HM2.out.2.2 1 _ rfl, cellOf HM2.out.2.2 2 _ rfl⟩ (fun h5 => ?_)
        clear hK1 K1 h4
        (try simp only [Act.put, List.getElem_toArray, List.getElem_cons_succ, List.getElem_cons_zero, List.setIfInBounds_toArray, List.set_cons_zero, List.set_cons_succ])
        refine wpAnyH_done (by kernel_rfl) ?_ _
        clear h5
        go_wp2_with fail
        go_ret
        exact ⟨rfl, HM2.out.1, HF.out⟩
      · have _hm : True := trivial
        go_simp
        have hb3 : Below V2.heap.size V2 (V2.alloc (.cells #[.int .u64 (da : Int), .int .u64 (dl : Int), .bool sb] 64)) := (Below.refl _ _).alloc (Nat.le_refl _) _
        have W3 : Hid (Wd Inv O F (V2.alloc (.cells #[.int .u64 (da : Int), .int .u64 (dl : Int), .bool sb] 64)) rb wb l) := W2.out.below m hb3
        have Xf : Hid (Tw2 da dl df dx w (V2.alloc (.cells #[.int .u64 (da : Int), .int .u64 (dl : Int), .bool sb] 64)) w.heap.size p #[.int .u64 (da : Int), .int .u64 (dl : Int), .bool sb]) := Xe.out.below hb3
        have HB3 : Hid ((V2.alloc (.cells #[.int .u64 (da : Int), .int .u64 (dl : Int), .bool sb] 64)).heap[wb]? = some (.cells #[.pointer (some ⟨rb, 0, none⟩), .slice a n c] 149 (0, 0)) ∧ SegIn 0 (V2.alloc (.cells #[.int .u64 (da : Int), .int .u64 (dl : Int), .bool sb] 64)) (.slice a n c) l) := ⟨below_box HB2.out.1 hb3, HB2.out.2.kept (fun g hg => hb3.block g (HB2.out.2.lt g hg).2)⟩
        have N3 := three_new V2 (.int .u64 (da : Int)) (.int .u64 (dl : Int)) (.bool sb) 64
        have HN3 : Hid (∀ j u, [Value.int .u64 (da : Int), .int .u64 (dl : Int), .bool sb][j]? = some u → (V2.alloc (.cells #[.int .u64 (da : Int), .int .u64 (dl : Int), .bool sb] 64)).cell? ((⟨V2.heap.size, 0, none⟩ : Addr).add j) = some u) := N3
        clear hb3 N3 W2 Xe HB2
        generalize V2.alloc (.cells #[.int .u64 (da : Int), .int .u64 (dl : Int), .bool sb] 64) = V3 at *
        generalize V2.heap.size = gb at *
        refine hK1.out _ _ ⟨cellOf HB3.out.1 0 _ rfl, cellOf Xf.out.2.1 0 _ rfl, cellOf Xf.out.2.1 1 _ rfl, cellOf Xf.out.2.1 2 _ rfl⟩ (fun h3 => ?_)
        clear hK1 K1 hS
        (try simp only [Act.put, List.getElem_toArray, List.getElem_cons_succ, List.getElem_cons_zero, List.setIfInBounds_toArray, List.set_cons_zero, List.set_cons_succ])
        refine wpAnyH_ready (rs := [4]) (by kernel_rfl) (by simp) ?_
        refine AllReadyH.cons rfl (fun K1 hK1 => ?_) AllReadyH.nil
        have m1 := cellOf HB3.out.1 1 _ rfl
        go_simp
        refine hK1.out _ _ ⟨cellOf HB3.out.1 0 _ rfl, cellOf Xf.out.2.1 0 _ rfl, cellOf Xf.out.2.1 1 _ rfl, cellOf Xf.out.2.1 2 _ rfl⟩ (fun h33 => ?_)
        clear hK1 K1 h3 m1
        (try simp only [Act.put, List.getElem_toArray, List.getElem_cons_succ, List.getElem_cons_zero, List.setIfInBounds_toArray, List.set_cons_zero, List.set_cons_succ])
        have h3 := h33
        clear h33
        refine wpAnyH_ready (rs := [7]) (by kernel_rfl) (by simp) ?_
        refine AllReadyH.cons rfl (fun K1 hK1 => ?_) AllReadyH.nil
        rw [if_pos (by kernel_rfl)]
        refine wp_append_lies V3 _ _ 46 rfl 0 64 i0 (.agg #[.int .u64 0, .int .u64 0, .bool false]) 3 24 Try.underlying46 hi hz0 hz1 hz2 rfl (by decide) (.slice a n c) n (segRow l) rfl (by have := HB3.out.2; unfold SegIn at this; rw [HN.out.1] at this; exact this) ⟨gb, 0, none⟩ 1 1 [.int .u64 (da : Int), .int .u64 (dl : Int), .bool sb] rfl rfl HN3.out (by intro u hu; simp at hu; rcases hu with rfl | rfl | rfl <;> rfl) (by omega) (by unfold maxLen; omega) (by omega) (Nat.zero_le _) V3.heap.size rfl ?_
        intro g cap w1 hown hgrow hat hlt
        have D1 : Hid (w1.heap[wb]? = some (.cells #[.pointer (some ⟨rb, 0, none⟩), .slice a n c] 149 (0, 0)) ∧ w1.heap[p]? = some (.cells #[.int .u64 (da : Int), .int .u64 (dl : Int), .bool sb] 64 (0, 0))) := ⟨(hgrow.block wb W3.out.lt (fun e => (HP.out wb e.symm).1 rfl)).trans HB3.out.1, (hgrow.block p (Array.getElem?_eq_some_iff.1 Xf.out.2.1).1 (fun e => (HP.out p e.symm).2 rfl)).trans Xf.out.2.1⟩
        have HM : Hid (Wd Inv O F (w1.setCell ⟨wb, 1, none⟩ (.slice (some ⟨g, 0, none⟩) (n + 1) cap)) rb wb (l ++ [⟨da, dl, sb⟩]) ∧ Fly O F V3 F (w1.setCell ⟨wb, 1, none⟩ (.slice (some ⟨g, 0, none⟩) (n + 1) cap))) := by
          obtain ⟨hn, _⟩ := HN.out
          subst hn
          exact W3.out.more m HB3.out.1 (s := ⟨da, dl, sb⟩) hown hgrow (hat.imp id (fun e => by omega))
        clear hown hgrow hat hlt
        refine hK1.out _ _ ⟨cellOf D1.out.1 0 _ rfl, cellOf D1.out.2 0 _ rfl, cellOf D1.out.2 1 _ rfl, cellOf D1.out.2 2 _ rfl⟩ (fun h4 => ?_)
        clear hK1 K1 h3
        (try simp only [Act.put, List.getElem_toArray, List.getElem_cons_succ, List.getElem_cons_zero, List.setIfInBounds_toArray, List.set_cons_zero, List.set_cons_succ])
        refine wpAnyH_take (i := 8) (v := ?_) rfl (by kernel_rfl) (by kernel_rfl) (by kernel_rfl) (fun _ _ _ h => h) (Or.inl ⟨by kernel_rfl, ?_⟩) h4 ?_
        rotate_left
        · intro w hSw; (try dsimp only at hSw); go_simp; try (with_reducible rfl)
        (try simp only [Act.put, List.getElem_toArray, List.getElem_cons_succ, List.getElem_cons_zero, List.setIfInBounds_toArray, List.set_cons_zero, List.set_cons_succ])
        refine wpAnyH_take (i := 9) (v := ?_) rfl (by kernel_rfl) (by kernel_rfl) (by kernel_rfl) (fun _ _ _ h => h) (Or.inl ⟨by kernel_rfl, ?_⟩) h4 ?_
        rotate_left
        · intro w hSw; (try dsimp only at hSw); go_simp; try (with_reducible rfl)
        (try simp only [Act.put, List.getElem_toArray, List.getElem_cons_succ, List.getElem_cons_zero, List.setIfInBounds_toArray, List.set_cons_zero, List.set_cons_succ])
        refine wpAnyH_ready (rs := [10]) (by kernel_rfl) (by simp) ?_
        refine AllReadyH.cons rfl (fun K1 hK1 => ?_) AllReadyH.nil
        have m1 := cellOf D1.out.1 1 _ rfl
        have m2 := frozenOf D1.out.1 1
        go_simp
        have HF : Hid (Fly O F w F (w1.setCell ⟨wb, 1, none⟩ (.slice (some ⟨g, 0, none⟩) (n + 1) cap))) := (Fly.of_below Xf.out.2.2.2.2 HW.out.old).trans HM.out.2
        have HM2 : Hid (Wd Inv O F (w1.setCell ⟨wb, 1, none⟩ (.slice (some ⟨g, 0, none⟩) (n + 1) cap)) rb wb (l ++ [⟨da, dl, sb⟩]) ∧ (w1.setCell ⟨wb, 1, none⟩ (.slice (some ⟨g, 0, none⟩) (n + 1) cap)).heap[wb]? = some (.cells #[.pointer (some ⟨rb, 0, none⟩), .slice (some ⟨g, 0, none⟩) (n + 1) cap] 149 (0, 0)) ∧ (w1.setCell ⟨wb, 1, none⟩ (.slice (some ⟨g, 0, none⟩) (n + 1) cap)).heap[p]? = some (.cells #[.int .u64 (da : Int), .int .u64 (dl : Int), .bool sb] 64 (0, 0))) := ⟨HM.out.1, setw_box D1.out.1, (heap_setCell _ _ _ _ _ HPW.out).trans D1.out.2⟩
        clear HM m1 m2
        generalize w1.setCell ⟨wb, 1, none⟩ (.slice (some ⟨g, 0, none⟩) (n + 1) cap) = w4 at *
        refine hK1.out _ _ ⟨cellOf HM2.out.2.1 0 _ rfl, cellOf HM2.out.2.2 0 _ rfl, cellOf HM2.out.2.2 1 _ rfl, cellOf HM2.out.2.2 2 _ rfl⟩ (fun h5 => ?_)
        clear hK1 K1 h4
        (try simp only [Act.put, List.getElem_toArray, List.getElem_cons_succ, List.getElem_cons_zero, List.setIfInBounds_toArray, List.set_cons_zero, List.set_cons_succ])
        refine wpAnyH_done (by kernel_rfl) ?_ _
        clear h5
        go_wp2_with fail
        go_ret
        exact ⟨rfl, HM2.out.1, HF.out⟩
end Go.Proofs.Ytmjdnocilbnoaaa
