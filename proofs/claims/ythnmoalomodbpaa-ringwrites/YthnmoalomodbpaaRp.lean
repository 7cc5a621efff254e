/- The document's Put. -/
import Derived.Test.YthnmoalomodbpaaRo
import Derived.BigQuiet
import Derived.Deep.QuietTactic
namespace Go.Proofs.Ythnmoalomodbpaa
open Go.RowKit Go.Maps
set_option linter.unusedVariables false
set_option linter.unusedSimpArgs false
set_option maxRecDepth 100000
theorem tri_low {w V V' : World} {va : Option Addr} {nn vc n D A U : Nat} (h : Tri w V va nn vc n D A U) (hb : Below (w.heap.size + 3) V V') : Tri w V' va nn vc n D A U :=
  ⟨(hb.block _ (by omega)).trans h.1, (hb.block _ (by omega)).trans h.2.1, (hb.block _ (by omega)).trans h.2.2.1, h.2.2.2.trans (hb.mono (by omega))⟩
set_option maxHeartbeats 2000000 in
theorem rput15_any {F : Nat → Prop} {w : World} {nn vc : Nat} {va : Option Addr} {bs : Nat → Nat × Nat} {M : Nat → Nat} (h : RefIn F w (.slice va nn vc) nn bs) (hM : ∀ a, rget bs nn a = M a) (hle : ∀ a, M a ≤ 255) (hn : nn ≤ 1000000) (hF : ∀ k, F k → k < w.heap.size) (hrg : Rng bs nn 8192) {n D A U : Nat} (hg : Gd n D A U) (m r d c : Nat) (hm : m ≤ 65535) (hr : r = m % n) (hd : d ≤ 65535) (hc : c ≤ 4294967295) : Calls Try.prog 33 #[.agg #[.int .u64 8192, .slice va nn vc], .agg #[.int .i64 (n : Int), .int .u64 (D : Int), .int .u64 (A : Int), .int .u64 (U : Int)], .int .i64 (m : Int), .int .i64 (d : Int), .int .u32 (c : Int)] w fun e w' => ∃ a' n' c' bs', e = .returned (.agg #[.int .u64 8192, .slice a' n' c']) ∧ n' ≤ nn + 8 ∧ RefIn F w' (.slice a' n' c') n' bs' ∧ (∀ a, rget bs' n' a = over M (U + 4 + 8 * r) 8 (eB d c) a) ∧ Rng bs' n' 8192 ∧ Below w.heap.size w w' := by
  have g1 := hg.u1
  have g2 := hg.u2
  have g3 := hg.n2
  have g4 := hg.n1
  have g5 : r < n := by rw [hr]; exact Nat.mod_lt _ (by omega)
  have gm : (m : Int).tmod (n : Int) = (r : Int) := by rw [Int.tmod_eq_emod_of_nonneg (by omega), hr]; simp
  have gn0 : ¬ n = 0 := by omega
  have er : IntKind.u64.wrap (r : Int) = (r : Int) := by rw [wrap_u64]; omega
  have ed : IntKind.u64.wrap (d : Int) = (d : Int) := by rw [wrap_u64]; omega
  have ec : IntKind.u64.wrap (c : Int) = (c : Int) := by rw [wrap_u64]; omega
  obtain ⟨U4, qU4⟩ : ∃ y : Nat, y = U + 4 := ⟨_, rfl⟩
  have wU4 : IntKind.u64.wrap ((U : Int) + 4) = (U4 : Int) := by rw [wrap_u64]; omega
  obtain ⟨r8, qr8⟩ : ∃ y : Nat, y = 8 * r := ⟨_, rfl⟩
  have wr8 : IntKind.u64.wrap (8 * (r : Int)) = (r8 : Int) := by rw [wrap_u64]; omega
  obtain ⟨x, qx⟩ : ∃ y : Nat, y = U4 + r8 := ⟨_, rfl⟩
  have wx : IntKind.u64.wrap ((U4 : Int) + (r8 : Int)) = (x : Int) := by rw [wrap_u64]; omega
  have HX : Hid (U + 4 + 8 * r = x ∧ x < 18446744073709551616) := ⟨by omega, by omega⟩
  have hin : inB x 8 2147483648 8192 = true := by simp only [inB, decide_eq_true_iff]; omega
  have HW : Hid (∀ V, Below w.heap.size w V → ∀ dv, Reads .u8 V dv 8 (eB d c) → Calls Try.prog 45 #[.agg #[.int .u64 8192, .slice va nn vc], .int .u64 (x : Int), dv] V fun e w' => ∃ a' n' c' bs', e = .returned (.tuple #[.agg #[.int .u64 8192, .slice a' n' c'], .bool true]) ∧ (n' ≤ nn + 8 ∧ RefIn F w' (.slice a' n' c') n' bs' ∧ (∀ a, rget bs' n' a = over M x 8 (eB d c) a) ∧ Rng bs' n' 8192) ∧ Below V.heap.size V w') := fun V hV dv hdv => (rwr_any F V x 8 (.slice va nn vc) dv nn bs (eB d c) true hin (h.below hV) hdv (fun k hk => Nat.lt_of_lt_of_le (hF k hk) hV.size) hn HX.out.2 (by decide)).mono fun e w' ⟨a', n', c', bs', he, h1, h2, h3, h4⟩ => ⟨a', n', c', bs', he, ⟨h1, h2, fun a => by rw [h3.1 a, if_pos rfl]; exact over_congr _ _ _ hM a, h3.2 hrg⟩, h4⟩
  have HD : Hid (d < 18446744073709551616 ∧ c < 18446744073709551616) := ⟨by omega, by omega⟩
  clear g1 g2 g3 g4 g5 hg h hM hle hn hF hrg hm hin hr hd hc qU4 qr8 qx
  rw [HX.out.1]
  have B0 : Hid (Tri w (((w.alloc (.cells #[.int .u64 8192, .slice va nn vc] 29)).alloc (.cells #[.int .i64 (n : Int), .int .u64 (D : Int), .int .u64 (A : Int), .int .u64 (U : Int)] 24)).alloc (.cells #[.int .u64 0, .slice none 0 0] 29)) va nn vc n D A U) := Tri.new w va nn vc n D A U
  go_enter Try.func33, Try.ntmps33
  go_upto_region 1 with fail
  generalize (((w.alloc (.cells #[.int .u64 8192, .slice va nn vc] 29)).alloc (.cells #[.int .i64 (n : Int), .int .u64 (D : Int), .int .u64 (A : Int), .int .u64 (U : Int)] 24)).alloc (.cells #[.int .u64 0, .slice none 0 0] 29)) = w0 at *
  obtain ⟨c0, c1, c2, c3⟩ := box4_facts B0.out.2.1
  go_quiet (fail)
  have X1 : Hid (Tri w (w0.drewN nq) va nn vc n D A U) := B0.out.step (below_drewN (Below.refl _ _) nq)
  clear B0 c0 c1 c2 c3
  generalize w0.drewN nq = w1 at *
  go_wp2_with fail
  refine (rbytes_any d 4 4 HD.out.1 (by decide) _).mono ?_
  rintro e w2 ⟨v2, rfl, ho, hb⟩
  have X2 : Hid (Tri w w2 va nn vc n D A U ∧ w2.ownsRow (w.heap.size + 3) 5 1 v2 4 (rowK .u8 (byteAt d) 4)) := ⟨X1.out.step hb, own_low ho (by have := (Array.getElem?_eq_some_iff.1 X1.out.2.2.1).1; omega)⟩
  clear ho hb X1
  obtain ⟨a2, k2, hv2⟩ := own_form X2.out.2
  subst hv2
  go_wp2_with fail
  refine (rbytes_any c 4 4 HD.out.2 (by decide) _).mono ?_
  rintro e w3 ⟨v3, rfl, ho, hb⟩
  have X3 : Hid (Tri w w3 va nn vc n D A U ∧ w3.ownsRow (w.heap.size + 3) 5 1 (.slice a2 4 k2) 4 (rowK .u8 (byteAt d) 4) ∧ Reads .u8 w3 v3 4 (byteAt c)) := ⟨X2.out.1.step hb, own_below X2.out.2 hb, reads_own ho⟩
  clear ho hb X2
  obtain ⟨a3, k3, hv3⟩ := reads_form X3.out.2.2
  subst hv3
  go_wp2_with (first | (at_builtin; refine wpList_append_more rfl _ _ rfl (w.heap.size + 3) 4 (byteAt d) (.slice a2 4 k2) rfl X3.out.2.1 (.slice a3 4 k3) rfl 4 (byteAt c) X3.out.2.2 (by decide) (by decide) (by have := (Array.getElem?_eq_some_iff.1 X3.out.1.2.2.1).1; omega) ?_; intro g4 q4 w4 ho hb; have X4 : Hid (Tri w w4 va nn vc n D A U ∧ Reads .u8 w4 (.slice (some ⟨g4, 0, none⟩) 8 q4) 8 (eB d c)) := ⟨tri_low X3.out.1 hb, reads_own ho⟩; clear ho hb X3; have f0 := cellOf X4.out.1.1 0 _ rfl; have f1 := cellOf X4.out.1.1 1 _ rfl))
  refine (HW.out _ X4.out.1.2.2.2 _ X4.out.2).mono ?_
  rintro e w6 ⟨a6, n6, c6, bs6, rfl, h6, hb⟩
  have X6 : Hid (Tri w w6 va nn vc n D A U ∧ n6 ≤ nn + 8 ∧ RefIn F w6 (.slice a6 n6 c6) n6 bs6 ∧ (∀ a, rget bs6 n6 a = over M x 8 (eB d c) a) ∧ Rng bs6 n6 8192) := ⟨X4.out.1.step hb, h6⟩
  clear h6 hb X4 f0 f1
  have a0 := cellOf X6.out.1.1 0 _ rfl
  have a1 := cellOf X6.out.1.1 1 _ rfl
  have z0 := frozenOf X6.out.1.1 0
  have z1 := frozenOf X6.out.1.1 1
  have Y9 : Hid ((Two6 w ((w6.setCell ⟨w.heap.size, 0, none⟩ (.int .u64 8192)).setCell ⟨w.heap.size, 1, none⟩ (.slice a6 n6 c6)) F a6 n6 c6 n D A U bs6) ∧ n6 ≤ nn + 8 ∧ (∀ a, rget bs6 n6 a = over M x 8 (eB d c) a) ∧ Rng bs6 n6 8192) := ⟨tri_end X6.out.1 X6.out.2.2.1, X6.out.2.1, X6.out.2.2.2.1, X6.out.2.2.2.2⟩
  go_upto_region 4 with fail
  clear X6 a0 a1 z0 z1
  generalize (w6.setCell ⟨w.heap.size, 0, none⟩ (.int .u64 8192)).setCell ⟨w.heap.size, 1, none⟩ (.slice a6 n6 c6) = w9 at *
  have a0 := cellOf Y9.out.1.1 0 _ rfl
  have a1 := cellOf Y9.out.1.1 1 _ rfl
  have b0 := cellOf Y9.out.1.2.2.1 0 _ rfl
  have b1 := cellOf Y9.out.1.2.2.1 1 _ rfl
  have z0 := frozenOf Y9.out.1.2.2.1 0
  have z1 := frozenOf Y9.out.1.2.2.1 1
  have Y10 := two6_end Y9.out.1
  have H10 : Hid (_ ∧ _) := Y10
  clear Y10
  go_wp2_with fail
  refine bodyPost_ret (v := .agg #[.int .u64 8192, .slice a6 n6 c6]) (by simp [results, Try.results33, go_sem, b0, b1]) rfl ⟨a6, n6, c6, bs6, rfl, Y9.out.2.1, H10.out.1, Y9.out.2.2.1, Y9.out.2.2.2, H10.out.2⟩
end Go.Proofs.Ythnmoalomodbpaa
