/- RingDescs. -/
import Derived.Test.YthnmoalomodbpaaRj
namespace Go.Proofs.Ythnmoalomodbpaa
open Go.RowKit Go.Maps
set_option linter.unusedVariables false
set_option linter.unusedSimpArgs false
set_option maxRecDepth 100000
theorem memory_in (W w1 w2 : World) {a : Option Addr} {nn c rb : Nat} {F : Nat → Prop} {M : Nat → Nat} (h1 : Below W.heap.size W w1) (h2 : Below w1.heap.size w1 w2) (hb : Both F w2 rb 8192 (.slice a nn c) 12000 M) (hF : ∀ k, F k → w1.heap.size ≤ k) : (w2.alloc (.cells #[.int .u64 8192, .slice a nn c] 29)).heap[w2.heap.size]? = some (.cells #[.int .u64 8192, .slice a nn c] 29 (0, 0)) ∧ Both F (w2.alloc (.cells #[.int .u64 8192, .slice a nn c] 29)) rb 8192 (.slice a nn c) 12000 M ∧ (∀ k, F k → W.heap.size ≤ k) ∧ ¬ F w2.heap.size ∧ W.heap.size ≤ w2.heap.size ∧ Below W.heap.size W (w2.alloc (.cells #[.int .u64 8192, .slice a nn c] 29)) := by
  have hs1 := h1.size
  have hs2 := h2.size
  have hlt := hb.1.lt
  have h12 := below_to h1 h2
  exact ⟨heap_alloc_new _ _, hb.below ((Below.refl _ _).alloc (Nat.le_refl _) _), fun k hk => by have := hF k hk; omega, fun hf => by have := hlt _ hf; omega, by omega, below_to h12 ((Below.refl _ _).alloc (Nat.le_refl _) _)⟩
theorem puts_form {W : World} {v : Value} {len : Nat} {ps : Nat → PutD} (h : PutsIn W v len ps) : ∃ a c, v = .slice a len c := by
  rcases h with ⟨rfl, a, c, rfl⟩ | ⟨b, off, cap, rfl, _⟩
  · exact ⟨_, _, rfl⟩
  · exact ⟨_, _, rfl⟩
theorem reads_like {w : World} {v : Value} {n : Nat} {f g : Nat → Nat} (h : Reads .u8 w v n f) (hfg : ∀ i, i < n → g i = f i) : Reads .u8 w v n g := by
  rcases h with h | ⟨b, off, c, hv, hc⟩
  · exact .inl h
  · exact .inr ⟨b, off, c, hv, fun i hi => by rw [hc i hi, hfg i hi]⟩
set_option maxHeartbeats 4000000 in
theorem descs_core (W : World) (pa : Option Addr) (len pc : Nat) (ps : Nat → PutD) (hps : PutsIn W (.slice pa len pc) len ps) (t : Nat) (i : Int) (ht : t < 18446744073709551616) : Calls Try.prog 4 #[.slice pa len pc, .int .u64 (t : Int), .int .i64 i] W fun e w' => e = .returned (.bool true) ∧ Below W.heap.size W w' := by
  have HP : Hid (PutsIn W (.slice pa len pc) len ps) := hps
  have HT : Hid (t < 18446744073709551616) := ht
  clear hps ht
  go_enter Try.func4, Try.ntmps4
  go_wp2_with fail
  refine (awake_any _).mono ?_
  rintro e w1 ⟨rfl, hb1⟩
  have H1 : Hid (Below W.heap.size W w1) := hb1
  clear hb1
  go_wp2_with fail
  refine (memory_any (.slice pa len pc) len ps _ (HP.out.up H1.out)).mono ?_
  rintro e w2 ⟨pv, a, nn, c, rfl, hb2, ⟨rfl, h0⟩ | ⟨rb, F, M, rfl, hboth, hF⟩⟩
  · have HE : Hid (Below W.heap.size W w2) := below_to H1.out hb2
    clear hb2 h0
    go_wp2_with fail
    go_ret
    exact ⟨rfl, HE.out.alloc HE.out.size _⟩
  have X := memory_in W w1 w2 H1.out hb2 hboth hF
  have X3 : Hid (_ ∧ _ ∧ _ ∧ _ ∧ _ ∧ _) := X
  clear hb2 hboth hF H1 X
  go_upto_region 6 with fail
  generalize w2.heap.size = b8 at *
  generalize w2.alloc (.cells #[.int .u64 8192, .slice a nn c] 29) = w3 at *
  obtain ⟨ok, v0, v1, v2, v3, hR, k17, k18⟩ := desc_both X3.out.2.1 (by decide) t i
  have HR : Hid (DescR M t i ok v0 v1 v2 v3) := hR
  have K17 : Hid (∀ V, Below w3.heap.size w3 V → Calls Try.prog 17 #[.pointer (some ⟨rb, 0, none⟩), .int .u64 (t : Nat), .int .i64 i] V fun e w' => e = .returned (.tuple #[.agg #[.int .u64 (v0 : Int), .int .u32 (v1 : Int), .int .u16 (v2 : Int), .int .u16 (v3 : Int)], .bool ok]) ∧ Below V.heap.size V w') := k17
  have K18 : Hid (∀ V, Below w3.heap.size w3 V → Calls Try.prog 18 #[.agg #[.int .u64 8192, .slice a nn c], .int .u64 (t : Nat), .int .i64 i] V fun e w' => e = .returned (.tuple #[.agg #[.int .u64 (v0 : Int), .int .u32 (v1 : Int), .int .u16 (v2 : Int), .int .u16 (v3 : Int)], .bool ok]) ∧ Below V.heap.size V w') := k18
  clear hR k17 k18
  go_wp2_with fail
  refine (K17.out _ (Below.refl _ _)).mono ?_
  rintro e w4 ⟨rfl, hb4⟩
  have X5 : Hid (Below w3.heap.size w3 (w4.alloc (.cells #[.int .u64 (v0 : Int), .int .u32 (v1 : Int), .int .u16 (v2 : Int), .int .u16 (v3 : Int)] 47)) ∧ (w4.alloc (.cells #[.int .u64 (v0 : Int), .int .u32 (v1 : Int), .int .u16 (v2 : Int), .int .u16 (v3 : Int)] 47)).heap[w4.heap.size]? = some (.cells #[.int .u64 (v0 : Int), .int .u32 (v1 : Int), .int .u16 (v2 : Int), .int .u16 (v3 : Int)] 47 (0, 0))) := ⟨below_to hb4 ((Below.refl _ _).alloc (Nat.le_refl _) _), heap_alloc_new _ _⟩
  clear hb4
  go_upto_region 7 with fail
  generalize w4.heap.size = b9 at *
  generalize w4.alloc (.cells #[.int .u64 (v0 : Int), .int .u32 (v1 : Int), .int .u16 (v2 : Int), .int .u16 (v3 : Int)] 47) = w5 at *
  obtain ⟨r0, r1, _, _⟩ := box_facts (below_box X3.out.1 X5.out.1)
  go_wp2_with fail
  refine (K18.out _ X5.out.1).mono ?_
  rintro e w6 ⟨rfl, hb6⟩
  have X7 : Hid (Below w3.heap.size w3 (w6.alloc (.cells #[.int .u64 (v0 : Int), .int .u32 (v1 : Int), .int .u16 (v2 : Int), .int .u16 (v3 : Int)] 47)) ∧ (w6.alloc (.cells #[.int .u64 (v0 : Int), .int .u32 (v1 : Int), .int .u16 (v2 : Int), .int .u16 (v3 : Int)] 47)).heap[b9]? = some (.cells #[.int .u64 (v0 : Int), .int .u32 (v1 : Int), .int .u16 (v2 : Int), .int .u16 (v3 : Int)] 47 (0, 0)) ∧ (w6.alloc (.cells #[.int .u64 (v0 : Int), .int .u32 (v1 : Int), .int .u16 (v2 : Int), .int .u16 (v3 : Int)] 47)).heap[w6.heap.size]? = some (.cells #[.int .u64 (v0 : Int), .int .u32 (v1 : Int), .int .u16 (v2 : Int), .int .u16 (v3 : Int)] 47 (0, 0))) := ⟨below_to (below_to X5.out.1 hb6) ((Below.refl _ _).alloc (Nat.le_refl _) _), below_box (below_box X5.out.2 hb6) ((Below.refl _ _).alloc (Nat.le_refl _) _), heap_alloc_new _ _⟩
  clear hb6 r0 r1 X5
  go_upto_region 8 with fail
  generalize w6.heap.size = b11 at *
  generalize w6.alloc (.cells #[.int .u64 (v0 : Int), .int .u32 (v1 : Int), .int .u16 (v2 : Int), .int .u16 (v3 : Int)] 47) = w7 at *
  obtain ⟨c0, c1, c2, c3⟩ := box4_facts X7.out.2.1
  obtain ⟨d0, d1, d2, d3⟩ := box4_facts X7.out.2.2
  obtain ⟨r0, r1, _, _⟩ := box_facts (below_box X3.out.1 X7.out.1)
  cases ok with
  | false =>
    go_wp2_with fail
    go_ret
    exact ⟨rfl, below_to X3.out.2.2.2.2.2 X7.out.1⟩
  | true =>
    rcases HR.out with ⟨h, _⟩ | ⟨k, x, hi, hk, hx, hin, -, hd⟩
    · cases h
    subst hi
    have hh3 : IntKind.u64.wrap (k : Int) = (k : Int) := by rw [wrap_u64]; omega
    have hh4 : IntKind.u64.wrap (16 * (k : Int)) = 16 * (k : Int) := by rw [wrap_u64]; omega
    have hh5 : IntKind.u64.wrap ((t : Int) + 16 * (k : Int)) = (x : Int) := by rw [wrap_u64]; omega
    have hle := X3.out.2.1.1.le
    have HD : Hid ((v0 < 18446744073709551616 ∧ v1 ≤ 4294967295 ∧ v2 ≤ 65535 ∧ v3 ≤ 65535) ∧ (∀ i, i < 16 → dB v0 v1 v2 v3 i = M (x + i)) ∧ x < 18446744073709551616 ∧ inB x 16 2147483648 8192 = true) := ⟨hd.lt hle, hd.bytes hle, by omega, hin⟩
    obtain ⟨nb, bs, g1, ⟨a', c', hsl⟩, g3, g4, g5⟩ := X3.out.2.1.2
    simp only [Value.slice.injEq] at hsl
    obtain ⟨rfl, rfl, rfl⟩ := hsl
    have G : Hid (RefIn F w7 (.slice a nn c) nn bs ∧ (∀ a, rget bs nn a = M a) ∧ nn ≤ 12000) := ⟨g3.below X7.out.1, g4, g1⟩
    clear g1 g3 g4 g5 hd hin hx hle HR K17 K18
    go_wp2_with fail
    refine (rread_in F _ 8192 x 16 nn _ bs G.out.1 (by have := G.out.2.2; omega) (by omega) HD.out.2.2.1 (by omega) HD.out.2.2.2).mono ?_
    rintro e w8 ⟨g, rfl, ho, hb8⟩
    have X8 : Hid (w8.heap[b9]? = some (.cells #[.int .u64 (v0 : Int), .int .u32 (v1 : Int), .int .u16 (v2 : Int), .int .u16 (v3 : Int)] 47 (0, 0)) ∧ Below w3.heap.size w3 w8 ∧ Reads .u8 w8 (.slice (some ⟨g, 0, none⟩) 16 16) 16 (dB v0 v1 v2 v3)) := ⟨below_box X7.out.2.1 hb8, below_to X7.out.1 hb8, by
      have h := reads_own ho
      refine reads_like h (fun i hi => ?_)
      rw [HD.out.2.1 i hi]
      exact (G.out.2.1 _).symm⟩
    clear ho hb8 c0 c1 c2 c3 d0 d1 d2 d3 r0 r1
    obtain ⟨c0, c1, c2, c3⟩ := box4_facts X8.out.1
    go_wp2_with fail
    refine (bytes_desc v0 v1 v2 v3 HD.out.1.1 HD.out.1.2.1 HD.out.1.2.2.1 HD.out.1.2.2.2 _).mono ?_
    rintro e w9 ⟨g9, q9, rfl, ho, hb9⟩
    have X9 : Hid (Below w3.heap.size w3 w9 ∧ Reads .u8 w9 (.slice (some ⟨g, 0, none⟩) 16 16) 16 (dB v0 v1 v2 v3) ∧ Reads .u8 w9 (.slice (some ⟨g9, 0, none⟩) 16 q9) 16 (dB v0 v1 v2 v3)) := ⟨below_to X8.out.2.1 hb9, reads_below X8.out.2.2 hb9, reads_own ho⟩
    clear ho hb9
    go_wp2_with fail
    refine (bytes_same (dB v0 v1 v2 v3) 16 _ _ (by decide) _ X9.out.2.2 X9.out.2.1).mono ?_
    rintro e w10 ⟨rfl, q, rfl⟩
    go_wp2_with fail
    go_ret
    exact ⟨rfl, below_drewN (below_to X3.out.2.2.2.2.2 X9.out.1) q⟩
theorem descs_walk (W : World) (v : Value) (len : Nat) (ps : Nat → PutD) (hps : PutsIn W v len ps) (t : Int) (ht : (Lit.int .u64 t).wf = true) (i : Int) (hi : (Lit.int .i64 i).wf = true) : Calls Try.prog 4 #[v, .int .u64 t, .int .i64 i] W fun e w' => e = .returned (.bool true) ∧ Below W.heap.size W w' := by
  obtain ⟨a, c, rfl⟩ := puts_form hps
  obtain ⟨n, rfl, hn⟩ := nat_u64 ht
  exact descs_core W a len c ps hps n i hn
end Go.Proofs.Ythnmoalomodbpaa
