/- The statement on Of and Bytes of layer 1 returns true for every input. -/
import Derived.Test.YtflpfgbebjamfaaOf
namespace Go.Proofs.Ytflpfgbebjamfaa
open Go.RowKit
/-- what is known of a slice of integers that came in: it is nil; or it leads to a row of cells, its elements the first of them -/
def IsRow (k : IntKind) (w : World) (a : Option Addr) (len cap : Nat) (zs : List Int) : Prop :=
  (a = none ∧ len = 0 ∧ cap = 0 ∧ zs = []) ∨
  ∃ x, a = some x ∧ len ≤ cap ∧ cap ≤ maxLen ∧ zs.length = cap ∧ (∀ i, i < zs.length → w.cell? (x.add i) = some (.int k (zs.getD i 0))) ∧ ∀ n ∈ zs, (Lit.int k n).wf = true
theorem isRow_reads {w : World} {a : Option Addr} {len cap : Nat} {zs : List Int} (h : IsRow .u8 w a len cap zs) : ∃ f : Nat → Nat, (∀ i, f i ≤ 255) ∧ Reads .u8 w (.slice a len cap) len f := by
  have hr : ∀ j : Nat, 0 ≤ zs[j]?.getD 0 ∧ zs[j]?.getD 0 ≤ 255 := by
    rcases h with ⟨_, _, _, rfl⟩ | ⟨x, _, _, _, _, _, hw⟩
    · simp
    · exact range_u8 hw
  refine ⟨fun i => (zs[i]?.getD 0).toNat, fun i => by have := hr i; show (zs[i]?.getD 0).toNat ≤ 255; omega, ?_⟩
  rcases h with ⟨rfl, rfl, rfl, rfl⟩ | ⟨x, rfl, hlc, hcm, hz, hc, hw⟩
  · exact .inl ⟨rfl, _, _, rfl⟩
  · by_cases h0 : len = 0
    · subst h0; exact .inl ⟨rfl, _, _, rfl⟩
    · obtain ⟨b, off, rfl, hcell⟩ := ints_at hc (by omega)
      refine .inr ⟨b, off, cap, rfl, fun i hi => ?_⟩
      rw [hcell i (by omega)]
      have := hr i
      simp only [List.getD_eq_getElem?_getD]
      congr 2
      omega
theorem reads_below {k : IntKind} {w w' : World} {v : Value} {n : Nat} {f : Nat → Nat} (h : Reads k w v n f) (hb : Below w.heap.size w w') : Reads k w' v n f := by
  rcases h with h | ⟨b, off, cap, hv, hc⟩
  · exact .inl h
  · exact .inr ⟨b, off, cap, hv, fun i hi => by rw [hb.cell (p := ⟨b, off + i, none⟩) (block_lt_of_cell (hc i hi))]; exact hc i hi⟩
theorem reads_some {k : IntKind} {w : World} {v : Value} {n : Nat} {f : Nat → Nat} (h : Reads k w v n f) (hn : 0 < n) : ∃ b off cap, v = .slice (some ⟨b, off, none⟩) n cap ∧ ∀ i, i < n → w.cell? ⟨b, off + i, none⟩ = some (.int k (f i : Nat)) := by
  rcases h with ⟨h, _⟩ | h
  · omega
  · exact h
theorem reads_form {k : IntKind} {w : World} {v : Value} {n : Nat} {f : Nat → Nat} (h : Reads k w v n f) : ∃ a cap, v = .slice a n cap := by
  rcases h with ⟨rfl, a, cap, rfl⟩ | ⟨b, off, cap, rfl, _⟩
  · exact ⟨_, _, rfl⟩
  · exact ⟨_, _, rfl⟩
theorem h256_word (x : Nat) (hx : x < 18446744073709551616) : h256 (byteAt x) 8 0 = x := by rw [h256_byteAt]; omega
set_option maxHeartbeats 1000000 in
theorem bytes_core (vb : Value) (len cap : Nat) (ab : Option Addr) (hvb : vb = .slice ab len cap) (f : Nat → Nat) (hf : ∀ i, f i ≤ 255) (x : Nat) (n : Int) (hx : x < 18446744073709551616) (hlen : len ≤ 100) (w : World) (hr : Reads .u8 w vb len f) :
    Calls Try.prog 6 #[vb, .int .u64 (x : Int), .int .i64 n] w fun e w' => e = .returned (.bool true) ∧ Below w.heap.size w w' := by
  subst hvb
  obtain ⟨L, hL⟩ : ∃ L, L = (min n 4096).toNat := ⟨_, rfl⟩
  have hL1 : L ≤ 4096 := by omega
  have HL : Hid (L = (min n 4096).toNat) := hL
  clear hL
  go_enter Try.func6, Try.ntmps6
  go_wp2_with (first | (go_at_call 8; refine (awake_any _).mono ?_; rintro e w' ⟨rfl, rfl⟩) | (go_at_call 19; refine (bytes_any _ _ L hx HL.out _).mono ?_; rintro e w1 ⟨v1, rfl, hown1, hb1⟩; obtain ⟨a1, c1, rfl⟩ := reads_form (reads_own hown1)) | (go_at_call 20; refine (rbytes_any _ _ L hx HL.out _).mono ?_; rintro e w2 ⟨v2, rfl, hown2, hb2⟩; obtain ⟨a2, c2, rfl⟩ := reads_form (reads_own hown2)))
  have r1 := reads_below (reads_own hown1) hb2
  have r2 := reads_own hown2
  have hb := hb1.trans (hb2.mono hb1.size)
  clear hown1 hown2 hb1 hb2
  by_cases hL0 : L = 0
  · subst hL0
    go_loopw [9] (fun i wr => i = .int .i64 0 ∧ ∃ q, wr = w2.drewN q) (fun _ _ => 0)
    case atStart => exact ⟨rfl, 0, rfl⟩
    case round =>
      obtain ⟨rfl, q, rfl⟩ := hrel
      have hbw := below_drewN hb q
      have hrb := reads_below hr hbw
      clear r1 r2 hr hb
      go_wp2_with (first | (go_at_call 22; refine (rof_any f len _ _ (by omega) rfl (fun i _ => hf i) _ hrb).mono ?_; rintro e w' ⟨rfl, rfl⟩) | (go_at_call 19; refine (bytes_any _ _ 8 hx (by decide) _).mono ?_; rintro e w3 ⟨v3, rfl, hown3, hb3⟩; have Second : True := trivial) | (go_at_call 21; first | (have _h := Second; refine (of_any (byteAt x) 8 8 _ (by omega) rfl (fun i _ => byteAt_le x i) _ (reads_own hown3)).mono ?_; rintro e w' ⟨rfl, rfl⟩) | (refine (of_any f len _ _ (by omega) rfl (fun i _ => hf i) _ hrb).mono ?_; rintro e w' ⟨rfl, rfl⟩)))
      go_ret
      exact ⟨by simp [h256_word x hx], hbw.trans (hb3.mono hbw.size)⟩
  · obtain ⟨b1, o1, c1', e1, hc1⟩ := reads_some r1 (by omega)
    obtain ⟨b2, o2, c2', e2, hc2⟩ := reads_some r2 (by omega)
    simp only [Value.slice.injEq] at e1 e2
    obtain ⟨rfl, -, rfl⟩ := e1
    obtain ⟨rfl, -, rfl⟩ := e2
    go_loopw [9] (fun i wr => ∃ k : Nat, k ≤ L ∧ i = .int .i64 k ∧ ∃ q, wr = w2.drewN q) (fun i _ => L - (intOf i).toNat)
    case atStart => exact ⟨0, by omega, rfl, 0, rfl⟩
    case round =>
      obtain ⟨k, hk, rfl, q, rfl⟩ := hrel
      by_cases hlt : k < L
      · have h1 := hc1 k hlt
        have h2 := hc2 k hlt
        have hkL : (k : Int) < L := by omega
        clear hc1 hc2 r1 r2 hr hb
        go_wp2
        go_quiet (fail)
        go_wp2
        go_roundw
        case rel => exact ⟨k + 1, by omega, by go_num, _, rfl⟩
        case measure => simp [intOf]; omega
      clear hc1 hc2
      have hbw := below_drewN hb q
      have hrb := reads_below hr hbw
      clear r1 r2 hr hb
      go_wp2_with (first | (go_at_call 22; refine (rof_any f len _ _ (by omega) rfl (fun i _ => hf i) _ hrb).mono ?_; rintro e w' ⟨rfl, rfl⟩) | (go_at_call 19; refine (bytes_any _ _ 8 hx (by decide) _).mono ?_; rintro e w3 ⟨v3, rfl, hown3, hb3⟩; have Second : True := trivial) | (go_at_call 21; first | (have _h := Second; refine (of_any (byteAt x) 8 8 _ (by omega) rfl (fun i _ => byteAt_le x i) _ (reads_own hown3)).mono ?_; rintro e w' ⟨rfl, rfl⟩) | (refine (of_any f len _ _ (by omega) rfl (fun i _ => hf i) _ hrb).mono ?_; rintro e w' ⟨rfl, rfl⟩)))
      go_ret
      exact ⟨by simp [h256_word x hx], hbw.trans (hb3.mono hbw.size)⟩
set_option maxHeartbeats 400000 in
theorem bytes_long (vb : Value) (len cap : Nat) (ab : Option Addr) (hvb : vb = .slice ab len cap) (x n : Int) (hlen : 100 < len) (hm : len ≤ 9223372036854775807) (w : World) :
    Calls Try.prog 6 #[vb, .int .u64 x, .int .i64 n] w fun e w' => e = .returned (.bool true) ∧ Below w.heap.size w w' := by
  subst hvb
  go_enter Try.func6, Try.ntmps6
  go_wp2_with (first | (go_at_call 8; refine (awake_any _).mono ?_; rintro e w' ⟨rfl, rfl⟩))
  go_ret
  exact ⟨rfl, Below.refl _ _⟩
theorem bytes_walk (w : World) (a0 : Option Addr) (len0 cap0 : Nat) (z0 : List Int) (w0 : IsRow .u8 w a0 len0 cap0 z0) (a1 : Int) (w1 : (Lit.int .u64 a1).wf = true) (a2 : Int) (_w2 : (Lit.int .i64 a2).wf = true) :
    Calls Try.prog 6 #[.slice a0 len0 cap0, .int .u64 a1, .int .i64 a2] w fun e w' => e = .returned (.bool true) ∧ Below w.heap.size w w' := by
  have hm : len0 ≤ 9223372036854775807 := by
    rcases w0 with ⟨_, rfl, _⟩ | ⟨_, _, h1, h2, _⟩
    · omega
    · unfold maxLen at h2; omega
  by_cases h : 100 < len0
  · exact bytes_long _ len0 cap0 a0 rfl a1 a2 h hm w
  · have b1 := bounds_u64 w1
    obtain ⟨x, rfl⟩ : ∃ x : Nat, a1 = x := ⟨a1.toNat, by omega⟩
    obtain ⟨f, hf, hr⟩ := isRow_reads w0
    exact bytes_core _ len0 cap0 a0 rfl f hf x a2 (by omega) (by omega) w hr
end Go.Proofs.Ytflpfgbebjamfaa
