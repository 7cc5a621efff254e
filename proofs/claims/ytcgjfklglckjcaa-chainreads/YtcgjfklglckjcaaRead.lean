/- The calls Read and Load of layer 2. -/
import Derived.Test.YtcgjfklglckjcaaRam
namespace Go.Proofs.Ytcgjfklglckjcaa
open Go.RowKit Go.Maps
set_option linter.unusedVariables false
theorem read_out {w : World} {F : Nat → Prop} {rb size n : Nat} {lg : Value} {M : Nat → Nat} (h : RamAt w F rb size n lg M) (hs : size ≤ 268435456) (x L : Nat) (hx : x < 18446744073709551616) (hL : L < 18446744073709551616) (hin : inB x L 2147483648 size = false) :
    Calls Try.prog 46 #[.pointer (some ⟨rb, 0, none⟩), .int .u64 (x : Nat), .int .u64 (L : Nat)] w fun e w' => e = .returned (.tuple #[.slice none 0 0, .bool false]) ∧ w' = w := by
  have H : Hid (inB x L 2147483648 size = false) := hin
  clear hin
  go_enter Try.func46, Try.ntmps46
  go_wp2_with (first | (go_at_call 55; refine (has_any h hs x L hx hL).mono ?_; rintro e w' ⟨rfl, rfl⟩; rw [H.out]))
  go_ret2
  exact ⟨rfl, rfl⟩
theorem whole_row {w : World} {base : Nat} {e : TypeId} {g n : Nat} {xs : List Value} (h : w.ownsRow base e 1 (.slice (some ⟨g, 0, none⟩) n n) n xs) : w.heap[g]? = some (.cells xs.toArray e (0, 0)) := by
  rcases h.2 with ⟨h1, _⟩ | ⟨g', cap, cur, hv, _, hg, _, _, hsz, htake⟩
  · cases h1
  · cases hv
    rw [hg, ← htake, List.take_of_length_le (by simp; omega)]
theorem row_owned {w : World} {base : Nat} {g n : Nat} {f : Nat → Nat} (hb : base ≤ g) (hn : n ≤ maxLen) (h : w.heap[g]? = some (.cells (rowK .u8 f n).toArray 5 (0, 0))) : w.ownsRow base 5 1 (.slice (some ⟨g, 0, none⟩) n n) n (rowK .u8 f n) :=
  ⟨by rw [rowK_length]; omega, .inr ⟨g, n, _, rfl, hb, h, Nat.le_refl _, hn, by rw [List.size_toArray, rowK_length]; omega, by simp only; rw [List.take_of_length_le (by rw [rowK_length]; omega)]⟩⟩
theorem read_in {w : World} {F : Nat → Prop} {rb size n : Nat} {M : Nat → Nat} (h : RamAt w F rb size n (.pointer none) M) (hs : size ≤ 268435456) (x L : Nat) (hx : x < 18446744073709551616) (hL : L < 18446744073709551616) (hin : inB x L 2147483648 size = true) :
    Calls Try.prog 46 #[.pointer (some ⟨rb, 0, none⟩), .int .u64 (x : Nat), .int .u64 (L : Nat)] w fun e w' => e = .returned (.tuple #[.slice (some ⟨w.heap.size, 0, none⟩) L L, .bool true]) ∧ w'.ownsRow w.heap.size 5 1 (.slice (some ⟨w.heap.size, 0, none⟩) L L) L (rowK .u8 (fun i => M (x + i)) L) ∧ Below w.heap.size w w' := by
  obtain ⟨i0, hi, hz0, hz1, hz2⟩ := info_parts Try.info5
  have hb : (2147483648 : Int) ≤ x ∧ (x : Int) + L ≤ 2147483648 + size := by simpa [inB] using hin
  have H : Hid (inB x L 2147483648 size = true) := hin
  clear hin
  go_enter Try.func46, Try.ntmps46
  go_wp2_with (first | (go_at_call 55; refine (has_any h hs x L hx hL).mono ?_; rintro e w' ⟨rfl, rfl⟩; rw [H.out]) | (at_make; refine wpList_make_full _ rfl _ _ 64 rfl w'.heap.size 5 i0 (.int .u8 0) 1 Try.underlying64 hi hz0 hz1 _ _ _ _ L rfl rfl ?m1 ?m2 ?m3 ?m4 ?m5 ?_))
  case m1 => rfl
  case m2 => rfl
  case m3 => rw [hz2]; omega
  case m4 => unfold maxLen; omega
  case m5 => omega
  · intro w1 hown0 hgrow0
    have hb0 : Below w'.heap.size w' w1 := Below.grown (Below.refl _ _) hgrow0 (Nat.le_refl _) (by simp)
    rw [toList_madeCells_one, rowK_zero] at hown0
    have hrow := whole_row hown0
    have X : Hid (_ ∧ _) := ⟨hrow, hb0⟩
    have hnew := hown0.lt w'.heap.size rfl
    clear hown0 hgrow0 hrow hb0
    go_wp2_with (first | (go_at_call 63; refine (get_any (h.below X.out.2) x L L w'.heap.size L 5 _ (.inr rfl) (Nat.le_refl _) (by omega) (fun hf => by have := h.lt _ hf; omega) X.out.1 (by omega)).mono ?_; rintro e w2 ⟨rfl, hr2, hs2⟩) | (go_at_call 64; refine (tellRead_nil ((h.below X.out.2).step hs2 (fun k hk e => by have := h.lt _ hk; omega)) _ L hL).mono ?_; rintro e w3 ⟨rfl, rfl⟩))
    go_ret2
    refine ⟨rfl, row_owned (Nat.le_refl _) (by unfold maxLen; omega) ?_, X.out.2.trans (hs2.below (by omega) (fun k hk => by omega))⟩
    rw [hr2, rowK_congr .u8 _ (fun i => M (x + i)) L]
    intro i hi
    rw [if_pos hi]
theorem eight_zero : (#[.int .u8 0, .int .u8 0, .int .u8 0, .int .u8 0, .int .u8 0, .int .u8 0, .int .u8 0, .int .u8 0] : Array Value) = (rowK .u8 (fun _ => 0) 8).toArray := by
  rw [← rowK_zero]; rfl
theorem reads_row {w : World} {g n N cap : Nat} {t : TypeId} {f : Nat → Nat} (h : w.heap[g]? = some (.cells (rowK .u8 f N).toArray t (0, 0))) (hn : n ≤ N) : Reads .u8 w (.slice (some ⟨g, 0, none⟩) n cap) n f :=
  .inr ⟨g, 0, cap, rfl, fun i hi => by simp only [World.cell?, h]; rw [List.getElem?_toArray, Nat.zero_add, rowK_get _ _ _ _ (by omega)]; rfl⟩
theorem h256_congr (f g : Nat → Nat) : ∀ (m i : Nat), (∀ j, j < m → f (i + j) = g (i + j)) → h256 f m i = h256 g m i
  | 0, _, _ => rfl
  | m + 1, i, h => by
    have h0 := h 0 (by omega)
    rw [h256, h256, h256_congr f g m (i + 1) (fun j hj => by have := h (j + 1) (by omega); rwa [show i + 1 + j = i + (j + 1) from by omega])]
    simp at h0
    rw [h0]
end Go.Proofs.Ytcgjfklglckjcaa
