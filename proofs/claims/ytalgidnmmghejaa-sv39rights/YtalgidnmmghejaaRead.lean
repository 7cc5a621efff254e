/- The calls Read and Load of layer 2. -/
import Derived.Test.YtalgidnmmghejaaRam
namespace Go.Proofs.Ytalgidnmmghejaa
open Go.RowKit Go.Maps
set_option linter.unusedVariables false
theorem whole_row {w : World} {base : Nat} {e : TypeId} {g n : Nat} {xs : List Value} (h : w.ownsRow base e 1 (.slice (some ⟨g, 0, none⟩) n n) n xs) : w.heap[g]? = some (.cells xs.toArray e (0, 0)) := by
  rcases h.2 with ⟨h1, _⟩ | ⟨g', cap, cur, hv, _, hg, _, _, hsz, htake⟩
  · cases h1
  · cases hv
    rw [hg, ← htake, List.take_of_length_le (by simp; omega)]
theorem row_owned {w : World} {base : Nat} {g n : Nat} {f : Nat → Nat} (hb : base ≤ g) (hn : n ≤ maxLen) (h : w.heap[g]? = some (.cells (rowK .u8 f n).toArray 5 (0, 0))) : w.ownsRow base 5 1 (.slice (some ⟨g, 0, none⟩) n n) n (rowK .u8 f n) :=
  ⟨by rw [rowK_length]; omega, .inr ⟨g, n, _, rfl, hb, h, Nat.le_refl _, hn, by rw [List.size_toArray, rowK_length]; omega, by simp only; rw [List.take_of_length_le (by rw [rowK_length]; omega)]⟩⟩
theorem load_no {w : World} {F : Nat → Prop} {rb size n : Nat} {lg : Value} {M : Nat → Nat} (h : RamAt w F rb size n lg M) (hs : size ≤ 268435456) (x : Nat) (k : Int) (hx : x < 18446744073709551616) (hno : (widB k && inB x k 2147483648 size) = false) :
    Calls Try.prog 34 #[.pointer (some ⟨rb, 0, none⟩), .int .u64 (x : Nat), .int .i64 k] w fun e w' => e = .returned (.tuple #[.int .u64 0, .bool false]) ∧ w' = w := by
  cases hw : widB k with
  | false =>
    have H : Hid (widB k = false) := hw
    clear hw hno
    go_enter Try.func34, Try.ntmps34
    go_wp2_with (first | (go_at_call 59; refine (width_any k _).mono ?_; rintro e w' ⟨rfl, rfl⟩; rw [H.out]))
    go_ret2
    exact ⟨rfl, rfl⟩
  | true =>
    have hk : k = 1 ∨ k = 2 ∨ k = 4 ∨ k = 8 := by simpa [widB] using hw
    obtain ⟨L, rfl⟩ : ∃ L : Nat, k = L := ⟨k.toNat, by omega⟩
    have hL : L ≤ 8 := by omega
    rw [hw, Bool.true_and] at hno
    have H : Hid (_ ∧ _) := ⟨hw, hno⟩
    clear hw hno hk
    go_enter Try.func34, Try.ntmps34
    go_wp2_with (first | (go_at_call 59; refine (width_any _ _).mono ?_; rintro e w' ⟨rfl, rfl⟩; rw [H.out.1]) | (go_at_call 67; refine (has_any h hs x L hx (by omega)).mono ?_; rintro e w' ⟨rfl, rfl⟩; rw [H.out.2]))
    go_ret2
    exact ⟨rfl, rfl⟩
theorem eight_zero : (#[.int .u8 0, .int .u8 0, .int .u8 0, .int .u8 0, .int .u8 0, .int .u8 0, .int .u8 0, .int .u8 0] : Array Value) = (rowK .u8 (fun _ => 0) 8).toArray := by
  rw [← rowK_zero]; rfl
theorem reads_row {w : World} {g n N cap : Nat} {t : TypeId} {f : Nat → Nat} (h : w.heap[g]? = some (.cells (rowK .u8 f N).toArray t (0, 0))) (hn : n ≤ N) : Reads .u8 w (.slice (some ⟨g, 0, none⟩) n cap) n f :=
  .inr ⟨g, 0, cap, rfl, fun i hi => by simp only [World.cell?, h]; rw [List.getElem?_toArray, Nat.zero_add, rowK_get _ _ _ _ (by omega)]; rfl⟩
theorem h256_congr (f g : Nat → Nat) : ∀ (m i : Nat), (∀ j, j < m → f (i + j) = g (i + j)) → h256 f m i = h256 g m i
  | 0, _, _ => rfl
  | m + 1, i, h => by
    have h0 := h 0 (by omega)
    rw [h256, h256, h256_congr f g m (i + 1) (fun j hj => by have := h (j + 1) (by omega); rwa [show i + 1 + j = i + (j + 1) from by omega])]
    simp at h0
    rw [h0]
set_option maxHeartbeats 400000 in
theorem load_yes {w : World} {F : Nat → Prop} {rb size n : Nat} {lg : Value} {M : Nat → Nat} (h : RamAt w F rb size n lg M) (hs : size ≤ 268435456) (x : Nat) (L : Nat) (hx : x < 18446744073709551616) (hw : widB L = true) (hin : inB x L 2147483648 size = true) :
    Calls Try.prog 34 #[.pointer (some ⟨rb, 0, none⟩), .int .u64 (x : Nat), .int .i64 (L : Nat)] w fun e w' => e = .returned (.tuple #[.int .u64 (h256 (fun i => M (x + i)) L 0 : Nat), .bool true]) ∧ Below w.heap.size w w' := by
  have hk : (L : Int) = 1 ∨ (L : Int) = 2 ∨ (L : Int) = 4 ∨ (L : Int) = 8 := by simpa [widB] using hw
  have hL : L ≤ 8 := by omega
  have hb : (2147483648 : Int) ≤ x ∧ (x : Int) + L ≤ 2147483648 + size := by simpa [inB] using hin
  have H : Hid (_ ∧ _) := ⟨hw, hin⟩
  clear hw hin hk
  have hle := h.le
  have hL2 : (L : Int) ≤ 8 := by omega
  have h8 : (8 : Nat) ≠ 0 := by omega
  have hrow : (w.alloc (.cells (rowK .u8 (fun _ => 0) 8).toArray 115)).heap[w.heap.size]? = some (.cells (rowK .u8 (fun _ => 0) 8).toArray 115 (0, 0)) := heap_alloc_new w _
  have hbel : Below w.heap.size w (w.alloc (.cells (rowK .u8 (fun _ => 0) 8).toArray 115)) := (Below.refl _ _).alloc (Nat.le_refl _) _
  have X : Hid (_ ∧ _) := ⟨hrow, hbel⟩
  clear hrow hbel
  go_enter Try.func34, Try.ntmps34
  go_wp2_with (first | (go_at_call 59; refine (width_any _ _).mono ?_; rintro e w' ⟨rfl, rfl⟩; rw [H.out.1]) | (go_at_call 67; refine (has_any h hs x L hx (by omega)).mono ?_; rintro e w' ⟨rfl, rfl⟩; rw [H.out.2]))
  rw [eight_zero]
  refine (get_any (h.below X.out.2) x L 8 w'.heap.size 8 115 _ (.inr rfl) hL (by omega) (fun hf => by have := h.lt _ hf; omega) X.out.1 (by omega)).mono ?_
  rintro e w2 ⟨rfl, hr2, hs2⟩
  have Y : Hid (_ ∧ _) := ⟨hr2, hs2⟩
  clear hr2 hs2
  go_wp2_with (first | (go_at_call 69; refine (of_any (fun i => if i < L then M (x + i) else 0) L L _ (by omega) (by omega) (fun i hi => by show (if i < L then M (x + i) else 0) ≤ 255; rw [if_pos hi]; exact hle _) _ (reads_row Y.out.1 hL)).mono ?_; rintro e w3 ⟨rfl, rfl⟩))
  go_ret2
  refine ⟨?_, X.out.2.trans (Y.out.2.below (by simp) (fun k hk => by omega))⟩
  rw [h256_congr _ (fun i => M (x + i)) L 0 (fun j hj => by rw [Nat.zero_add, if_pos hj])]
  rfl
end Go.Proofs.Ytalgidnmmghejaa
