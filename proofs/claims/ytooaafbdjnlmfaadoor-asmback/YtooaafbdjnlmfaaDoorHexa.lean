/- The library call FormatUint at base 16 writes a word by its digits. -/
import Derived.Test.YtooaafbdjnlmfaaDoorText
import Derived.Deep.OwnRows
import Derived.Laws.IdiomStrings
import Derived.Laws.BitsAllLaws
import Derived.Outline
namespace Go.Proofs.YtooaafbdjnlmfaaDoor
open Go.RowKit Go.Deep
theorem tz_16 (w : World) (hc : w.cell? ⟨8, 15, none⟩ = some (.int .u8 4)) : Calls Tryd.prog 98 #[.int .u64 16] w fun e w' => e = .returned (.int .i64 4) ∧ w' = w := by
  have k1 : IntKind.u64.wrap (-16) = 18446744073709551600 := by decide +kernel
  have k2 : bits .and .u64 16 18446744073709551600 = 16 := by decide +kernel
  go_enter Tryd.func98, Tryd.ntmps98
  go_wp2
  go_ret
  exact ⟨rfl, rfl⟩
theorem pow_16 (w : World) : Calls Tryd.prog 97 #[.int .i64 16] w fun e w' => e = .returned (.bool true) ∧ w' = w := by
  have k1 : bits .and .i64 16 15 = 0 := by decide +kernel
  go_enter Tryd.func97, Tryd.ntmps97
  go_wp2
  go_ret
  exact ⟨rfl, rfl⟩
def zeros65 : Array Value := Array.replicate 65 (.int .u8 0)
theorem zero125 (w : World) : (zeroValue 125).run Tryd.prog w = .ok (.agg zeros65) w := by kernel_rfl
theorem dtext_eq (b : Nat) (hb : 2 ≤ b) : ∀ (k f x : Nat), k < f → (∀ j, j < k → b ≤ x / b ^ j) → x / b ^ k < b → dtext b f x = (List.range (k + 1)).map fun t => dch (x / b ^ (k - t) % b)
  | 0, 0, _, h, _, _ => by omega
  | 0, f + 1, x, _, _, hl => by
    have hl2 : x < b := by simpa using hl
    rw [dtext, if_pos hl2]
    simp [Nat.mod_eq_of_lt hl2]
  | k + 1, 0, _, h, _, _ => by omega
  | k + 1, f + 1, x, h, hj, hl => by
    have h0 := hj 0 (by omega)
    simp at h0
    have hd : ∀ j, x / b / b ^ j = x / b ^ (j + 1) := fun j => by rw [Nat.div_div_eq_div_mul, Nat.pow_succ, Nat.mul_comm]
    rw [dtext, if_neg (by omega), dtext_eq b hb k f (x / b) (by omega) (fun j hjk => by rw [hd]; exact hj (j + 1) (by omega)) (by rw [hd]; exact hl), List.range_succ (n := k + 1), List.map_append]
    congr 1
    · apply List.map_congr_left
      intro t ht
      have ht2 : t < k + 1 := by simpa using ht
      rw [hd, show k - t + 1 = k + 1 - t from by omega]
    · simp
/-- the place j of the row behind k digits -/
def hexF (x k j : Nat) : Value := .int .u8 ((if 65 - k ≤ j then (dch (x / 16 ^ (64 - j) % 16)).toNat else 0 : Nat) : Int)
theorem hexF_step (x k j : Nat) (hk : k ≤ 15) (hj : j < 65) : (if j = 64 - k then Value.int .u8 ((dch (x / 16 ^ k % 16)).toNat : Int) else hexF x k j) = hexF x (k + 1) j := by
  unfold hexF
  by_cases e : j = 64 - k
  · subst e
    rw [if_pos rfl, if_pos (by omega), show 64 - (64 - k) = k from by omega]
  · rw [if_neg e]
    by_cases h : 65 - k ≤ j
    · rw [if_pos h, if_pos (by omega)]
    · rw [if_neg h, if_neg (by omega)]
theorem digs_fin : ∀ d : Fin 16, ((⟨#[48, 49, 50, 51, 52, 53, 54, 55, 56, 57, 97, 98, 99, 100, 101, 102, 103, 104, 105, 106, 107, 108, 109, 110, 111, 112, 113, 114, 115, 116, 117, 118, 119, 120, 121, 122]⟩ : ByteArray)[d.val]'(by have := d.isLt; show d.val < 36; omega)) = dch d.val := by decide +kernel
theorem digs_at (d : Nat) (h : d < (⟨#[48, 49, 50, 51, 52, 53, 54, 55, 56, 57, 97, 98, 99, 100, 101, 102, 103, 104, 105, 106, 107, 108, 109, 110, 111, 112, 113, 114, 115, 116, 117, 118, 119, 120, 121, 122]⟩ : ByteArray).size) (h16 : d < 16) :
    (⟨#[48, 49, 50, 51, 52, 53, 54, 55, 56, 57, 97, 98, 99, 100, 101, 102, 103, 104, 105, 106, 107, 108, 109, 110, 111, 112, 113, 114, 115, 116, 117, 118, 119, 120, 121, 122]⟩ : ByteArray)[d] = dch d := digs_fin ⟨d, h16⟩
theorem and_15 (y : Nat) (h : y < 18446744073709551616) : bits .and .u64 (y : Int) 15 = ((y % 16 : Nat) : Int) := by
  have := bits_and_u64_nat y 15 h (by omega)
  rw [show y &&& 15 = y % 16 from Nat.and_two_pow_sub_one_eq_mod y 4] at this
  exact this
theorem slice_hex (g k : Nat) (hk : k ≤ 15) (W : World) : (Instr.sliceAt 125 (.pointer (some ⟨g, 0, none⟩)) (some (.int .i64 ((64 - k : Nat) : Int))) none none).run Tryd.prog W = .ok (.slice (some ⟨g, 64 - k, none⟩) (k + 1) (k + 1)) W := by
  have hal : Tryd.prog.arrayLen 125 = 65 := by kernel_rfl
  rw [run_sliceAt_array_l (P := Tryd.prog) W 125 ⟨g, 0, none⟩ (by kernel_rfl) .i64 ((64 - k : Nat) : Int) (by omega) (by rw [hal]; omega), hal]
  go_simp
  omega
theorem conv_hex (x k g : Nat) (hk : k ≤ 15) (W : World) (hr : W.rowIs g 125 65 (hexF x (k + 1))) (hl : dtext 16 16 x = (List.range (k + 1)).map fun t => dch (x / 16 ^ (k - t) % 16)) :
    (convert 52 9 (.slice (some ⟨g, 64 - k, none⟩) (k + 1) (k + 1))).run Tryd.prog W = .ok (.string ⟨(dtext 16 16 x).toArray⟩) W := by
  have hlen : (dtext 16 16 x).length = k + 1 := by rw [hl]; simp
  have h := run_convert_bytes_back (P := Tryd.prog) W 52 9 5 ⟨g, 64 - k, none⟩ (k + 1) (dtext 16 16 x) Tryd.underlying52 Tryd.underlying5 Tryd.underlying9 (fun j hj => by
    rw [Go.WideShapes.add_plain, hr.cell (by omega)]
    unfold hexF
    rw [if_pos (by omega)]
    simp only [hl, List.getElem_map, List.getElem_range]
    rw [show 64 - (64 - k + j) = k - j from by omega])
  rw [hlen] at h
  exact h
set_option maxRecDepth 100000 in
set_option maxHeartbeats 1000000 in
theorem fb_16 (x : Nat) (hx : x < 18446744073709551616) (w : World) (hc : w.cell? ⟨8, 15, none⟩ = some (.int .u8 4)) :
    Calls Tryd.prog 88 #[.slice none 0 0, .int .u64 (x : Int), .int .i64 16, .bool false, .bool false] w fun e w' => e = .returned (.tuple #[.slice none 0 0, .string ⟨(dtext 16 16 x).toArray⟩]) ∧ Below w.heap.size w w' := by
  have hz := zero125
  have hn : 8 < w.heap.size := block_lt_of_cell hc
  have hc1 : (w.alloc (.cells zeros65 125)).cell? ⟨8, 15, none⟩ = some (.int .u8 4) := by rw [World.cell?_alloc_past _ _ _ hn]; exact hc
  have hrow0 : (w.alloc (.cells zeros65 125)).rowIs w.heap.size 125 65 (hexF x 0) := World.rowIs_alloc w zeros65 125 (hexF x 0) (fun i hi => by
    have hi2 : i < 65 := by simpa [zeros65] using hi
    unfold hexF zeros65
    rw [if_neg (by omega)]
    simp [hi2])
  have hb0 : Below w.heap.size w (w.alloc (.cells zeros65 125)) := (Below.refl _ _).alloc (Nat.le_refl _) _
  have X : Hid (_ ∧ _) := ⟨hrow0, hb0⟩
  clear hrow0 hb0
  go_enter Tryd.func88, Tryd.ntmps88
  go_wp2_with (first | (go_at_call 97; refine (pow_16 _).mono ?_; rintro e w' ⟨rfl, rfl⟩) | (go_at_call 98; refine (tz_16 _ hc1).mono ?_; rintro e w' ⟨rfl, hw1⟩; rw [hw1]))
  clear hc1 hc
  go_loopw [1, 13] (fun u i wr => ∃ k : Nat, k ≤ 15 ∧ u = .int .u64 ((x / 16 ^ k : Nat) : Int) ∧ i = .int .i64 ((65 - k : Nat) : Int) ∧ wr.rowIs w.heap.size 125 65 (hexF x k) ∧ Below w.heap.size w wr ∧ Hid (∀ j, j < k → 16 ≤ x / 16 ^ j))
    (fun u _ _ => (intOf u).toNat)
  case atStart => exact ⟨0, by omega, by simp, rfl, X.out.1, X.out.2, fun j hj => by omega⟩
  case round =>
    obtain ⟨k, hk, rfl, rfl, hrow, hb, HJ⟩ := hrel
    have hy : x / 16 ^ k < 18446744073709551616 := Nat.lt_of_le_of_lt (Nat.div_le_self _ _) hx
    have hand := and_15 (x / 16 ^ k) hy
    have e64 : 65 - k - 1 = 64 - k := by omega
    have hc2 := hrow.cell (i := 64 - k) (by omega)
    have hf2 := hrow.frozen (64 - k)
    have hset := (hrow.set (64 - k) (.int .u8 ((dch (x / 16 ^ k % 16)).toNat : Int))).congr (fun j hj => hexF_step x k j hk hj)
    have hbs := hb.setCell (p := ⟨w.heap.size, 64 - k, none⟩) (Nat.le_refl _) (.int .u8 ((dch (x / 16 ^ k % 16)).toNat : Int))
    have Y : Hid (_ ∧ _) := ⟨hset, hbs⟩
    have hdd : x / 16 ^ (k + 1) = x / 16 ^ k / 16 := by rw [Nat.pow_succ, Nat.div_div_eq_div_mul]
    have HD : Hid (x / 16 ^ (k + 1) = x / 16 ^ k / 16) := hdd
    have HK : Hid (16 ≤ x / 16 ^ k → k < 15) := by
      intro h
      refine Nat.lt_of_not_le fun h15 => ?_
      have hk15 : k = 15 := by omega
      subst hk15
      have : x / 16 ^ 15 < 16 := Nat.div_lt_of_lt_mul (by simpa using hx)
      omega
    have e1 : ((65 - k : Nat) : Int) - 1 = ((64 - k : Nat) : Int) := by omega
    have et : (((65 - k : Nat) : Int) - 1).toNat = 64 - k := by omega
    have HT : Hid (x / 16 ^ k < 16 → dtext 16 16 x = (List.range (k + 1)).map fun t => dch (x / 16 ^ (k - t) % 16)) := fun h => dtext_eq 16 (by omega) k 16 x (by omega) HJ.out h
    have HJ2 : Hid (16 ≤ x / 16 ^ k → ∀ j, j < k + 1 → 16 ≤ x / 16 ^ j) := fun h j hj => by
      by_cases e : j = k
      · subst e; exact h
      · exact HJ.out j (by omega)
    clear hset hbs hrow hb hdd X
    generalize hY : x / 16 ^ k = y at *
    have HY : Hid (x / 16 ^ k = y) := hY
    clear hY
    by_cases hlt : 16 ≤ y
    · have hk2 := HK.out hlt
      go_wp2
      go_roundw
      case rel =>
        refine ⟨k + 1, by omega, by rw [HD.out]; go_num, by rw [show 65 - (k + 1) = 64 - k from by omega], ?_, ?_, HJ2.out hlt⟩
        · rw [digs_at _ _ (by omega)]; exact Y.out.1
        · rw [digs_at _ _ (by omega)]; exact Y.out.2
      case measure => simp [intOf]; omega
    · have hy16 : y % 16 = y := by omega
      have hl := HT.out (by omega)
      have hdig := digs_at y (by show y < 36; omega) (by omega)
      rw [hy16] at Y
      have hsl := fun W => slice_hex w.heap.size k hk W
      have hcv := conv_hex x k w.heap.size hk _ Y.out.1 hl
      have HYb : Hid (Below w.heap.size w (wr.setCell ⟨w.heap.size, 64 - k, none⟩ (.int .u8 ((dch y).toNat : Int)))) := Y.out.2
      clear hl
      go_wp2
      go_ret2
      exact ⟨rfl, HYb.out⟩
set_option maxHeartbeats 400000 in
theorem fu_16 (x : Nat) (hx : x < 18446744073709551616) (w : World) (hc : w.cell? ⟨8, 15, none⟩ = some (.int .u8 4)) :
    Calls Tryd.prog 80 #[.int .u64 (x : Int), .int .i64 16] w fun e w' => e = .returned (.string ⟨(dtext 16 16 x).toArray⟩) ∧ Below w.heap.size w w' := by
  go_enter Tryd.func80, Tryd.ntmps80
  go_wp2_with (go_at_call 88; refine (fb_16 x hx _ hc).mono ?_; rintro e w' ⟨rfl, hb⟩)
  go_ret
  exact ⟨rfl, hb⟩
theorem sfu_16 (x : Nat) (hx : x < 18446744073709551616) (w : World) (hc : w.cell? ⟨8, 15, none⟩ = some (.int .u8 4)) :
    Calls Tryd.prog 68 #[.int .u64 (x : Int), .int .i64 16] w fun e w' => e = .returned (.string ⟨(dtext 16 16 x).toArray⟩) ∧ Below w.heap.size w w' := by
  go_enter Tryd.func68, Tryd.ntmps68
  go_wp2_with (go_at_call 80; refine (fu_16 x hx _ hc).mono ?_; rintro e w' ⟨rfl, hb⟩)
  go_ret
  exact ⟨rfl, hb⟩
/-- a word's text in base 16 -/
def hexS (x : Nat) : ByteArray := ⟨#[48, 120]⟩ ++ ⟨(dtext 16 16 x).toArray⟩
theorem hex_any (x : Nat) (hx : x < 18446744073709551616) (w : World) (hc : w.cell? ⟨8, 15, none⟩ = some (.int .u8 4)) :
    Calls Tryd.prog 54 #[.int .u64 (x : Int)] w fun e w' => e = .returned (.string (hexS x)) ∧ Below w.heap.size w w' := by
  have hlen := dtext_len 16 16 x
  rw [← size_mk] at hlen
  have HE : Hid (hexS x = ⟨#[48, 120]⟩ ++ ⟨(dtext 16 16 x).toArray⟩) := rfl
  have hcall := fun w h => sfu_16 x hx w h
  generalize hexS x = T at *
  generalize (⟨(dtext 16 16 x).toArray⟩ : ByteArray) = t at *
  go_enter Tryd.func54, Tryd.ntmps54
  go_wp2_with (go_at_call 68; refine (hcall _ hc).mono ?_; rintro e w' ⟨rfl, hb⟩)
  go_ret
  exact ⟨by rw [HE.out]; rfl, hb⟩
end Go.Proofs.YtooaafbdjnlmfaaDoor
