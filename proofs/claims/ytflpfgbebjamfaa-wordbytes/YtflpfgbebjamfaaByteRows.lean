/- Rows of bytes: the calls Bytes of layer 1 and of the document's answer lay a word's bytes in a new row. -/
import Derived.Test.YtflpfgbebjamfaaCode
namespace Go.Proofs.Ytflpfgbebjamfaa
open Go.RowKit
theorem Try.info5 : (Try.prog.info? 5).map (fun i => (i.zero, i.size, i.bytes)) = some (some (.int .u8 0), 1, 1) := by kernel_rfl
/-- the first n numbers of a function, as cells of a kind -/
def rowK (k : IntKind) (f : Nat → Nat) (n : Nat) : List Value := (List.range n).map fun i => Value.int k ((f i : Nat) : Int)
theorem rowK_succ (k : IntKind) (f : Nat → Nat) (n : Nat) : rowK k f (n + 1) = rowK k f n ++ [Value.int k ((f n : Nat) : Int)] := by
  simp [rowK, List.range_succ]
theorem rowK_get (k : IntKind) (f : Nat → Nat) (n i : Nat) (h : i < n) : (rowK k f n)[i]? = some (Value.int k ((f i : Nat) : Int)) := by
  simp [rowK, h]
theorem rowK_congr (k : IntKind) (f g : Nat → Nat) (n : Nat) (h : ∀ i, i < n → f i = g i) : rowK k f n = rowK k g n := by
  unfold rowK
  apply List.map_congr_left
  intro i hi
  rw [h i (by simpa using hi)]
theorem rowK_zero (k : IntKind) (n : Nat) : List.replicate n (Value.int k 0) = rowK k (fun _ => 0) n := by
  apply List.ext_getElem?
  intro i
  by_cases h : i < n
  · simp [rowK, h]
  · simp [rowK, h]
theorem rowK_set (k : IntKind) (f : Nat → Nat) (n j b : Nat) : (rowK k f n).set j (Value.int k (b : Int)) = rowK k (fun i => if i = j then b else f i) n := by
  apply List.ext_getElem?
  intro i
  simp only [rowK, List.getElem?_set, List.getElem?_map, List.length_map, List.length_range]
  by_cases h : i < n
  · by_cases e : j = i
    · subst e; simp [h]
    · simp [h, e]; rw [if_neg (fun h' => e h'.symm)]
  · by_cases e : j = i
    · subst e; simp [h]
    · simp [h, e]
/-- byte i of a word -/
def byteAt (x i : Nat) : Nat := x / 256 ^ i % 256
theorem byteAt_le (x i : Nat) : byteAt x i ≤ 255 := by unfold byteAt; omega
theorem byteAt_high (x i : Nat) (hx : x < 18446744073709551616) (h : 8 ≤ i) : byteAt x i = 0 := by
  unfold byteAt
  have : 256 ^ 8 ≤ 256 ^ i := Nat.pow_le_pow_right (by omega) h
  rw [Nat.div_eq_of_lt (by omega)]
theorem pow_256 (i : Nat) : 256 ^ i = 2 ^ (8 * i) := by rw [Nat.pow_mul]
theorem byte_num (x k : Nat) : IntKind.u8.wrap ((x : Int) / 2 ^ (8 * k)) = ((byteAt x k : Nat) : Int) := by
  have : (x : Int) / 2 ^ (8 * k) = ((x / 2 ^ (8 * k) : Nat) : Int) := by simp
  rw [this]
  unfold byteAt
  rw [pow_256]
  simp [IntKind.wrap, IntKind.signed, IntKind.bits]
set_option maxHeartbeats 400000 in
theorem rbytes_any (x : Nat) (n : Int) (L : Nat) (hx : x < 18446744073709551616) (hL : L = (min n 4096).toNat) (w : World) :
    Calls Try.prog 20 #[.int .u64 (x : Int), .int .i64 n] w fun e w' => ∃ v, e = .returned v ∧ w'.ownsRow w.heap.size 5 1 v L (rowK .u8 (byteAt x) L) ∧ Below w.heap.size w w' := by
  obtain ⟨i0, hi, hz0, hz1, hz2⟩ := info_parts Try.info5
  have hL1 : L ≤ 4096 := by omega
  have HL : Hid (L = (min n 4096).toNat) := hL
  clear hL
  go_enter Try.func20, Try.ntmps20
  go_wp2
  go_loopw [0, 5, 6] (fun x0 v i wr => ∃ k : Nat, k ≤ L ∧ i = .int .i64 k ∧ x0 = .int .u64 ((x / 256 ^ k : Nat) : Int) ∧ wr.ownsRow w.heap.size 5 1 v k (rowK .u8 (byteAt x) k) ∧ Below w.heap.size w wr)
    (fun _ _ i _ => 4096 - (intOf i).toNat)
  case atStart => exact ⟨0, by omega, rfl, by simp, World.ownsRow_nil _ _ _ _, Below.refl _ _⟩
  case round =>
    obtain ⟨k, hk, rfl, rfl, hown, hb⟩ := hrel
    by_cases hlt : k < L
    · have hl1 : (k : Int) < n := by have := HL.out; omega
      have hl2 : (k : Int) < 4096 := by omega
      have hy : x / 256 ^ k < 18446744073709551616 := Nat.lt_of_le_of_lt (Nat.div_le_self _ _) hx
      have HS : Hid (x / 256 ^ (k + 1) = x / 256 ^ k / 256) := by show x / 256 ^ (k + 1) = x / 256 ^ k / 256; rw [Nat.pow_succ, Nat.div_div_eq_div_mul]
      have hr := rowK_succ .u8 (byteAt x) k
      rw [show byteAt x k = x / 256 ^ k % 256 from rfl] at hr
      have HR : Hid _ := hr
      clear hr
      generalize hY : x / 256 ^ k = y at *
      have HY : Hid (x / 256 ^ k = y) := hY
      clear hY
      go_wp2_with (first | (at_builtin; refine wpList_append_own _ rfl _ _ 33 rfl w.heap.size 5 i0 (.int .u8 0) 1 1 Try.underlying33 hi hz0 hz1 hz2 rfl (by decide) _ _ _ rfl (hown.alloc _) ⟨wr.heap.size, 0, none⟩ 1 1 _ rfl rfl (cell_one_new _ _ _) ?c2 ?c3 ?c4 ?c5 ?_))
      case c2 => intro u hu; simp at hu; subst hu; rfl
      case c3 => unfold maxLen; omega
      case c4 => omega
      case c5 => have := hb.size; simp; omega
      · intro v' w1 hown' hgrow _
        have hb1 := grow_step hb hb.size hown hgrow
        have hown2 : w1.ownsRow w.heap.size 5 1 v' (k + 1) (rowK .u8 (byteAt x) (k + 1)) := by rw [HR.out]; exact hown'
        clear hown' hgrow hown hb
        go_wp2
        go_roundw
        case rel => exact ⟨k + 1, by omega, by go_num, by rw [HS.out]; go_num, hown2, hb1⟩
        case measure => simp [intOf]; omega
    · obtain rfl : k = L := by omega
      by_cases hl1 : (k : Int) < n
      · have hl2 : ¬ (k : Int) < 4096 := by have := HL.out; omega
        go_wp2
        go_ret
        exact ⟨_, rfl, hown, hb⟩
      · go_wp2
        go_ret
        exact ⟨_, rfl, hown, hb⟩
/-- a word's bytes, those below k -/
def upF (x k : Nat) (i : Nat) : Nat := if i < k then byteAt x i else 0
theorem upF_succ (x k : Nat) : upF x (k + 1) = fun i => if i = k then byteAt x k else upF x k i := by
  funext i
  unfold upF
  by_cases e : i = k
  · subst e; simp
  · simp only [e, if_false]
    by_cases h : i < k
    · rw [if_pos h, if_pos (by omega)]
    · rw [if_neg h, if_neg (by omega)]
theorem upF_done (x L : Nat) (hx : x < 18446744073709551616) : rowK .u8 (upF x (min L 8)) L = rowK .u8 (byteAt x) L := by
  apply rowK_congr
  intro i hi
  unfold upF
  by_cases h : i < min L 8
  · rw [if_pos h]
  · rw [if_neg h, byteAt_high x i hx (by omega)]
set_option maxHeartbeats 400000 in
theorem bytes_any (x : Nat) (n : Int) (L : Nat) (hx : x < 18446744073709551616) (hL : L = (min n 4096).toNat) (w : World) :
    Calls Try.prog 19 #[.int .u64 (x : Int), .int .i64 n] w fun e w' => ∃ v, e = .returned v ∧ w'.ownsRow w.heap.size 5 1 v L (rowK .u8 (byteAt x) L) ∧ Below w.heap.size w w' := by
  obtain ⟨i0, hi, hz0, hz1, hz2⟩ := info_parts Try.info5
  have hL1 : L ≤ 4096 := by omega
  obtain ⟨mm, hmin⟩ : ∃ mm, (if 4096 < n then (4096 : Int) else n) = mm := ⟨_, rfl⟩
  have hmax : (if 0 < mm then mm else 0) = (L : Int) := by rw [hL, ← hmin]; split <;> split <;> omega
  clear hL
  obtain ⟨m, hm⟩ : ∃ m, m = min L 8 := ⟨_, rfl⟩
  have hm8 : (if (8 : Int) < (L : Int) then (8 : Int) else (L : Int)) = (m : Int) := by rw [hm]; split <;> omega
  have HM : Hid (m = min L 8) := hm
  clear hm
  go_enter Try.func19, Try.ntmps19
  go_wp2_with (first | (at_make; refine wpList_make_full _ rfl _ _ 33 rfl w.heap.size 5 i0 (.int .u8 0) 1 Try.underlying33 hi hz0 hz1 _ _ _ _ L rfl rfl ?m1 ?m2 ?m3 ?m4 ?m5 ?_))
  case m1 => rfl
  case m2 => rfl
  case m3 => rw [hz2]; omega
  case m4 => unfold maxLen; omega
  case m5 => omega
  · intro w1 hown0 hgrow0
    have hb0 : Below w.heap.size w w1 := Below.grown (Below.refl _ _) hgrow0 (Nat.le_refl _) (by simp)
    rw [toList_madeCells_one, rowK_zero, show (fun _ => 0) = upF x 0 from by funext i; simp [upF]] at hown0
    have X : Hid (_ ∧ _) := ⟨hown0, hb0⟩
    clear hown0 hgrow0 hb0
    go_wp2
    go_loopw [6, 14] (fun _ i wr => ∃ k : Nat, k ≤ m ∧ i = .int .i64 k ∧ wr.ownsRow w.heap.size 5 1 (.slice (some ⟨w.heap.size, 0, none⟩) L L) L (rowK .u8 (upF x k) L) ∧ Below w.heap.size w wr)
      (fun _ i _ => 8 - (intOf i).toNat)
    case atStart => exact ⟨0, by omega, rfl, X.out.1, X.out.2⟩
    case round =>
      obtain ⟨k, hk, rfl, hown, hb⟩ := hrel
      by_cases hlt : k < m
      · have hk8 : k < 8 ∧ k < L := by have := HM.out; omega
        have hc2 : wr.cell? ⟨w.heap.size, k, none⟩ = some (.int .u8 (upF x k k : Nat)) := by rw [hown.cellAt k (by omega), rowK_get _ _ _ _ (by omega)]
        have hfz := hown.frozenAt k
        have hown2 := hown.stored k (.int .u8 (byteAt x k : Nat))
        rw [rowK_set, ← upF_succ x k] at hown2
        have hb2 := hb.setCell (p := ⟨w.heap.size, k, none⟩) (Nat.le_refl _) (.int .u8 (byteAt x k : Nat))
        have et : (8 * (k : Int)).toNat = 8 * k := by omega
        have hnum := byte_num x k
        have hA : Hid (_ ∧ _) := ⟨hown2.1, hb2⟩
        clear hown2 hb2 hown hb
        go_wp2
        go_roundw
        case rel => exact ⟨k + 1, by omega, by go_num, hA.out.1, hA.out.2⟩
        case measure => simp [intOf]; omega
      · obtain rfl : k = m := by omega
        have hown3 := hown
        rw [HM.out, upF_done x L hx] at hown3
        go_wp2
        go_ret
        exact ⟨_, rfl, hown3, hb⟩
end Go.Proofs.Ytflpfgbebjamfaa
