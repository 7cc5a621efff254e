/- The calls of layer 1 on which layer 2 leans (Within, Aligned, Of, Bytes) and the document's answers to them come to the same plain numbers. -/
import Derived.Test.YtcgjfklglckjcaaRows
import Derived.WalkKit
import Derived.WalkSpells
import Derived.WalkLawsBesides
import Derived.OpenShut
import Derived.Deep.QuietTactic
import Derived.BigQuiet
import Derived.Outline
import Derived.Laws.Shifts
import Derived.Laws.BitsAllLaws
import Derived.Laws.Bits64b
namespace Go.Proofs.Ytcgjfklglckjcaa
open Go.RowKit
theorem ret_bool {a b : Bool} (h : a = b) : Ending.returned (.bool a) = .returned (.bool b) := by rw [h]
theorem ret_int {k : IntKind} {a b : Int} (h : a = b) : Ending.returned (.int k a) = .returned (.int k b) := by rw [h]
theorem wrap_u64 (x : Int) : IntKind.u64.wrap x = x % 18446744073709551616 := by simp [IntKind.wrap, IntKind.signed, IntKind.bits]
theorem grown_drewN {W w' : World} (h : Grown W w') (n : Nat) : Grown W (w'.drewN n) := h
/-- a piece lies in another one, by numbers that have no end -/
def inB (a n b s : Int) : Bool := decide (b ≤ a ∧ a + n ≤ b + s)
/-- one sum is less than another one, or, if so asked, alike -/
def lessB (a b c d : Int) (al : Bool) : Bool := decide (a + b < c + d ∨ al = true ∧ a + b = c + d)
theorem within_any (a n b s : Int) (ha : 0 ≤ a ∧ a ≤ 18446744073709551615) (hn : 0 ≤ n ∧ n ≤ 18446744073709551615) (hb : 0 ≤ b ∧ b ≤ 18446744073709551615) (hs : 0 ≤ s ∧ s ≤ 18446744073709551615) (w : World) :
    Calls Try.prog 65 #[.int .u64 a, .int .u64 n, .int .u64 b, .int .u64 s] w fun e w' => e = .returned (.bool (inB a n b s)) ∧ w' = w := by
  go_enter Try.func65, Try.ntmps65
  go_wp2
  all_goals (go_ret; exact ⟨ret_bool (by rw [Bool.eq_iff_iff]; simp [inB]; try omega), rfl⟩)
theorem sum_any (a b : Int) (ha : 0 ≤ a ∧ a ≤ 18446744073709551615) (hb : 0 ≤ b ∧ b ≤ 18446744073709551615) (w : World) :
    Calls Try.prog 74 #[.int .u64 a, .int .u64 b] w fun e w' => e = .returned (.tuple #[.bool (decide (18446744073709551615 < a + b)), .int .u64 (IntKind.u64.wrap (a + b))]) ∧ w' = w := by
  have h : decide (IntKind.u64.wrap (a + b) < a) = decide (18446744073709551615 < a + b) := by
    rw [wrap_u64, Bool.eq_iff_iff]; simp; omega
  have H : Hid (decide (IntKind.u64.wrap (a + b) < a) = decide (18446744073709551615 < a + b)) := h
  clear h
  go_enter Try.func74, Try.ntmps74
  go_wp2
  go_ret2
  exact ⟨by rw [H.out]; rfl, rfl⟩
theorem less_any (a b c d : Int) (al : Bool) (ha : 0 ≤ a ∧ a ≤ 18446744073709551615) (hb : 0 ≤ b ∧ b ≤ 18446744073709551615) (hc : 0 ≤ c ∧ c ≤ 18446744073709551615) (hd : 0 ≤ d ∧ d ≤ 18446744073709551615) (w : World) :
    Calls Try.prog 62 #[.int .u64 a, .int .u64 b, .int .u64 c, .int .u64 d, .bool al] w fun e w' => e = .returned (.bool (lessB a b c d al)) ∧ w' = w := by
  have e1 : (IntKind.u64.wrap (a + b) = a + b ∧ decide (18446744073709551615 < a + b) = false ∧ a + b ≤ 18446744073709551615) ∨ (IntKind.u64.wrap (a + b) = a + b - 18446744073709551616 ∧ decide (18446744073709551615 < a + b) = true ∧ 18446744073709551615 < a + b) := by
    rw [wrap_u64]; simp only [decide_eq_true_eq, decide_eq_false_iff_not]; omega
  have e2 : (IntKind.u64.wrap (c + d) = c + d ∧ decide (18446744073709551615 < c + d) = false ∧ c + d ≤ 18446744073709551615) ∨ (IntKind.u64.wrap (c + d) = c + d - 18446744073709551616 ∧ decide (18446744073709551615 < c + d) = true ∧ 18446744073709551615 < c + d) := by
    rw [wrap_u64]; simp only [decide_eq_true_eq, decide_eq_false_iff_not]; omega
  rcases e1 with ⟨e1, d1, c1⟩ | ⟨e1, d1, c1⟩ <;> rcases e2 with ⟨e2, d2, c2⟩ | ⟨e2, d2, c2⟩
  all_goals
    go_enter Try.func62, Try.ntmps62
    go_wp2_with (go_at_call 74; refine (sum_any _ _ (by omega) (by omega) _).mono ?_; rintro e w' ⟨rfl, rfl⟩)
    all_goals (go_ret; refine ⟨ret_bool ?_, rfl⟩; rw [Bool.eq_iff_iff]; simp [lessB, *]; try omega)
theorem rwithin_any (a n b s : Int) (ha : 0 ≤ a ∧ a ≤ 18446744073709551615) (hn : 0 ≤ n ∧ n ≤ 18446744073709551615) (hb : 0 ≤ b ∧ b ≤ 18446744073709551615) (hs : 0 ≤ s ∧ s ≤ 18446744073709551615) (w : World) :
    Calls Try.prog 43 #[.int .u64 a, .int .u64 n, .int .u64 b, .int .u64 s] w fun e w' => e = .returned (.bool (inB a n b s)) ∧ w' = w := by
  go_enter Try.func43, Try.ntmps43
  go_wp2_with (go_at_call 62; refine (less_any _ _ _ _ _ (by omega) (by omega) (by omega) (by omega) _).mono ?_; rintro e w' ⟨rfl, rfl⟩)
  all_goals (go_ret; refine ⟨ret_bool ?_, rfl⟩; rw [Bool.eq_iff_iff]; simp [inB, lessB]; try omega)

theorem grow_step {B : Nat} {w wr w1 : World} {o : Obj} {e : TypeId} {size n : Nat} {v : Value} {xs : List Value} (hb : Below B w wr) (hB : B ≤ wr.heap.size) (hown : wr.ownsRow B e size v n xs) (hg : (wr.alloc o).grownBy w1 v.ownBlock) : Below B w w1 :=
  Below.grown (hb.alloc hB o) hg (by simp; omega) (fun j hj => (hown.lt j hj).1)
theorem Try.info5 : (Try.prog.info? 5).map (fun i => (i.zero, i.size, i.bytes)) = some (some (.int .u8 0), 1, 1) := by kernel_rfl
/-- the first n numbers of a function, as cells of a kind -/
def rowK (k : IntKind) (f : Nat → Nat) (n : Nat) : List Value := (List.range n).map fun i => Value.int k ((f i : Nat) : Int)
theorem rowK_succ (k : IntKind) (f : Nat → Nat) (n : Nat) : rowK k f (n + 1) = rowK k f n ++ [Value.int k ((f n : Nat) : Int)] := by
  simp [rowK, List.range_succ]
theorem rowK_get (k : IntKind) (f : Nat → Nat) (n i : Nat) (h : i < n) : (rowK k f n)[i]? = some (Value.int k ((f i : Nat) : Int)) := by
  simp [rowK, h]
theorem rowK_congr (k : IntKind) (f g : Nat → Nat) (n : Nat) (h : ∀ i, i < n → f i = g i) : rowK k f n = rowK k g n := by
  unfold rowK
  apply List.map_congr_left
  intro i hi
  rw [h i (by simpa using hi)]
theorem rowK_zero (k : IntKind) (n : Nat) : List.replicate n (Value.int k 0) = rowK k (fun _ => 0) n := by
  apply List.ext_getElem?
  intro i
  by_cases h : i < n
  · simp [rowK, h]
  · simp [rowK, h]
theorem rowK_set (k : IntKind) (f : Nat → Nat) (n j b : Nat) : (rowK k f n).set j (Value.int k (b : Int)) = rowK k (fun i => if i = j then b else f i) n := by
  apply List.ext_getElem?
  intro i
  simp only [rowK, List.getElem?_set, List.getElem?_map, List.length_map, List.length_range]
  by_cases h : i < n
  · by_cases e : j = i
    · subst e; simp [h]
    · simp [h, e]; rw [if_neg (fun h' => e h'.symm)]
  · by_cases e : j = i
    · subst e; simp [h]
    · simp [h, e]
/-- byte i of a word -/
def byteAt (x i : Nat) : Nat := x / 256 ^ i % 256
theorem byteAt_le (x i : Nat) : byteAt x i ≤ 255 := by unfold byteAt; omega
theorem byteAt_high (x i : Nat) (hx : x < 18446744073709551616) (h : 8 ≤ i) : byteAt x i = 0 := by
  unfold byteAt
  have : 256 ^ 8 ≤ 256 ^ i := Nat.pow_le_pow_right (by omega) h
  rw [Nat.div_eq_of_lt (by omega)]
theorem pow_256 (i : Nat) : 256 ^ i = 2 ^ (8 * i) := by rw [Nat.pow_mul]
theorem byte_num (x k : Nat) : IntKind.u8.wrap ((x : Int) / 2 ^ (8 * k)) = ((byteAt x k : Nat) : Int) := by
  have : (x : Int) / 2 ^ (8 * k) = ((x / 2 ^ (8 * k) : Nat) : Int) := by simp
  rw [this]
  unfold byteAt
  rw [pow_256]
  simp [IntKind.wrap, IntKind.signed, IntKind.bits]
/-- a word's bytes, those below k -/
def upF (x k : Nat) (i : Nat) : Nat := if i < k then byteAt x i else 0
theorem upF_succ (x k : Nat) : upF x (k + 1) = fun i => if i = k then byteAt x k else upF x k i := by
  funext i
  unfold upF
  by_cases e : i = k
  · subst e; simp
  · simp only [e, if_false]
    by_cases h : i < k
    · rw [if_pos h, if_pos (by omega)]
    · rw [if_neg h, if_neg (by omega)]
theorem upF_done (x L : Nat) (hx : x < 18446744073709551616) : rowK .u8 (upF x (min L 8)) L = rowK .u8 (byteAt x) L := by
  apply rowK_congr
  intro i hi
  unfold upF
  by_cases h : i < min L 8
  · rw [if_pos h]
  · rw [if_neg h, byteAt_high x i hx (by omega)]
set_option maxHeartbeats 400000 in
theorem bytes_any (x : Nat) (n : Int) (L : Nat) (hx : x < 18446744073709551616) (hL : L = (min n 4096).toNat) (w : World) :
    Calls Try.prog 54 #[.int .u64 (x : Int), .int .i64 n] w fun e w' => ∃ v, e = .returned v ∧ w'.ownsRow w.heap.size 5 1 v L (rowK .u8 (byteAt x) L) ∧ Below w.heap.size w w' := by
  obtain ⟨i0, hi, hz0, hz1, hz2⟩ := info_parts Try.info5
  have hL1 : L ≤ 4096 := by omega
  obtain ⟨mm, hmin⟩ : ∃ mm, (if 4096 < n then (4096 : Int) else n) = mm := ⟨_, rfl⟩
  have hmax : (if 0 < mm then mm else 0) = (L : Int) := by rw [hL, ← hmin]; split <;> split <;> omega
  clear hL
  obtain ⟨m, hm⟩ : ∃ m, m = min L 8 := ⟨_, rfl⟩
  have hm8 : (if (8 : Int) < (L : Int) then (8 : Int) else (L : Int)) = (m : Int) := by rw [hm]; split <;> omega
  have HM : Hid (m = min L 8) := hm
  clear hm
  go_enter Try.func54, Try.ntmps54
  go_wp2_with (first | (at_make; refine wpList_make_full _ rfl _ _ 64 rfl w.heap.size 5 i0 (.int .u8 0) 1 Try.underlying64 hi hz0 hz1 _ _ _ _ L rfl rfl ?m1 ?m2 ?m3 ?m4 ?m5 ?_))
  case m1 => rfl
  case m2 => rfl
  case m3 => rw [hz2]; omega
  case m4 => unfold maxLen; omega
  case m5 => omega
  · intro w1 hown0 hgrow0
    have hb0 : Below w.heap.size w w1 := Below.grown (Below.refl _ _) hgrow0 (Nat.le_refl _) (by simp)
    rw [toList_madeCells_one, rowK_zero, show (fun _ => 0) = upF x 0 from by funext i; simp [upF]] at hown0
    have X : Hid (_ ∧ _) := ⟨hown0, hb0⟩
    clear hown0 hgrow0 hb0
    go_wp2
    go_loopw [6, 14] (fun _ i wr => ∃ k : Nat, k ≤ m ∧ i = .int .i64 k ∧ wr.ownsRow w.heap.size 5 1 (.slice (some ⟨w.heap.size, 0, none⟩) L L) L (rowK .u8 (upF x k) L) ∧ Below w.heap.size w wr)
      (fun _ i _ => 8 - (intOf i).toNat)
    case atStart => exact ⟨0, by omega, rfl, X.out.1, X.out.2⟩
    case round =>
      obtain ⟨k, hk, rfl, hown, hb⟩ := hrel
      by_cases hlt : k < m
      · have hk8 : k < 8 ∧ k < L := by have := HM.out; omega
        have hc2 : wr.cell? ⟨w.heap.size, k, none⟩ = some (.int .u8 (upF x k k : Nat)) := by rw [hown.cellAt k (by omega), rowK_get _ _ _ _ (by omega)]
        have hfz := hown.frozenAt k
        have hown2 := hown.stored k (.int .u8 (byteAt x k : Nat))
        rw [rowK_set, ← upF_succ x k] at hown2
        have hb2 := hb.setCell (p := ⟨w.heap.size, k, none⟩) (Nat.le_refl _) (.int .u8 (byteAt x k : Nat))
        have et : (8 * (k : Int)).toNat = 8 * k := by omega
        have hnum := byte_num x k
        have hA : Hid (_ ∧ _) := ⟨hown2.1, hb2⟩
        clear hown2 hb2 hown hb
        go_wp2
        go_roundw
        case rel => exact ⟨k + 1, by omega, by go_num, hA.out.1, hA.out.2⟩
        case measure => simp [intOf]; omega
      · obtain rfl : k = m := by omega
        have hown3 := hown
        rw [HM.out, upF_done x L hx] at hown3
        go_wp2
        go_ret
        exact ⟨_, rfl, hown3, hb⟩
/-- what is known of a slice of n numbers that is read -/
def Reads (k : IntKind) (w : World) (v : Value) (n : Nat) (f : Nat → Nat) : Prop :=
  (n = 0 ∧ ∃ a cap, v = .slice a 0 cap) ∨ ∃ b off cap, v = .slice (some ⟨b, off, none⟩) n cap ∧ ∀ i, i < n → w.cell? ⟨b, off + i, none⟩ = some (.int k (f i : Nat))
theorem reads_own {k : IntKind} {w : World} {base : Nat} {e : TypeId} {v : Value} {n : Nat} {f : Nat → Nat} (h : w.ownsRow base e 1 v n (rowK k f n)) : Reads k w v n f := by
  rcases h.2 with ⟨rfl, rfl⟩ | ⟨g, cap, cur, rfl, _⟩
  · exact .inl ⟨rfl, _, _, rfl⟩
  · exact .inr ⟨g, 0, cap, rfl, fun i hi => by rw [Nat.zero_add, h.cellAt i (by omega)]; exact rowK_get _ _ _ _ hi⟩
/-- the number whose digits in base 256 are m numbers of a function, from the one at i on -/
def h256 (f : Nat → Nat) : Nat → Nat → Nat
  | 0, _ => 0
  | m + 1, i => h256 f m (i + 1) * 256 + f i
theorem h256_lt (f : Nat → Nat) : ∀ (m i : Nat), (∀ j, j < m → f (i + j) ≤ 255) → h256 f m i < 256 ^ m
  | 0, _, _ => by simp [h256]
  | m + 1, i, h => by
    have h1 := h256_lt f m (i + 1) (fun j hj => by have := h (j + 1) (by omega); rwa [show i + 1 + j = i + (j + 1) from by omega])
    have h0 := h 0 (by omega)
    simp only [h256, Nat.pow_succ] at *
    simp at h0
    omega
theorem h256_snoc (f : Nat → Nat) : ∀ (m i : Nat), h256 f (m + 1) i = h256 f m i + f (i + m) * 256 ^ m
  | 0, i => by simp [h256]
  | m + 1, i => by
    have h1 := h256_snoc f m (i + 1)
    rw [h256, h1, h256, show i + 1 + m = i + (m + 1) from by omega, Nat.pow_succ]
    rw [Nat.add_mul, Nat.mul_assoc]
    omega
theorem h256_byteAt (x : Nat) : ∀ m, h256 (byteAt x) m 0 = x % 256 ^ m
  | 0 => by simp [h256, Nat.mod_one]
  | m + 1 => by
    rw [h256_snoc, h256_byteAt x m, Nat.zero_add, Nat.pow_succ, Nat.mod_mul]
    unfold byteAt
    rw [Nat.mul_comm (256 ^ m)]
theorem or_num (f : Nat → Nat) (k : Nat) (hk : k < 8) (hf : ∀ i, i ≤ k → f i ≤ 255) :
    bits .or .u64 (h256 f k 0 : Nat) (IntKind.u64.wrap ((f k : Int) * 2 ^ (8 * k))) = ((h256 f (k + 1) 0 : Nat) : Int) := by
  have hl := h256_lt f k 0 (fun j hj => by rw [Nat.zero_add]; exact hf j (by omega))
  have hfk := hf k (Nat.le_refl _)
  have hp : 256 ^ k ≤ 256 ^ 7 := Nat.pow_le_pow_right (by omega) (by omega)
  have hmul : f k * 2 ^ (8 * k) < 18446744073709551616 := by
    rw [← pow_256]
    calc f k * 256 ^ k ≤ 255 * 256 ^ 7 := Nat.mul_le_mul hfk hp
      _ < _ := by decide
  have e : IntKind.u64.wrap ((f k : Int) * 2 ^ (8 * k)) = ((f k * 2 ^ (8 * k) : Nat) : Int) := by
    have : (f k : Int) * 2 ^ (8 * k) = ((f k * 2 ^ (8 * k) : Nat) : Int) := by simp
    rw [wrap_u64, this]
    omega
  rw [e, bits_or_u64_nat _ _ (by omega) hmul, h256_snoc, Nat.zero_add]
  rw [pow_256] at hl ⊢
  rw [Nat.or_comm, Nat.mul_comm (f k), ← Nat.two_pow_add_eq_or_of_lt hl, Nat.add_comm]
set_option maxHeartbeats 400000 in
theorem of_any (f : Nat → Nat) (n m : Nat) (v : Value) (hn : n ≤ 4096) (hm : m = min n 8) (hf : ∀ i, i < n → f i ≤ 255) (w : World) (hr : Reads .u8 w v n f) :
    Calls Try.prog 70 #[v] w fun e w' => e = .returned (.int .u64 (h256 f m 0 : Nat)) ∧ w' = w := by
  have hm8 : (if (8 : Int) < (n : Int) then (8 : Int) else (n : Int)) = (m : Int) := by rw [hm]; split <;> omega
  have HM : Hid (m = min n 8) := hm
  clear hm
  rcases hr with ⟨rfl, a, cap, rfl⟩ | ⟨b, off, cap, rfl, hcell⟩
  · obtain rfl : m = 0 := by have := HM.out; omega
    go_enter Try.func70, Try.ntmps70
    go_wp2
    go_loop [3, 4, 8] (fun x _ i => x = .int .u64 0 ∧ i = .int .i64 0) (fun _ _ _ => 0)
    case atStart => exact ⟨rfl, rfl⟩
    case round =>
      obtain ⟨rfl, rfl⟩ := hrel
      go_wp2
      go_ret
      exact ⟨by simp [h256], rfl⟩
  · go_enter Try.func70, Try.ntmps70
    go_wp2
    go_loop [3, 4, 8] (fun x _ i => ∃ k : Nat, k ≤ m ∧ i = .int .i64 k ∧ x = .int .u64 (h256 f k 0 : Nat)) (fun _ _ i => 8 - (intOf i).toNat)
    case atStart => exact ⟨0, by omega, rfl, rfl⟩
    case round =>
      obtain ⟨k, hk, rfl, rfl⟩ := hrel
      by_cases hlt : k < m
      · have hk8 : k < 8 ∧ k < n := by have := HM.out; omega
        have hc := hcell k hk8.2
        have hor := or_num f k hk8.1 (fun i hi => hf i (by omega))
        have hfk := hf k hk8.2
        have et : (8 * (k : Int)).toNat = 8 * k := by omega
        have HS : Hid (((h256 f (k + 1) 0 : Nat) : Int) = ((h256 f (k + 1) 0 : Nat) : Int)) := rfl
        clear hcell hf
        go_wp2
        go_round
        case rel => exact ⟨k + 1, by omega, by go_num, rfl⟩
        case measure => simp [intOf]; omega
      · obtain rfl : k = m := by omega
        go_wp2
        go_ret
        exact ⟨rfl, rfl⟩
set_option maxHeartbeats 400000 in
theorem rof_any (f : Nat → Nat) (n m : Nat) (v : Value) (hn : n ≤ 4096) (hm : m = min n 8) (hf : ∀ i, i < n → f i ≤ 255) (w : World) (hr : Reads .u8 w v n f) :
    Calls Try.prog 76 #[v] w fun e w' => e = .returned (.int .u64 (h256 f m 0 : Nat)) ∧ w' = w := by
  have hm8 : (if (8 : Int) < (n : Int) then (8 : Int) else (n : Int)) = (m : Int) := by rw [hm]; split <;> omega
  have hmn : m ≤ 8 ∧ m ≤ n := by omega
  clear hm
  rcases hr with ⟨rfl, a, cap, rfl⟩ | ⟨b, off, cap, rfl, hcell⟩
  · obtain rfl : m = 0 := by omega
    go_enter Try.func76, Try.ntmps76
    go_wp2
    go_loop [3, 4] (fun x i => x = .int .u64 0 ∧ i = .int .i64 (-1)) (fun _ _ => 0)
    case atStart => exact ⟨rfl, rfl⟩
    case round =>
      obtain ⟨rfl, rfl⟩ := hrel
      go_wp2
      go_ret
      exact ⟨by simp [h256], rfl⟩
  · go_enter Try.func76, Try.ntmps76
    go_wp2
    go_loop [3, 4] (fun x i => ∃ k : Nat, k ≤ m ∧ i = .int .i64 ((k : Int) - 1) ∧ x = .int .u64 (h256 f (m - k) k : Nat)) (fun _ i => (intOf i + 1).toNat)
    case atStart => exact ⟨m, Nat.le_refl _, rfl, by simp [h256]⟩
    case round =>
      obtain ⟨k, hk, rfl, rfl⟩ := hrel
      by_cases hlt : 0 < k
      · obtain ⟨j, rfl⟩ : ∃ j, k = j + 1 := ⟨k - 1, by omega⟩
        have e : ((j + 1 : Nat) : Int) - 1 = (j : Int) := by omega
        rw [e]
        have hl := h256_lt f (m - (j + 1)) (j + 1) (fun i hi => hf _ (by omega))
        have hl2 : 256 ^ (m - (j + 1)) ≤ 256 ^ 7 := Nat.pow_le_pow_right (by omega) (by omega)
        have HE : Hid (h256 f (m - j) j = h256 f (m - (j + 1)) (j + 1) * 256 + f j) := by
          show h256 f (m - j) j = _
          rw [show m - j = m - (j + 1) + 1 from by omega]; rfl
        have hfj := hf j (by omega)
        have hc := hcell j (by omega)
        clear hcell hf e
        generalize hH : h256 f (m - (j + 1)) (j + 1) = h at *
        have hlt2 : h < 72057594037927936 := by simp at hl2; omega
        clear hl hl2 hH
        generalize hF : f j = b at *
        have HF : Hid (f j = b) := hF
        clear hF
        have hjn : (j : Int) < n := by omega
        go_wp2
        go_round
        case rel => exact ⟨j, by omega, by go_num, by rw [HE.out]; go_num⟩
        case measure => simp [intOf]
      · obtain rfl : k = 0 := by omega
        go_wp2
        go_ret
        exact ⟨rfl, rfl⟩
/-- what is known of a slice of integers that came in: it is nil; or it leads to a row of cells, its elements the first of them -/
def IsRow (k : IntKind) (w : World) (a : Option Addr) (len cap : Nat) (zs : List Int) : Prop :=
  (a = none ∧ len = 0 ∧ cap = 0 ∧ zs = []) ∨
  ∃ x, a = some x ∧ len ≤ cap ∧ cap ≤ maxLen ∧ zs.length = cap ∧ (∀ i, i < zs.length → w.cell? (x.add i) = some (.int k (zs.getD i 0))) ∧ ∀ n ∈ zs, (Lit.int k n).wf = true
theorem isRow_reads {w : World} {a : Option Addr} {len cap : Nat} {zs : List Int} (h : IsRow .u8 w a len cap zs) : ∃ f : Nat → Nat, (∀ i, f i ≤ 255) ∧ Reads .u8 w (.slice a len cap) len f := by
  have hr : ∀ j : Nat, 0 ≤ zs[j]?.getD 0 ∧ zs[j]?.getD 0 ≤ 255 := by
    rcases h with ⟨_, _, _, rfl⟩ | ⟨x, _, _, _, _, _, hw⟩
    · simp
    · exact range_u8 hw
  refine ⟨fun i => (zs[i]?.getD 0).toNat, fun i => by have := hr i; show (zs[i]?.getD 0).toNat ≤ 255; omega, ?_⟩
  rcases h with ⟨rfl, rfl, rfl, rfl⟩ | ⟨x, rfl, hlc, hcm, hz, hc, hw⟩
  · exact .inl ⟨rfl, _, _, rfl⟩
  · by_cases h0 : len = 0
    · subst h0; exact .inl ⟨rfl, _, _, rfl⟩
    · obtain ⟨b, off, rfl, hcell⟩ := ints_at hc (by omega)
      refine .inr ⟨b, off, cap, rfl, fun i hi => ?_⟩
      rw [hcell i (by omega)]
      have := hr i
      simp only [List.getD_eq_getElem?_getD]
      congr 2
      omega
theorem reads_below {k : IntKind} {w w' : World} {v : Value} {n : Nat} {f : Nat → Nat} (h : Reads k w v n f) (hb : Below w.heap.size w w') : Reads k w' v n f := by
  rcases h with h | ⟨b, off, cap, hv, hc⟩
  · exact .inl h
  · exact .inr ⟨b, off, cap, hv, fun i hi => by rw [hb.cell (p := ⟨b, off + i, none⟩) (block_lt_of_cell (hc i hi))]; exact hc i hi⟩
theorem reads_some {k : IntKind} {w : World} {v : Value} {n : Nat} {f : Nat → Nat} (h : Reads k w v n f) (hn : 0 < n) : ∃ b off cap, v = .slice (some ⟨b, off, none⟩) n cap ∧ ∀ i, i < n → w.cell? ⟨b, off + i, none⟩ = some (.int k (f i : Nat)) := by
  rcases h with ⟨h, _⟩ | h
  · omega
  · exact h
theorem reads_form {k : IntKind} {w : World} {v : Value} {n : Nat} {f : Nat → Nat} (h : Reads k w v n f) : ∃ a cap, v = .slice a n cap := by
  rcases h with ⟨rfl, a, cap, rfl⟩ | ⟨b, off, cap, rfl, _⟩
  · exact ⟨_, _, rfl⟩
  · exact ⟨_, _, rfl⟩
theorem h256_word (x : Nat) (hx : x < 18446744073709551616) : h256 (byteAt x) 8 0 = x := by rw [h256_byteAt]; omega

theorem aligned_zero (a : Int) (w : World) : Calls Try.prog 52 #[.int .u64 a, .int .u64 0] w fun e w' => e = .returned (.bool true) ∧ w' = w := by
  go_enter Try.func52, Try.ntmps52
  go_wp2
  go_ret
  exact ⟨rfl, rfl⟩
theorem aligned_pos (a b : Int) (ha : 0 ≤ a) (hb : 0 < b) (w : World) : Calls Try.prog 52 #[.int .u64 a, .int .u64 b] w fun e w' => e = .returned (.bool (a % b == 0)) ∧ w' = w := by
  have h : (b == 0) = false := by simp; omega
  go_enter Try.func52, Try.ntmps52
  go_wp2
  go_ret
  exact ⟨rfl, rfl⟩

end Go.Proofs.Ytcgjfklglckjcaa
