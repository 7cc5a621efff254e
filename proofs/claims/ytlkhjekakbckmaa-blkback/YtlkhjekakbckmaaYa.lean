/- Texts put together. -/
import Derived.Test.YtlkhjekakbckmaaRows
import Derived.WalkKit
import Derived.WalkSpells
import Derived.WalkLawsBesides
import Derived.OpenShut
import Derived.Deep.QuietTactic
import Derived.BigQuiet
import Derived.Outline
import Derived.Laws.Shifts
import Derived.Laws.BitsAllLaws
import Derived.Laws.Bits64b
import Derived.Maps.OwnSet
import Derived.Maps.RangeWalk
import Derived.Laws.CopyOwn
import Derived.Deep.RegionLaw
import Derived.BigRegion
import Derived.Deep.AppendSrc
import Derived.Deep.RegionHeld3
import Derived.ProofKit
import Derived.Deep.Slices
import Derived.Deep.DeepCutAuto
/- The calls of layer 1 on which layer 2 leans (Within, Aligned, Of, Bytes) and the document's answers to them come to the same plain numbers. -/
namespace Go.Proofs.Ytlkhjekakbckmaa
open Go.RowKit
theorem ret_bool {a b : Bool} (h : a = b) : Ending.returned (.bool a) = .returned (.bool b) := by rw [h]
theorem ret_int {k : IntKind} {a b : Int} (h : a = b) : Ending.returned (.int k a) = .returned (.int k b) := by rw [h]
theorem wrap_u64 (x : Int) : IntKind.u64.wrap x = x % 18446744073709551616 := by simp [IntKind.wrap, IntKind.signed, IntKind.bits]
theorem grown_drewN {W w' : World} (h : Grown W w') (n : Nat) : Grown W (w'.drewN n) := h
/-- a piece lies in another one, by numbers that have no end -/
def inB (a n b s : Int) : Bool := decide (b ≤ a ∧ a + n ≤ b + s)
/-- one sum is less than another one, or, if so asked, alike -/
def lessB (a b c d : Int) (al : Bool) : Bool := decide (a + b < c + d ∨ al = true ∧ a + b = c + d)
theorem within_any (a n b s : Int) (ha : 0 ≤ a ∧ a ≤ 18446744073709551615) (hn : 0 ≤ n ∧ n ≤ 18446744073709551615) (hb : 0 ≤ b ∧ b ≤ 18446744073709551615) (hs : 0 ≤ s ∧ s ≤ 18446744073709551615) (w : World) :
    Calls Try.prog 94 #[.int .u64 a, .int .u64 n, .int .u64 b, .int .u64 s] w fun e w' => e = .returned (.bool (inB a n b s)) ∧ w' = w := by
  go_enter Try.func94, Try.ntmps94
  go_wp2
  all_goals (go_ret; exact ⟨ret_bool (by rw [Bool.eq_iff_iff]; simp [inB]; try omega), rfl⟩)
theorem sum_any (a b : Int) (ha : 0 ≤ a ∧ a ≤ 18446744073709551615) (hb : 0 ≤ b ∧ b ≤ 18446744073709551615) (w : World) :
    Calls Try.prog 136 #[.int .u64 a, .int .u64 b] w fun e w' => e = .returned (.tuple #[.bool (decide (18446744073709551615 < a + b)), .int .u64 (IntKind.u64.wrap (a + b))]) ∧ w' = w := by
  have h : decide (IntKind.u64.wrap (a + b) < a) = decide (18446744073709551615 < a + b) := by
    rw [wrap_u64, Bool.eq_iff_iff]; simp; omega
  have H : Hid (decide (IntKind.u64.wrap (a + b) < a) = decide (18446744073709551615 < a + b)) := h
  clear h
  go_enter Try.func136, Try.ntmps136
  go_wp2
  go_ret2
  exact ⟨by rw [H.out]; rfl, rfl⟩
theorem less_any (a b c d : Int) (al : Bool) (ha : 0 ≤ a ∧ a ≤ 18446744073709551615) (hb : 0 ≤ b ∧ b ≤ 18446744073709551615) (hc : 0 ≤ c ∧ c ≤ 18446744073709551615) (hd : 0 ≤ d ∧ d ≤ 18446744073709551615) (w : World) :
    Calls Try.prog 119 #[.int .u64 a, .int .u64 b, .int .u64 c, .int .u64 d, .bool al] w fun e w' => e = .returned (.bool (lessB a b c d al)) ∧ w' = w := by
  have e1 : (IntKind.u64.wrap (a + b) = a + b ∧ decide (18446744073709551615 < a + b) = false ∧ a + b ≤ 18446744073709551615) ∨ (IntKind.u64.wrap (a + b) = a + b - 18446744073709551616 ∧ decide (18446744073709551615 < a + b) = true ∧ 18446744073709551615 < a + b) := by
    rw [wrap_u64]; simp only [decide_eq_true_eq, decide_eq_false_iff_not]; omega
  have e2 : (IntKind.u64.wrap (c + d) = c + d ∧ decide (18446744073709551615 < c + d) = false ∧ c + d ≤ 18446744073709551615) ∨ (IntKind.u64.wrap (c + d) = c + d - 18446744073709551616 ∧ decide (18446744073709551615 < c + d) = true ∧ 18446744073709551615 < c + d) := by
    rw [wrap_u64]; simp only [decide_eq_true_eq, decide_eq_false_iff_not]; omega
  rcases e1 with ⟨e1, d1, c1⟩ | ⟨e1, d1, c1⟩ <;> rcases e2 with ⟨e2, d2, c2⟩ | ⟨e2, d2, c2⟩
  all_goals
    go_enter Try.func119, Try.ntmps119
    go_wp2_with (go_at_call 136; refine (sum_any _ _ (by omega) (by omega) _).mono ?_; rintro e w' ⟨rfl, rfl⟩)
    all_goals (go_ret; refine ⟨ret_bool ?_, rfl⟩; rw [Bool.eq_iff_iff]; simp [lessB, *]; try omega)
theorem rwithin_any (a n b s : Int) (ha : 0 ≤ a ∧ a ≤ 18446744073709551615) (hn : 0 ≤ n ∧ n ≤ 18446744073709551615) (hb : 0 ≤ b ∧ b ≤ 18446744073709551615) (hs : 0 ≤ s ∧ s ≤ 18446744073709551615) (w : World) :
    Calls Try.prog 84 #[.int .u64 a, .int .u64 n, .int .u64 b, .int .u64 s] w fun e w' => e = .returned (.bool (inB a n b s)) ∧ w' = w := by
  go_enter Try.func84, Try.ntmps84
  go_wp2_with (go_at_call 119; refine (less_any _ _ _ _ _ (by omega) (by omega) (by omega) (by omega) _).mono ?_; rintro e w' ⟨rfl, rfl⟩)
  all_goals (go_ret; refine ⟨ret_bool ?_, rfl⟩; rw [Bool.eq_iff_iff]; simp [inB, lessB]; try omega)

theorem grow_step {B : Nat} {w wr w1 : World} {o : Obj} {e : TypeId} {size n : Nat} {v : Value} {xs : List Value} (hb : Below B w wr) (hB : B ≤ wr.heap.size) (hown : wr.ownsRow B e size v n xs) (hg : (wr.alloc o).grownBy w1 v.ownBlock) : Below B w w1 :=
  Below.grown (hb.alloc hB o) hg (by simp; omega) (fun j hj => (hown.lt j hj).1)
theorem Try.info5 : (Try.prog.info? 5).map (fun i => (i.zero, i.size, i.bytes)) = some (some (.int .u8 0), 1, 1) := by kernel_rfl
/-- the first n numbers of a function, as cells of a kind -/
def rowK (k : IntKind) (f : Nat → Nat) (n : Nat) : List Value := (List.range n).map fun i => Value.int k ((f i : Nat) : Int)
theorem rowK_succ (k : IntKind) (f : Nat → Nat) (n : Nat) : rowK k f (n + 1) = rowK k f n ++ [Value.int k ((f n : Nat) : Int)] := by
  simp [rowK, List.range_succ]
theorem rowK_get (k : IntKind) (f : Nat → Nat) (n i : Nat) (h : i < n) : (rowK k f n)[i]? = some (Value.int k ((f i : Nat) : Int)) := by
  simp [rowK, h]
theorem rowK_congr (k : IntKind) (f g : Nat → Nat) (n : Nat) (h : ∀ i, i < n → f i = g i) : rowK k f n = rowK k g n := by
  unfold rowK
  apply List.map_congr_left
  intro i hi
  rw [h i (by simpa using hi)]
theorem rowK_zero (k : IntKind) (n : Nat) : List.replicate n (Value.int k 0) = rowK k (fun _ => 0) n := by
  apply List.ext_getElem?
  intro i
  by_cases h : i < n
  · simp [rowK, h]
  · simp [rowK, h]
theorem rowK_set (k : IntKind) (f : Nat → Nat) (n j b : Nat) : (rowK k f n).set j (Value.int k (b : Int)) = rowK k (fun i => if i = j then b else f i) n := by
  apply List.ext_getElem?
  intro i
  simp only [rowK, List.getElem?_set, List.getElem?_map, List.length_map, List.length_range]
  by_cases h : i < n
  · by_cases e : j = i
    · subst e; simp [h]
    · simp [h, e]; rw [if_neg (fun h' => e h'.symm)]
  · by_cases e : j = i
    · subst e; simp [h]
    · simp [h, e]
/-- byte i of a word -/
def byteAt (x i : Nat) : Nat := x / 256 ^ i % 256
theorem byteAt_le (x i : Nat) : byteAt x i ≤ 255 := by unfold byteAt; omega
theorem byteAt_high (x i : Nat) (hx : x < 18446744073709551616) (h : 8 ≤ i) : byteAt x i = 0 := by
  unfold byteAt
  have : 256 ^ 8 ≤ 256 ^ i := Nat.pow_le_pow_right (by omega) h
  rw [Nat.div_eq_of_lt (by omega)]
theorem pow_256 (i : Nat) : 256 ^ i = 2 ^ (8 * i) := by rw [Nat.pow_mul]
theorem byte_num (x k : Nat) : IntKind.u8.wrap ((x : Int) / 2 ^ (8 * k)) = ((byteAt x k : Nat) : Int) := by
  have : (x : Int) / 2 ^ (8 * k) = ((x / 2 ^ (8 * k) : Nat) : Int) := by simp
  rw [this]
  unfold byteAt
  rw [pow_256]
  simp [IntKind.wrap, IntKind.signed, IntKind.bits]
set_option maxHeartbeats 400000 in
theorem rbytes_any (x : Nat) (n : Int) (L : Nat) (hx : x < 18446744073709551616) (hL : L = (min n 4096).toNat) (w : World) :
    Calls Try.prog 68 #[.int .u64 (x : Int), .int .i64 n] w fun e w' => ∃ v, e = .returned v ∧ w'.ownsRow w.heap.size 5 1 v L (rowK .u8 (byteAt x) L) ∧ Below w.heap.size w w' := by
  obtain ⟨i0, hi, hz0, hz1, hz2⟩ := info_parts Try.info5
  have hL1 : L ≤ 4096 := by omega
  have HL : Hid (L = (min n 4096).toNat) := hL
  clear hL
  go_enter Try.func68, Try.ntmps68
  go_wp2
  go_loopw [0, 5, 6] (fun x0 v i wr => ∃ k : Nat, k ≤ L ∧ i = .int .i64 k ∧ x0 = .int .u64 ((x / 256 ^ k : Nat) : Int) ∧ wr.ownsRow w.heap.size 5 1 v k (rowK .u8 (byteAt x) k) ∧ Below w.heap.size w wr)
    (fun _ _ i _ => 4096 - (intOf i).toNat)
  case atStart => exact ⟨0, by omega, rfl, by simp, World.ownsRow_nil _ _ _ _, Below.refl _ _⟩
  case round =>
    obtain ⟨k, hk, rfl, rfl, hown, hb⟩ := hrel
    by_cases hlt : k < L
    · have hl1 : (k : Int) < n := by have := HL.out; omega
      have hl2 : (k : Int) < 4096 := by omega
      have hy : x / 256 ^ k < 18446744073709551616 := Nat.lt_of_le_of_lt (Nat.div_le_self _ _) hx
      have HS : Hid (x / 256 ^ (k + 1) = x / 256 ^ k / 256) := by show x / 256 ^ (k + 1) = x / 256 ^ k / 256; rw [Nat.pow_succ, Nat.div_div_eq_div_mul]
      have hr := rowK_succ .u8 (byteAt x) k
      rw [show byteAt x k = x / 256 ^ k % 256 from rfl] at hr
      have HR : Hid _ := hr
      clear hr
      generalize hY : x / 256 ^ k = y at *
      have HY : Hid (x / 256 ^ k = y) := hY
      clear hY
      go_wp2_with (first | (at_builtin; refine wpList_append_own _ rfl _ _ 22 rfl w.heap.size 5 i0 (.int .u8 0) 1 1 Try.underlying22 hi hz0 hz1 hz2 rfl (by decide) _ _ _ rfl (hown.alloc _) ⟨wr.heap.size, 0, none⟩ 1 1 _ rfl rfl (cell_one_new _ _ _) ?c2 ?c3 ?c4 ?c5 ?_))
      case c2 => intro u hu; simp at hu; subst hu; rfl
      case c3 => unfold maxLen; omega
      case c4 => omega
      case c5 => have := hb.size; simp; omega
      · intro v' w1 hown' hgrow _
        have hb1 := grow_step hb hb.size hown hgrow
        have hown2 : w1.ownsRow w.heap.size 5 1 v' (k + 1) (rowK .u8 (byteAt x) (k + 1)) := by rw [HR.out]; exact hown'
        clear hown' hgrow hown hb
        go_wp2
        go_roundw
        case rel => exact ⟨k + 1, by omega, by go_num, by rw [HS.out]; go_num, hown2, hb1⟩
        case measure => simp [intOf]; omega
    · obtain rfl : k = L := by omega
      by_cases hl1 : (k : Int) < n
      · have hl2 : ¬ (k : Int) < 4096 := by have := HL.out; omega
        go_wp2
        go_ret
        exact ⟨_, rfl, hown, hb⟩
      · go_wp2
        go_ret
        exact ⟨_, rfl, hown, hb⟩
/-- a word's bytes, those below k -/
def upF (x k : Nat) (i : Nat) : Nat := if i < k then byteAt x i else 0
theorem upF_succ (x k : Nat) : upF x (k + 1) = fun i => if i = k then byteAt x k else upF x k i := by
  funext i
  unfold upF
  by_cases e : i = k
  · subst e; simp
  · simp only [e, if_false]
    by_cases h : i < k
    · rw [if_pos h, if_pos (by omega)]
    · rw [if_neg h, if_neg (by omega)]
theorem upF_done (x L : Nat) (hx : x < 18446744073709551616) : rowK .u8 (upF x (min L 8)) L = rowK .u8 (byteAt x) L := by
  apply rowK_congr
  intro i hi
  unfold upF
  by_cases h : i < min L 8
  · rw [if_pos h]
  · rw [if_neg h, byteAt_high x i hx (by omega)]
set_option maxHeartbeats 400000 in
theorem bytes_any (x : Nat) (n : Int) (L : Nat) (hx : x < 18446744073709551616) (hL : L = (min n 4096).toNat) (w : World) :
    Calls Try.prog 48 #[.int .u64 (x : Int), .int .i64 n] w fun e w' => ∃ v, e = .returned v ∧ w'.ownsRow w.heap.size 5 1 v L (rowK .u8 (byteAt x) L) ∧ Below w.heap.size w w' := by
  obtain ⟨i0, hi, hz0, hz1, hz2⟩ := info_parts Try.info5
  have hL1 : L ≤ 4096 := by omega
  obtain ⟨mm, hmin⟩ : ∃ mm, (if 4096 < n then (4096 : Int) else n) = mm := ⟨_, rfl⟩
  have hmax : (if 0 < mm then mm else 0) = (L : Int) := by rw [hL, ← hmin]; split <;> split <;> omega
  clear hL
  obtain ⟨m, hm⟩ : ∃ m, m = min L 8 := ⟨_, rfl⟩
  have hm8 : (if (8 : Int) < (L : Int) then (8 : Int) else (L : Int)) = (m : Int) := by rw [hm]; split <;> omega
  have HM : Hid (m = min L 8) := hm
  clear hm
  go_enter Try.func48, Try.ntmps48
  go_wp2_with (first | (at_make; refine wpList_make_full _ rfl _ _ 22 rfl w.heap.size 5 i0 (.int .u8 0) 1 Try.underlying22 hi hz0 hz1 _ _ _ _ L rfl rfl ?m1 ?m2 ?m3 ?m4 ?m5 ?_))
  case m1 => rfl
  case m2 => rfl
  case m3 => rw [hz2]; omega
  case m4 => unfold maxLen; omega
  case m5 => omega
  · intro w1 hown0 hgrow0
    have hb0 : Below w.heap.size w w1 := Below.grown (Below.refl _ _) hgrow0 (Nat.le_refl _) (by simp)
    rw [toList_madeCells_one, rowK_zero, show (fun _ => 0) = upF x 0 from by funext i; simp [upF]] at hown0
    have X : Hid (_ ∧ _) := ⟨hown0, hb0⟩
    clear hown0 hgrow0 hb0
    go_wp2
    go_loopw [6, 14] (fun _ i wr => ∃ k : Nat, k ≤ m ∧ i = .int .i64 k ∧ wr.ownsRow w.heap.size 5 1 (.slice (some ⟨w.heap.size, 0, none⟩) L L) L (rowK .u8 (upF x k) L) ∧ Below w.heap.size w wr)
      (fun _ i _ => 8 - (intOf i).toNat)
    case atStart => exact ⟨0, by omega, rfl, X.out.1, X.out.2⟩
    case round =>
      obtain ⟨k, hk, rfl, hown, hb⟩ := hrel
      by_cases hlt : k < m
      · have hk8 : k < 8 ∧ k < L := by have := HM.out; omega
        have hc2 : wr.cell? ⟨w.heap.size, k, none⟩ = some (.int .u8 (upF x k k : Nat)) := by rw [hown.cellAt k (by omega), rowK_get _ _ _ _ (by omega)]
        have hfz := hown.frozenAt k
        have hown2 := hown.stored k (.int .u8 (byteAt x k : Nat))
        rw [rowK_set, ← upF_succ x k] at hown2
        have hb2 := hb.setCell (p := ⟨w.heap.size, k, none⟩) (Nat.le_refl _) (.int .u8 (byteAt x k : Nat))
        have et : (8 * (k : Int)).toNat = 8 * k := by omega
        have hnum := byte_num x k
        have hA : Hid (_ ∧ _) := ⟨hown2.1, hb2⟩
        clear hown2 hb2 hown hb
        go_wp2
        go_roundw
        case rel => exact ⟨k + 1, by omega, by go_num, hA.out.1, hA.out.2⟩
        case measure => simp [intOf]; omega
      · obtain rfl : k = m := by omega
        have hown3 := hown
        rw [HM.out, upF_done x L hx] at hown3
        go_wp2
        go_ret
        exact ⟨_, rfl, hown3, hb⟩
/-- what is known of a slice of n numbers that is read -/
def Reads (k : IntKind) (w : World) (v : Value) (n : Nat) (f : Nat → Nat) : Prop :=
  (n = 0 ∧ ∃ a cap, v = .slice a 0 cap) ∨ ∃ b off cap, v = .slice (some ⟨b, off, none⟩) n cap ∧ ∀ i, i < n → w.cell? ⟨b, off + i, none⟩ = some (.int k (f i : Nat))
theorem reads_own {k : IntKind} {w : World} {base : Nat} {e : TypeId} {v : Value} {n : Nat} {f : Nat → Nat} (h : w.ownsRow base e 1 v n (rowK k f n)) : Reads k w v n f := by
  rcases h.2 with ⟨rfl, rfl⟩ | ⟨g, cap, cur, rfl, _⟩
  · exact .inl ⟨rfl, _, _, rfl⟩
  · exact .inr ⟨g, 0, cap, rfl, fun i hi => by rw [Nat.zero_add, h.cellAt i (by omega)]; exact rowK_get _ _ _ _ hi⟩
/-- the number whose digits in base 256 are m numbers of a function, from the one at i on -/
def h256 (f : Nat → Nat) : Nat → Nat → Nat
  | 0, _ => 0
  | m + 1, i => h256 f m (i + 1) * 256 + f i
theorem h256_lt (f : Nat → Nat) : ∀ (m i : Nat), (∀ j, j < m → f (i + j) ≤ 255) → h256 f m i < 256 ^ m
  | 0, _, _ => by simp [h256]
  | m + 1, i, h => by
    have h1 := h256_lt f m (i + 1) (fun j hj => by have := h (j + 1) (by omega); rwa [show i + 1 + j = i + (j + 1) from by omega])
    have h0 := h 0 (by omega)
    simp only [h256, Nat.pow_succ] at *
    simp at h0
    omega
theorem h256_snoc (f : Nat → Nat) : ∀ (m i : Nat), h256 f (m + 1) i = h256 f m i + f (i + m) * 256 ^ m
  | 0, i => by simp [h256]
  | m + 1, i => by
    have h1 := h256_snoc f m (i + 1)
    rw [h256, h1, h256, show i + 1 + m = i + (m + 1) from by omega, Nat.pow_succ]
    rw [Nat.add_mul, Nat.mul_assoc]
    omega
theorem h256_byteAt (x : Nat) : ∀ m, h256 (byteAt x) m 0 = x % 256 ^ m
  | 0 => by simp [h256, Nat.mod_one]
  | m + 1 => by
    rw [h256_snoc, h256_byteAt x m, Nat.zero_add, Nat.pow_succ, Nat.mod_mul]
    unfold byteAt
    rw [Nat.mul_comm (256 ^ m)]
theorem or_num (f : Nat → Nat) (k : Nat) (hk : k < 8) (hf : ∀ i, i ≤ k → f i ≤ 255) :
    bits .or .u64 (h256 f k 0 : Nat) (IntKind.u64.wrap ((f k : Int) * 2 ^ (8 * k))) = ((h256 f (k + 1) 0 : Nat) : Int) := by
  have hl := h256_lt f k 0 (fun j hj => by rw [Nat.zero_add]; exact hf j (by omega))
  have hfk := hf k (Nat.le_refl _)
  have hp : 256 ^ k ≤ 256 ^ 7 := Nat.pow_le_pow_right (by omega) (by omega)
  have hmul : f k * 2 ^ (8 * k) < 18446744073709551616 := by
    rw [← pow_256]
    calc f k * 256 ^ k ≤ 255 * 256 ^ 7 := Nat.mul_le_mul hfk hp
      _ < _ := by decide
  have e : IntKind.u64.wrap ((f k : Int) * 2 ^ (8 * k)) = ((f k * 2 ^ (8 * k) : Nat) : Int) := by
    have : (f k : Int) * 2 ^ (8 * k) = ((f k * 2 ^ (8 * k) : Nat) : Int) := by simp
    rw [wrap_u64, this]
    omega
  rw [e, bits_or_u64_nat _ _ (by omega) hmul, h256_snoc, Nat.zero_add]
  rw [pow_256] at hl ⊢
  rw [Nat.or_comm, Nat.mul_comm (f k), ← Nat.two_pow_add_eq_or_of_lt hl, Nat.add_comm]
set_option maxHeartbeats 400000 in
theorem of_any (f : Nat → Nat) (n m : Nat) (v : Value) (hn : n ≤ 4096) (hm : m = min n 8) (hf : ∀ i, i < n → f i ≤ 255) (w : World) (hr : Reads .u8 w v n f) :
    Calls Try.prog 59 #[v] w fun e w' => e = .returned (.int .u64 (h256 f m 0 : Nat)) ∧ w' = w := by
  have hm8 : (if (8 : Int) < (n : Int) then (8 : Int) else (n : Int)) = (m : Int) := by rw [hm]; split <;> omega
  have HM : Hid (m = min n 8) := hm
  clear hm
  rcases hr with ⟨rfl, a, cap, rfl⟩ | ⟨b, off, cap, rfl, hcell⟩
  · obtain rfl : m = 0 := by have := HM.out; omega
    go_enter Try.func59, Try.ntmps59
    go_wp2
    go_loop [3, 4, 8] (fun x _ i => x = .int .u64 0 ∧ i = .int .i64 0) (fun _ _ _ => 0)
    case atStart => exact ⟨rfl, rfl⟩
    case round =>
      obtain ⟨rfl, rfl⟩ := hrel
      go_wp2
      go_ret
      exact ⟨by simp [h256], rfl⟩
  · go_enter Try.func59, Try.ntmps59
    go_wp2
    go_loop [3, 4, 8] (fun x _ i => ∃ k : Nat, k ≤ m ∧ i = .int .i64 k ∧ x = .int .u64 (h256 f k 0 : Nat)) (fun _ _ i => 8 - (intOf i).toNat)
    case atStart => exact ⟨0, by omega, rfl, rfl⟩
    case round =>
      obtain ⟨k, hk, rfl, rfl⟩ := hrel
      by_cases hlt : k < m
      · have hk8 : k < 8 ∧ k < n := by have := HM.out; omega
        have hc := hcell k hk8.2
        have hor := or_num f k hk8.1 (fun i hi => hf i (by omega))
        have hfk := hf k hk8.2
        have et : (8 * (k : Int)).toNat = 8 * k := by omega
        have HS : Hid (((h256 f (k + 1) 0 : Nat) : Int) = ((h256 f (k + 1) 0 : Nat) : Int)) := rfl
        clear hcell hf
        go_wp2
        go_round
        case rel => exact ⟨k + 1, by omega, by go_num, rfl⟩
        case measure => simp [intOf]; omega
      · obtain rfl : k = m := by omega
        go_wp2
        go_ret
        exact ⟨rfl, rfl⟩
set_option maxHeartbeats 400000 in
theorem rof_any (f : Nat → Nat) (n m : Nat) (v : Value) (hn : n ≤ 4096) (hm : m = min n 8) (hf : ∀ i, i < n → f i ≤ 255) (w : World) (hr : Reads .u8 w v n f) :
    Calls Try.prog 27 #[v] w fun e w' => e = .returned (.int .u64 (h256 f m 0 : Nat)) ∧ w' = w := by
  have hm8 : (if (8 : Int) < (n : Int) then (8 : Int) else (n : Int)) = (m : Int) := by rw [hm]; split <;> omega
  have hmn : m ≤ 8 ∧ m ≤ n := by omega
  clear hm
  rcases hr with ⟨rfl, a, cap, rfl⟩ | ⟨b, off, cap, rfl, hcell⟩
  · obtain rfl : m = 0 := by omega
    go_enter Try.func27, Try.ntmps27
    go_wp2
    go_loop [3, 4] (fun x i => x = .int .u64 0 ∧ i = .int .i64 (-1)) (fun _ _ => 0)
    case atStart => exact ⟨rfl, rfl⟩
    case round =>
      obtain ⟨rfl, rfl⟩ := hrel
      go_wp2
      go_ret
      exact ⟨by simp [h256], rfl⟩
  · go_enter Try.func27, Try.ntmps27
    go_wp2
    go_loop [3, 4] (fun x i => ∃ k : Nat, k ≤ m ∧ i = .int .i64 ((k : Int) - 1) ∧ x = .int .u64 (h256 f (m - k) k : Nat)) (fun _ i => (intOf i + 1).toNat)
    case atStart => exact ⟨m, Nat.le_refl _, rfl, by simp [h256]⟩
    case round =>
      obtain ⟨k, hk, rfl, rfl⟩ := hrel
      by_cases hlt : 0 < k
      · obtain ⟨j, rfl⟩ : ∃ j, k = j + 1 := ⟨k - 1, by omega⟩
        have e : ((j + 1 : Nat) : Int) - 1 = (j : Int) := by omega
        rw [e]
        have hl := h256_lt f (m - (j + 1)) (j + 1) (fun i hi => hf _ (by omega))
        have hl2 : 256 ^ (m - (j + 1)) ≤ 256 ^ 7 := Nat.pow_le_pow_right (by omega) (by omega)
        have HE : Hid (h256 f (m - j) j = h256 f (m - (j + 1)) (j + 1) * 256 + f j) := by
          show h256 f (m - j) j = _
          rw [show m - j = m - (j + 1) + 1 from by omega]; rfl
        have hfj := hf j (by omega)
        have hc := hcell j (by omega)
        clear hcell hf e
        generalize hH : h256 f (m - (j + 1)) (j + 1) = h at *
        have hlt2 : h < 72057594037927936 := by simp at hl2; omega
        clear hl hl2 hH
        generalize hF : f j = b at *
        have HF : Hid (f j = b) := hF
        clear hF
        have hjn : (j : Int) < n := by omega
        go_wp2
        go_round
        case rel => exact ⟨j, by omega, by go_num, by rw [HE.out]; go_num⟩
        case measure => simp [intOf]
      · obtain rfl : k = 0 := by omega
        go_wp2
        go_ret
        exact ⟨rfl, rfl⟩
/-- what is known of a slice of integers that came in: it is nil; or it leads to a row of cells, its elements the first of them -/
def IsRow (k : IntKind) (w : World) (a : Option Addr) (len cap : Nat) (zs : List Int) : Prop :=
  (a = none ∧ len = 0 ∧ cap = 0 ∧ zs = []) ∨
  ∃ x, a = some x ∧ len ≤ cap ∧ cap ≤ maxLen ∧ zs.length = cap ∧ (∀ i, i < zs.length → w.cell? (x.add i) = some (.int k (zs.getD i 0))) ∧ ∀ n ∈ zs, (Lit.int k n).wf = true
theorem isRow_reads {w : World} {a : Option Addr} {len cap : Nat} {zs : List Int} (h : IsRow .u8 w a len cap zs) : ∃ f : Nat → Nat, (∀ i, f i ≤ 255) ∧ Reads .u8 w (.slice a len cap) len f := by
  have hr : ∀ j : Nat, 0 ≤ zs[j]?.getD 0 ∧ zs[j]?.getD 0 ≤ 255 := by
    rcases h with ⟨_, _, _, rfl⟩ | ⟨x, _, _, _, _, _, hw⟩
    · simp
    · exact range_u8 hw
  refine ⟨fun i => (zs[i]?.getD 0).toNat, fun i => by have := hr i; show (zs[i]?.getD 0).toNat ≤ 255; omega, ?_⟩
  rcases h with ⟨rfl, rfl, rfl, rfl⟩ | ⟨x, rfl, hlc, hcm, hz, hc, hw⟩
  · exact .inl ⟨rfl, _, _, rfl⟩
  · by_cases h0 : len = 0
    · subst h0; exact .inl ⟨rfl, _, _, rfl⟩
    · obtain ⟨b, off, rfl, hcell⟩ := ints_at hc (by omega)
      refine .inr ⟨b, off, cap, rfl, fun i hi => ?_⟩
      rw [hcell i (by omega)]
      have := hr i
      simp only [List.getD_eq_getElem?_getD]
      congr 2
      omega
theorem reads_below {k : IntKind} {w w' : World} {v : Value} {n : Nat} {f : Nat → Nat} (h : Reads k w v n f) (hb : Below w.heap.size w w') : Reads k w' v n f := by
  rcases h with h | ⟨b, off, cap, hv, hc⟩
  · exact .inl h
  · exact .inr ⟨b, off, cap, hv, fun i hi => by rw [hb.cell (p := ⟨b, off + i, none⟩) (block_lt_of_cell (hc i hi))]; exact hc i hi⟩
theorem reads_some {k : IntKind} {w : World} {v : Value} {n : Nat} {f : Nat → Nat} (h : Reads k w v n f) (hn : 0 < n) : ∃ b off cap, v = .slice (some ⟨b, off, none⟩) n cap ∧ ∀ i, i < n → w.cell? ⟨b, off + i, none⟩ = some (.int k (f i : Nat)) := by
  rcases h with ⟨h, _⟩ | h
  · omega
  · exact h
theorem reads_form {k : IntKind} {w : World} {v : Value} {n : Nat} {f : Nat → Nat} (h : Reads k w v n f) : ∃ a cap, v = .slice a n cap := by
  rcases h with ⟨rfl, a, cap, rfl⟩ | ⟨b, off, cap, rfl, _⟩
  · exact ⟨_, _, rfl⟩
  · exact ⟨_, _, rfl⟩
theorem h256_word (x : Nat) (hx : x < 18446744073709551616) : h256 (byteAt x) 8 0 = x := by rw [h256_byteAt]; omega

theorem aligned_zero (a : Int) (w : World) : Calls Try.prog 60 #[.int .u64 a, .int .u64 0] w fun e w' => e = .returned (.bool true) ∧ w' = w := by
  go_enter Try.func60, Try.ntmps60
  go_wp2
  go_ret
  exact ⟨rfl, rfl⟩
theorem aligned_pos (a b : Int) (ha : 0 ≤ a) (hb : 0 < b) (w : World) : Calls Try.prog 60 #[.int .u64 a, .int .u64 b] w fun e w' => e = .returned (.bool (a % b == 0)) ∧ w' = w := by
  have h : (b == 0) = false := by simp; omega
  go_enter Try.func60, Try.ntmps60
  go_wp2
  go_ret
  exact ⟨rfl, rfl⟩

end Go.Proofs.Ytlkhjekakbckmaa

/- A memory of layer 2 as it lies in the world: its own three cells, the map of its pages, the pages' bytes; and what becomes of it while the world goes on. -/
namespace Go.Proofs.Ytlkhjekakbckmaa
open Go.RowKit Go.Maps
set_option linter.unusedVariables false
theorem keyed25 : Keyed Try.prog 23 := int_keyed Try.underlying23
theorem zero79 (w : World) : (zeroValue 188).run Try.prog w = .ok (.pointer none) w := by kernel_rfl
/-- a page that was never written -/
def zeroPage : Array Value := Array.replicate 4096 (.int .u8 0)
/-- a page's cells -/
def pageRow (f : Nat → Nat) : Array Value := (rowK .u8 f 4096).toArray
theorem replicate_row (n : Nat) : Array.replicate n (Value.int .u8 0) = (rowK .u8 (fun _ => 0) n).toArray := by
  rw [← rowK_zero]; simp
theorem zeroPage_row : zeroPage = pageRow (fun _ => 0) := replicate_row 4096
theorem pageRow_congr (f g : Nat → Nat) (h : ∀ i, i < 4096 → f i = g i) : pageRow f = pageRow g := by
  unfold pageRow; rw [rowK_congr .u8 f g 4096 h]
theorem pageRow_get (f : Nat → Nat) (i : Nat) (h : i < 4096) : (pageRow f)[i]? = some (.int .u8 (f i : Nat)) := by
  unfold pageRow; rw [List.getElem?_toArray]; exact rowK_get _ _ _ _ h
theorem rowK_length (k : IntKind) (f : Nat → Nat) (n : Nat) : (rowK k f n).length = n := by simp [rowK]
theorem pageRow_size (f : Nat → Nat) : (pageRow f).size = 4096 := by
  unfold pageRow; rw [List.size_toArray, rowK_length]
theorem zero81 : (Try.prog.info? 225).map (fun i => (i.zero, i.size)) = some (some (.agg zeroPage), 4096) := by kernel_rfl
theorem run_alloc81 (w : World) : (Instr.alloc 225 true (.tuple #[])).run Try.prog w = .ok (.pointer (some ⟨w.heap.size, 0, none⟩)) (w.alloc (.cells zeroPage 225)) := by
  have h := zero81
  cases hq : Try.prog.info? 225 with
  | none => simp [hq] at h
  | some i =>
    have hz : i.zero = some (.agg zeroPage) := by simp [hq] at h; exact h.1
    simp [Instr.alloc, zeroValue, typeInfo, hq, hz, newVar, newRow, Value.cells]
theorem run_slice81 (w : World) (b r c : Nat) (hr : r < 4096) (hc : c = 4096 - r) : (Instr.sliceAt 225 (.pointer (some ⟨b, 0, none⟩)) (some (.int .i64 (r : Nat))) none none).run Try.prog w = .ok (.slice (some ⟨b, r, none⟩) c c) w := by
  have hu : Try.prog.underlying 225 = some (.array 4096 5) := Try.underlying225
  have hsz : (sizeOf 5).run Try.prog w = .ok 1 w := by kernel_rfl
  have hadd : (⟨b, 0, none⟩ : Addr).add (r * 1) = ⟨b, r, none⟩ := by unfold Addr.add; split <;> simp_all
  have hle : (r : Int) ≤ (4096 : Nat) := by omega
  have hne : ¬ (4096 : Nat) = r := by omega
  simp only [Instr.sliceAt, Instr.sureAddr, run_underlying hu, Sem.run_bind, Result.andThen_ok, Instr.sliceBounds, Sem.run_pure, run_sliceBound, hle, hsz, Int.toNat_natCast, if_neg hne, hadd, Int.natCast_nonneg, hc, Option.isSome_none, Bool.false_eq_true, if_false]
section
variable {P : Program} {w : World} {ops : Array Oper} {rest : List Oper} {o : Oper} {a : Act} {Q : Exit → Act → World → Prop}
theorem wpList_alloc81 (hg : o.guard = none) (hop : o.op = Op.alloc 225) (h : wpList Try.prog ops Q rest (a.put o.dst (.pointer (some ⟨w.heap.size, 0, none⟩))) (w.alloc (.cells zeroPage 225))) : wpList Try.prog ops Q (o :: rest) a w := by
  refine wpList_plain hg fun K hK => ?_
  unfold Oper.wp
  simp [execOp, hop, run_alloc81 w, Result.andThen]
  exact hK _ _ h
theorem wpList_slice81 (hg : o.guard = none) (x lo : Operand) (hop : o.op = Op.slice 225 x (some lo) none none) (b r c : Nat) (hx : a.eval x = .pointer (some ⟨b, 0, none⟩)) (hlo : a.eval lo = .int .i64 (r : Nat)) (hr : r < 4096) (hc : c = 4096 - r)
    (h : wpList Try.prog ops Q rest (a.put o.dst (.slice (some ⟨b, r, none⟩) c c)) w) : wpList Try.prog ops Q (o :: rest) a w := by
  refine wpList_plain hg fun K hK => ?_
  unfold Oper.wp
  simp [execOp, hop, hx, hlo, run_slice81 w b r c hr hc, Result.andThen]
  exact hK _ _ h
theorem wpList_lookup_run (hg : o.guard = none) (m x : Operand) (t : TypeId) (hop : o.op = Op.lookup t m x true) {mv key v : Value} (hm : a.eval m = mv) (hx : a.eval x = key) (hrun : (Instr.lookup t mv key true).run P w = .ok v w)
    (h : wpList P ops Q rest (a.put o.dst v) w) : wpList P ops Q (o :: rest) a w := by
  refine wpList_plain hg fun K hK => ?_
  unfold Oper.wp
  simp [execOp, hop, hm, hx, hrun, Result.andThen]
  exact hK _ _ h
theorem wpList_mapUpdate_run (hg : o.guard = none) (m x v : Operand) (t : TypeId) (hop : o.op = Op.mapUpdate t m x v) {mv key val : Value} {w' : World} (hm : a.eval m = mv) (hx : a.eval x = key) (hv : a.eval v = val) (hrun : (Instr.mapUpdate t mv key val).run P w = .ok () w')
    (h : wpList P ops Q rest (a.put o.dst undef) w') : wpList P ops Q (o :: rest) a w := by
  refine wpList_plain hg fun K hK => ?_
  unfold Oper.wp
  simp [execOp, hop, hm, hx, hv, hrun, Result.andThen]
  exact hK _ _ h
end
/-- a pointer to a block's first cell reads as the block's number -/
def ptrElem (v : Value) : Option (DataW Unit × List MemPlace) :=
  match v with
  | .pointer (some ⟨b, 0, none⟩) => some (.lit (.int .u64 (b : Nat)), [])
  | _ => none
theorem ptrElem_inv {v : Value} {z : DataW Unit × List MemPlace} (h : ptrElem v = some z) : ∃ b : Nat, v = .pointer (some ⟨b, 0, none⟩) ∧ z = (.lit (.int .u64 (b : Nat)), []) := by
  unfold ptrElem at h
  split at h
  · cases h; exact ⟨_, rfl, rfl⟩
  · cases h
/-- the map's datum says which block each page lies in -/
def Paged (D : DataW Unit) (pg : Nat → Option Nat) : Prop :=
  ∀ k : Nat, (pg k = none ∧ ∀ zd, D.atKey (.int .u64 (k : Nat)) zd = zd) ∨ ∃ b : Nat, pg k = some b ∧ ∀ zd, D.atKey (.int .u64 (k : Nat)) zd = .lit (.int .u64 (b : Nat))
def ptrOf : Option Nat → Value
  | none => .pointer none
  | some b => .pointer (some ⟨b, 0, none⟩)
theorem wf_u64 {k : Nat} (h : k < 18446744073709551616) : (Lit.int .u64 (k : Nat)).wf = true := by
  simp [Lit.wf, IntKind.min, IntKind.max, IntKind.signed, IntKind.bits]; omega
theorem key25 {k : Nat} (h : k < 18446744073709551616) : keyOf Try.prog 23 (.int .u64 (k : Nat)) = some (.int .u64 (k : Nat)) := keyOf_int_mk Try.underlying23 (wf_u64 h)
theorem lit_inj {a b : Nat} (h : (DataW.lit (.int .u64 (a : Nat)) : DataW Unit) = .lit (.int .u64 (b : Nat))) : a = b := by
  simp at h; omega
theorem pages_look {w : World} {bm n : Nat} {D : DataW Unit} {pg : Nat → Option Nat} (h : w.ownsMap Try.prog 23 ptrElem bm n D) (hp : Paged D pg) (k : Nat) (hk : k < 18446744073709551616) :
    (Instr.lookup 150 (.map (some bm)) (.int .u64 (k : Nat)) true).run Try.prog w = .ok (.tuple #[ptrOf (pg k), .bool (pg k).isSome]) w := by
  obtain ⟨es, clock, hb, F, _, rfl⟩ := h
  rcases Maps.fit_look true keyed25 Try.underlying150 (zero79 w) hb F (key25 hk) with ⟨hrun, _, hat⟩ | ⟨e0, y, _, _, hrun, hRv, hat, _⟩
  · rcases hp k with ⟨e, _⟩ | ⟨b, e, h2⟩
    · rw [hrun, e]; rfl
    · have := (hat .nil).symm.trans (h2 .nil); cases this
  · obtain ⟨b, ev, rfl⟩ := ptrElem_inv hRv
    rcases hp k with ⟨e, h2⟩ | ⟨b', e, h2⟩
    · have := (hat .nil).symm.trans (h2 .nil); cases this
    · have := lit_inj ((hat .nil).symm.trans (h2 .nil))
      subst this
      rw [hrun, e, ev]; rfl
theorem pages_put {w : World} {bm n : Nat} {D : DataW Unit} {pg : Nat → Option Nat} (h : w.ownsMap Try.prog 23 ptrElem bm n D) (hp : Paged D pg) (k b : Nat) (hk : k < 18446744073709551616) (hn : n < maxLen) :
    ∃ w' D', (Instr.mapUpdate 150 (.map (some bm)) (.int .u64 (k : Nat)) (.pointer (some ⟨b, 0, none⟩))).run Try.prog w = .ok () w' ∧ w'.ownsMap Try.prog 23 ptrElem bm (n + 1) D' ∧ Paged D' (fun j => if j = k then some b else pg j) ∧ w.grownBy w' (some bm) := by
  obtain ⟨w', hrun, r1, r2⟩ := h.update keyed25 Try.underlying150 hn (key25 hk) (val := .pointer (some ⟨b, 0, none⟩)) (d := .lit (.int .u64 (b : Nat))) (ps := []) rfl
  refine ⟨w', _, hrun, r1, fun j => ?_, r2⟩
  by_cases e : j = k
  · subst e
    exact .inr ⟨b, by simp, fun zd => atKey_put_same h.isMap (keyed25.key (key25 hk)) _ _⟩
  · have hne : Lit.int .u64 (j : Nat) ≠ Lit.int .u64 (k : Nat) := fun h => e (by simp at h; omega)
    rcases hp j with ⟨e1, h2⟩ | ⟨b', e1, h2⟩
    · exact .inl ⟨by simp [e, e1], fun zd => by rw [atKey_put_other hne]; exact h2 zd⟩
    · exact .inr ⟨b', by simp [e, e1], fun zd => by rw [atKey_put_other hne]; exact h2 zd⟩
theorem paged_made : Paged (.map []) (fun _ => none) := fun k => .inl ⟨rfl, fun zd => rfl⟩

/-- what the world's going on leaves alone: all blocks but those of F; F' has F's and new ones -/
structure Step (F : Nat → Prop) (w : World) (F' : Nat → Prop) (w' : World) : Prop where
  os : w'.os = w.os
  tape : w'.tape = w.tape
  output : w'.output = w.output
  size : w.heap.size ≤ w'.heap.size
  block : ∀ k, k < w.heap.size → ¬ F k → w'.heap[k]? = w.heap[k]?
  old : ∀ k, F' k → F k ∨ w.heap.size ≤ k
  keep : ∀ k, F k → F' k
theorem Step.refl (F : Nat → Prop) (w : World) : Step F w F w := ⟨rfl, rfl, rfl, Nat.le_refl _, fun _ _ _ => rfl, fun _ h => .inl h, fun _ h => h⟩
theorem Step.trans {F F' F'' : Nat → Prop} {w w' w'' : World} (h : Step F w F' w') (g : Step F' w' F'' w'') : Step F w F'' w'' :=
  ⟨g.os.trans h.os, g.tape.trans h.tape, g.output.trans h.output, Nat.le_trans h.size g.size,
   fun k hk hf => (g.block k (Nat.lt_of_lt_of_le hk h.size) (fun hf' => by rcases h.old k hf' with h1 | h1; exact hf h1; omega)).trans (h.block k hk hf),
   fun k hf => by rcases g.old k hf with h1 | h1; exact h.old k h1; exact .inr (Nat.le_trans h.size h1),
   fun k hf => g.keep k (h.keep k hf)⟩
theorem Step.of_below {F : Nat → Prop} {w w' : World} (h : Below w.heap.size w w') : Step F w F w' :=
  ⟨h.os, h.tape, h.output, h.size, fun k hk _ => h.block k hk, fun _ h => .inl h, fun _ h => h⟩
theorem Step.below {F F' : Nat → Prop} {w w' : World} {B : Nat} (h : Step F w F' w') (hB : B ≤ w.heap.size) (hF : ∀ k, F k → B ≤ k) : Below B w w' :=
  ⟨h.os, h.tape, h.output, h.size, fun k hk => h.block k (by omega) (fun hf => by have := hF k hf; omega)⟩
theorem Step.base {F F' : Nat → Prop} {w w' : World} {B : Nat} (h : Step F w F' w') (hB : B ≤ w.heap.size) (hF : ∀ k, F k → B ≤ k) : ∀ k, F' k → B ≤ k :=
  fun k hk => by rcases h.old k hk with h1 | h1; exact hF k h1; omega

/-- A MEMORY: block rb holds its size, its map of pages and its log; M: its bytes by their addresses; F: blocks that are its own. -/
def RamIn (w : World) (F : Nat → Prop) (rb size n : Nat) (lg : Value) (M : Nat → Nat) (bm : Nat) (pg : Nat → Option Nat) (D : DataW Unit) : Prop :=
  w.heap[rb]? = some (.cells #[.int .u64 (size : Nat), .map (some bm), lg] 153 (0, 0)) ∧ w.ownsMap Try.prog 23 ptrElem bm n D ∧ Paged D pg ∧
    (∀ k b, pg k = some b → w.heap[b]? = some (.cells (pageRow (fun i => M (k * 4096 + i))) 225 (0, 0))) ∧
    (∀ k, pg k = none → ∀ i, i < 4096 → M (k * 4096 + i) = 0) ∧ (∀ k k' b, pg k = some b → pg k' = some b → k = k') ∧
    F rb ∧ F bm ∧ (∀ k b, pg k = some b → F b) ∧ (∀ k, F k → k < w.heap.size) ∧ (∀ a, M a ≤ 255)
def RamAt (w : World) (F : Nat → Prop) (rb size n : Nat) (lg : Value) (M : Nat → Nat) : Prop := ∃ bm pg D, RamIn w F rb size n lg M bm pg D
theorem RamAt.kept {w w' : World} {F : Nat → Prop} {rb size n : Nat} {lg : Value} {M : Nat → Nat} (h : RamAt w F rb size n lg M) (hs : w.heap.size ≤ w'.heap.size) (hb : ∀ k, F k → w'.heap[k]? = w.heap[k]?) : RamAt w' F rb size n lg M := by
  obtain ⟨bm, pg, D, h1, h2, h3, h4, h5, h6, f1, f2, f3, f4, h7⟩ := h
  refine ⟨bm, pg, D, (hb rb f1).trans h1, ?_, h3, fun k b hk => (hb b (f3 k b hk)).trans (h4 k b hk), h5, h6, f1, f2, f3, fun k hk => Nat.lt_of_lt_of_le (f4 k hk) hs, h7⟩
  obtain ⟨es, clock, e1, e2, e3, e4⟩ := h2
  exact ⟨es, clock, (hb bm f2).trans e1, e2, e3, e4⟩
theorem RamAt.below {w w' : World} {F : Nat → Prop} {rb size n : Nat} {lg : Value} {M : Nat → Nat} (h : RamAt w F rb size n lg M) (hb : Below w.heap.size w w') : RamAt w' F rb size n lg M := by
  have h' := h
  obtain ⟨bm, pg, D, h1, h2, h3, h4, h5, h6, f1, f2, f3, f4, h7⟩ := h'
  exact h.kept hb.size (fun k hk => hb.block k (f4 k hk))
/-- .. while another part of the world goes on -/
theorem RamAt.step {w w' : World} {F G G' : Nat → Prop} {rb size n : Nat} {lg : Value} {M : Nat → Nat} (h : RamAt w F rb size n lg M) (hs : Step G w G' w') (hd : ∀ k, F k → ¬ G k) : RamAt w' F rb size n lg M := by
  have h' := h
  obtain ⟨bm, pg, D, h1, h2, h3, h4, h5, h6, f1, f2, f3, f4, h7⟩ := h'
  exact h.kept hs.size (fun k hk => hs.block k (f4 k hk) (hd k hk))
theorem RamAt.lt {w : World} {F : Nat → Prop} {rb size n : Nat} {lg : Value} {M : Nat → Nat} (h : RamAt w F rb size n lg M) : ∀ k, F k → k < w.heap.size := by
  obtain ⟨bm, pg, D, h1, h2, h3, h4, h5, h6, f1, f2, f3, f4, h7⟩ := h
  exact f4
theorem RamAt.le {w : World} {F : Nat → Prop} {rb size n : Nat} {lg : Value} {M : Nat → Nat} (h : RamAt w F rb size n lg M) : ∀ a, M a ≤ 255 := by
  obtain ⟨bm, pg, D, h1, h2, h3, h4, h5, h6, f1, f2, f3, f4, h7⟩ := h
  exact h7
theorem RamAt.own {w : World} {F : Nat → Prop} {rb size n : Nat} {lg : Value} {M : Nat → Nat} (h : RamAt w F rb size n lg M) : F rb := by
  obtain ⟨bm, pg, D, h1, h2, h3, h4, h5, h6, f1, f2, f3, f4, h7⟩ := h
  exact f1
theorem RamAt.mono {w : World} {F : Nat → Prop} {rb size n n' : Nat} {lg : Value} {M : Nat → Nat} (h : RamAt w F rb size n lg M) (hn : n ≤ n') : RamAt w F rb size n' lg M := by
  obtain ⟨bm, pg, D, h1, h2, h3, h4, h5, h6, f1, f2, f3, f4, h7⟩ := h
  exact ⟨bm, pg, D, h1, h2.mono hn, h3, h4, h5, h6, f1, f2, f3, f4, h7⟩
theorem RamAt.congr {w : World} {F : Nat → Prop} {rb size n : Nat} {lg : Value} {M M' : Nat → Nat} (h : RamAt w F rb size n lg M) (hM : ∀ a, M a = M' a) : RamAt w F rb size n lg M' := by
  have : M = M' := funext hM
  rw [← this]; exact h
/-- the three cells of a memory -/
theorem RamAt.cells {w : World} {F : Nat → Prop} {rb size n : Nat} {lg : Value} {M : Nat → Nat} (h : RamAt w F rb size n lg M) : w.cell? ⟨rb, 0, none⟩ = some (.int .u64 (size : Nat)) ∧ w.cell? ⟨rb, 2, none⟩ = some lg := by
  obtain ⟨bm, pg, D, h1, h2, h3, h4, h5, h6, f1, f2, f3, f4, h7⟩ := h
  exact ⟨by simp [World.cell?, h1], by simp [World.cell?, h1]⟩
/-- a page is made for an address that had none -/
theorem RamIn.newPage {w : World} {F : Nat → Prop} {rb size n : Nat} {lg : Value} {M : Nat → Nat} {bm : Nat} {pg : Nat → Option Nat} {D : DataW Unit} (h : RamIn w F rb size n lg M bm pg D) (k : Nat) (hk : k < 18446744073709551616) (hn : n < maxLen) (h0 : pg k = none) :
    ∃ w' D', (Instr.mapUpdate 150 (.map (some bm)) (.int .u64 (k : Nat)) (.pointer (some ⟨w.heap.size, 0, none⟩))).run Try.prog (w.alloc (.cells zeroPage 225)) = .ok () w' ∧
      RamIn w' (fun x => F x ∨ x = w.heap.size) rb size (n + 1) lg M bm (fun j => if j = k then some w.heap.size else pg j) D' ∧ Step F w (fun x => F x ∨ x = w.heap.size) w' := by
  obtain ⟨h1, h2, h3, h4, h5, h6, f1, f2, f3, f4, h7⟩ := h
  obtain ⟨w', D', hrun, r1, r2, r3⟩ := pages_put (h2.alloc (.cells zeroPage 225)) h3 k w.heap.size hk hn
  have hsz : (w.alloc (.cells zeroPage 225)).heap.size = w.heap.size + 1 := by simp
  have hs' : w.heap.size + 1 ≤ w'.heap.size := by have := r3.size; omega
  have old : ∀ x, x < w.heap.size → x ≠ bm → w'.heap[x]? = w.heap[x]? := fun x hx hne =>
    (r3.block x (by omega) (by simpa using hne)).trans ((World.grownBy_alloc w _ none).block x hx (by simp))
  have nb : ∀ x, w.heap[x]? ≠ none → w.ownsMap Try.prog 23 ptrElem bm n D → (∀ es c, w.heap[x]? ≠ some (.map es c)) → x ≠ bm := by
    rintro x _ ⟨es, c, hb, _⟩ hx rfl
    exact hx es c hb
  have rbm : rb ≠ bm := nb rb (by rw [h1]; simp) h2 (fun es c => by rw [h1]; simp)
  have bmlt := f4 bm f2
  refine ⟨w', D', hrun, ⟨(old rb (f4 rb f1) rbm).trans h1, r1, r2, ?_, ?_, ?_, .inl f1, .inl f2, ?_, ?_, h7⟩, ?_⟩
  · intro j b hj
    by_cases e : j = k
    · subst e
      simp only [if_true] at hj
      cases hj
      rw [r3.block w.heap.size (by omega) (by simp; omega), heap_alloc_new, zeroPage_row]
      rw [pageRow_congr _ _ (fun i hi => (h5 j h0 i hi).symm)]
    · simp only [e, if_false] at hj
      have hb := h4 j b hj
      rw [old b (f4 b (f3 j b hj)) (nb b (by rw [hb]; simp) h2 (fun es c => by rw [hb]; simp))]
      exact hb
  · intro j hj i hi
    by_cases e : j = k
    · simp [e] at hj
    · simp only [e, if_false] at hj
      exact h5 j hj i hi
  · intro j j' b hj hj'
    by_cases e : j = k <;> by_cases e' : j' = k
    · omega
    · simp only [e, e', if_true, if_false] at hj hj'
      cases hj
      have := f4 _ (f3 _ _ hj'); omega
    · simp only [e, e', if_true, if_false] at hj hj'
      cases hj'
      have := f4 _ (f3 _ _ hj); omega
    · simp only [e, e', if_false] at hj hj'
      exact h6 _ _ _ hj hj'
  · intro j b hj
    by_cases e : j = k
    · simp only [e, if_true] at hj; cases hj; exact .inr rfl
    · simp only [e, if_false] at hj; exact .inl (f3 j b hj)
  · intro x hx
    rcases hx with hx | rfl
    · have := f4 x hx; omega
    · omega
  · exact ⟨r3.os, r3.tape, r3.output, by omega, fun x hx hf => old x hx (fun e => hf (e ▸ f2)), fun x hx => hx.elim .inl (fun e => .inr (by omega)), fun x hx => .inl hx⟩
/-- a page's row is laid anew -/
theorem RamIn.setPage {w : World} {F : Nat → Prop} {rb size n : Nat} {lg : Value} {M M' : Nat → Nat} {bm : Nat} {pg : Nat → Option Nat} {D : DataW Unit} (h : RamIn w F rb size n lg M bm pg D) (k b : Nat) (hb : pg k = some b) (row : Array Value)
    (hrow : row = pageRow (fun i => M' (k * 4096 + i))) (hout : ∀ j, j ≠ k → ∀ i, i < 4096 → M' (j * 4096 + i) = M (j * 4096 + i)) (hle : ∀ a, M' a ≤ 255) :
    RamIn (w.setRow b row) F rb size n lg M' bm pg D ∧ Step F w F (w.setRow b row) := by
  obtain ⟨h1, h2, h3, h4, h5, h6, f1, f2, f3, f4, h7⟩ := h
  have hbb := h4 k b hb
  have old : ∀ x, x ≠ b → (w.setRow b row).heap[x]? = w.heap[x]? := fun x hx => setRow_other w b x row hx
  have hsz : (w.setRow b row).heap.size = w.heap.size := by simp [World.setRow]
  have nrb : rb ≠ b := by
    rintro rfl
    rw [h1] at hbb
    simp at hbb
  have nbm : bm ≠ b := by
    rintro rfl
    obtain ⟨es, c, e1, _⟩ := h2
    rw [e1] at hbb
    simp at hbb
  refine ⟨⟨(old rb nrb).trans h1, ?_, h3, ?_, ?_, h6, f1, f2, f3, fun x hx => by rw [hsz]; exact f4 x hx, hle⟩, ⟨rfl, rfl, rfl, by rw [hsz]; exact Nat.le_refl _, fun x hx hf => old x (fun e => hf (e ▸ f3 k b hb)), fun x hx => .inl hx, fun x hx => hx⟩⟩
  · obtain ⟨es, c, e1, e2, e3, e4⟩ := h2
    exact ⟨es, c, (old bm nbm).trans e1, e2, e3, e4⟩
  · intro j c hj
    by_cases e : j = k
    · subst e
      rw [hb] at hj
      cases hj
      rw [setRow_heap w b _ row 225 _ hbb, hrow]
    · have hne : c ≠ b := fun e1 => e (h6 j k c hj (by rw [e1]; exact hb))
      rw [old c hne, h4 j c hj, pageRow_congr _ _ (fun i hi => (hout j e i hi).symm)]
  · intro j hj i hi
    have e : j ≠ k := by rintro rfl; rw [hb] at hj; cases hj
    rw [hout j e i hi]
    exact h5 j hj i hi
end Go.Proofs.Ytlkhjekakbckmaa

/- The calls split, own and put of layer 2: bytes are laid into a memory's pages. -/
namespace Go.Proofs.Ytlkhjekakbckmaa
open Go.RowKit Go.Maps
set_option linter.unusedVariables false
theorem split_any (x q r : Nat) (hx : x < 18446744073709551616) (h : x = q * 4096 + r) (hr : r < 4096) (w : World) :
    Calls Try.prog 96 #[.int .u64 (x : Nat)] w fun e w' => e = .returned (.tuple #[.int .u64 (q : Nat), .int .i64 (r : Nat)]) ∧ w' = w := by
  have H : Hid (((x : Int) / 4096 = (q : Nat)) ∧ ((x : Int) % 4096 = (r : Nat))) := by constructor <;> omega
  clear h
  go_enter Try.func96, Try.ntmps96
  go_wp2
  go_ret2
  rw [H.out.1, H.out.2]
  exact ⟨rfl, rfl⟩
theorem ptrOf_some (b : Nat) : ptrOf (some b) = .pointer (some ⟨b, 0, none⟩) := rfl
theorem ptrOf_none : ptrOf none = .pointer none := rfl
theorem RamIn.cell1 {w : World} {F : Nat → Prop} {rb size n : Nat} {lg : Value} {M : Nat → Nat} {bm : Nat} {pg : Nat → Option Nat} {D : DataW Unit} (h : RamIn w F rb size n lg M bm pg D) : w.cell? ⟨rb, 1, none⟩ = some (.map (some bm)) := by
  obtain ⟨h1, _⟩ := h
  simp [World.cell?, h1]
theorem own_any {w : World} {F : Nat → Prop} {rb size n : Nat} {lg : Value} {M : Nat → Nat} (h : RamAt w F rb size n lg M) (k : Nat) (hk : k < 18446744073709551616) (hn : n < maxLen) :
    Calls Try.prog 97 #[.pointer (some ⟨rb, 0, none⟩), .int .u64 (k : Nat)] w fun e w' => ∃ b F' bm pg D, e = .returned (.pointer (some ⟨b, 0, none⟩)) ∧ RamIn w' F' rb size (n + 1) lg M bm pg D ∧ pg k = some b ∧ Step F w F' w' := by
  obtain ⟨bm, pg, D, h⟩ := h
  have hlk := pages_look h.2.1 h.2.2.1 k hk
  have hc1 := h.cell1
  cases hp : pg k with
  | some b =>
    rw [hp, ptrOf_some] at hlk
    have X : Hid (_ ∧ _) := ⟨h, hp⟩
    clear h hp
    go_enter Try.func97, Try.ntmps97
    go_wp2_with (first | (at_lookup; refine wpList_lookup_run rfl _ _ 150 rfl rfl rfl hlk ?_))
    go_ret
    obtain ⟨h, hp⟩ := X.out
    exact ⟨b, F, bm, pg, D, rfl, ⟨h.1, h.2.1.mono (Nat.le_succ _), h.2.2⟩, hp, Step.refl _ _⟩
  | none =>
    rw [hp, ptrOf_none] at hlk
    obtain ⟨w2, D2, hrun, h2, hs⟩ := h.newPage k hk hn hp
    have hc2 : (w.alloc (.cells zeroPage 225)).cell? ⟨rb, 1, none⟩ = some (.map (some bm)) := by
      have hl := h.2.2.2.2.2.2.2.2.2.1 rb h.2.2.2.2.2.2.1
      rw [← hc1]
      exact World.cell?_of_block ((World.grownBy_alloc w _ none).block rb hl (by simp))
    have X : Hid (_ ∧ _) := ⟨h2, hs⟩
    clear h hp h2 hs
    go_enter Try.func97, Try.ntmps97
    go_wp2_with (first | (at_lookup; refine wpList_lookup_run rfl _ _ 150 rfl rfl rfl hlk ?_) | (refine wpList_alloc81 rfl rfl ?_) | (at_mapUpdate; refine wpList_mapUpdate_run rfl _ _ _ 150 rfl rfl rfl rfl hrun ?_))
    go_ret
    obtain ⟨h2, hs⟩ := X.out
    exact ⟨w.heap.size, _, bm, _, D2, rfl, h2, by simp, hs⟩
/-- a slice of n bytes that is read, and lies in no block of F -/
def ReadsF (F : Nat → Prop) (w : World) (v : Value) (n : Nat) (f : Nat → Nat) : Prop :=
  (n = 0 ∧ ∃ a cap, cap ≤ 9223372036854775807 ∧ v = .slice a 0 cap) ∨ ∃ b off cap, v = .slice (some ⟨b, off, none⟩) n cap ∧ ¬ F b ∧ n ≤ cap ∧ cap ≤ 9223372036854775807 ∧ ∀ i, i < n → w.cell? ⟨b, off + i, none⟩ = some (.int .u8 (f i : Nat))
/-- bytes laid over others from an address on -/
def over (M : Nat → Nat) (at_ L : Nat) (f : Nat → Nat) (a : Nat) : Nat := if at_ ≤ a ∧ a < at_ + L then f (a - at_) else M a
theorem over_zero (M : Nat → Nat) (at_ : Nat) (f : Nat → Nat) : over M at_ 0 f = M := by
  funext a; unfold over; rw [if_neg (by omega)]
theorem over_over (M : Nat → Nat) (at_ j m : Nat) (f : Nat → Nat) : over (over M at_ j f) (at_ + j) m (fun i => f (j + i)) = over M at_ (j + m) f := by
  funext a; unfold over
  by_cases h1 : at_ + j ≤ a ∧ a < at_ + j + m
  · rw [if_pos h1, if_pos (by omega)]
    show f _ = f _
    congr 1; omega
  · rw [if_neg h1]
    by_cases h2 : at_ ≤ a ∧ a < at_ + j
    · rw [if_pos h2, if_pos (by omega)]
    · rw [if_neg h2, if_neg (by omega)]
theorem over_le {M : Nat → Nat} (at_ L : Nat) {f : Nat → Nat} (h : ∀ a, M a ≤ 255) (hf : ∀ i, i < L → f i ≤ 255) : ∀ a, over M at_ L f a ≤ 255 := by
  intro a; unfold over; split
  · exact hf _ (by omega)
  · exact h a
theorem row_copyN (N : Nat) (f g : Nat → Nat) (r m : Nat) (hm : r + m ≤ N) :
    (rowK .u8 f N).take r ++ (rowK .u8 g m ++ (rowK .u8 f N).drop (r + m)) = rowK .u8 (fun i => if r ≤ i ∧ i < r + m then g (i - r) else f i) N := by
  apply List.ext_getElem?
  intro i
  simp only [List.getElem?_append, List.getElem?_take, List.getElem?_drop, List.length_take, rowK_length]
  have hmin : min r N = r := by omega
  rw [hmin]
  by_cases h1 : i < r
  · simp only [h1, if_true]
    rw [rowK_get _ _ _ _ (by omega), rowK_get _ _ _ _ (by omega), if_neg (by omega)]
  · simp only [h1, if_false]
    by_cases h2 : i - r < m
    · simp only [h2, if_true]
      rw [rowK_get _ _ _ _ h2, rowK_get _ _ _ _ (by omega), if_pos (by omega)]
    · simp only [h2, if_false]
      rw [show r + m + (i - r - m) = i from by omega]
      by_cases h3 : i < N
      · rw [rowK_get _ _ _ _ h3, rowK_get _ _ _ _ h3, if_neg (by omega)]
      · rw [List.getElem?_eq_none (by rw [rowK_length]; omega), List.getElem?_eq_none (by rw [rowK_length]; omega)]
theorem row_copy (f g : Nat → Nat) (r m : Nat) (hm : r + m ≤ 4096) :
    ((pageRow f).toList.take r ++ (rowK .u8 g m ++ (pageRow f).toList.drop (r + (rowK .u8 g m).length))).toArray = pageRow (fun i => if r ≤ i ∧ i < r + m then g (i - r) else f i) := by
  have e : (pageRow f).toList = rowK .u8 f 4096 := by simp [pageRow]
  rw [e, rowK_length, row_copyN 4096 f g r m hm, pageRow]
theorem rowK_one (k : IntKind) (f : Nat → Nat) (n : Nat) : ∀ v ∈ rowK k f n, v.oneCell' = true := by
  intro v hv
  obtain ⟨i, _, rfl⟩ := List.mem_map.1 hv
  rfl
theorem rowK_at (k : IntKind) (f : Nat → Nat) (n j : Nat) (v : Value) (h : (rowK k f n)[j]? = some v) : j < n ∧ v = .int k (f j : Nat) := by
  by_cases hj : j < n
  · rw [rowK_get _ _ _ _ hj] at h; cases h; exact ⟨hj, rfl⟩
  · rw [List.getElem?_eq_none (by rw [rowK_length]; omega)] at h; cases h
/-- a piece of a page is laid anew -/
theorem RamIn.laid {w : World} {F : Nat → Prop} {rb size n : Nat} {lg : Value} {M : Nat → Nat} {bm : Nat} {pg : Nat → Option Nat} {D : DataW Unit} (h : RamIn w F rb size n lg M bm pg D) (k b r m : Nat) (g : Nat → Nat) (hb : pg k = some b) (hm : r + m ≤ 4096) (hg : ∀ i, i < m → g i ≤ 255) :
    RamIn (w.setRow b ((pageRow (fun i => M (k * 4096 + i))).toList.take r ++ (rowK .u8 g m ++ (pageRow (fun i => M (k * 4096 + i))).toList.drop (r + (rowK .u8 g m).length))).toArray) F rb size n lg (over M (k * 4096 + r) m g) bm pg D ∧
      Step F w F (w.setRow b ((pageRow (fun i => M (k * 4096 + i))).toList.take r ++ (rowK .u8 g m ++ (pageRow (fun i => M (k * 4096 + i))).toList.drop (r + (rowK .u8 g m).length))).toArray) := by
  have hle := h.2.2.2.2.2.2.2.2.2.2
  refine h.setPage k b hb _ ?_ ?_ (over_le _ _ hle hg)
  · rw [row_copy _ _ _ _ hm]
    apply pageRow_congr
    intro i hi
    unfold over
    by_cases h1 : r ≤ i ∧ i < r + m
    · rw [if_pos h1, if_pos (by omega)]; congr 1; omega
    · rw [if_neg h1, if_neg (by omega)]
  · intro j hj i hi
    unfold over
    rw [if_neg (by omega)]
theorem ReadsF.step {F F' : Nat → Prop} {w w' : World} {v : Value} {n : Nat} {f : Nat → Nat} (h : ReadsF F w v n f) (hs : Step F w F' w') : ReadsF F' w' v n f := by
  rcases h with h | ⟨b, off, cap, hv, hb, h1, h2, hc⟩
  · exact .inl h
  · by_cases h0 : n = 0
    · subst h0; exact .inl ⟨rfl, _, cap, h2, hv⟩
    · have hlt := block_lt_of_cell (hc 0 (by omega))
      refine .inr ⟨b, off, cap, hv, fun hf => ?_, h1, h2, fun i hi => ?_⟩
      · rcases hs.old b hf with h3 | h3
        · exact hb h3
        · have : b < w.heap.size := hlt
          omega
      · rw [World.cell?_of_block (a := ⟨b, off + i, none⟩) (hs.block b hlt hb)]; exact hc i hi
/-- 'copy' into a row that is known whole: how many go over is named, the world behind it too -/
theorem wpList_copy_at {P : Program} {w : World} {ops : Array Oper} {rest : List Oper} {o : Oper} {a : Act} {Q : Exit → Act → World → Prop} (hgd : o.guard = none) (d s : Operand) (dT sT : TypeId)
    (ho : o.op = .call { callee := .builtin .copy, args := #[d, s], argTypes := #[dT, sT] }) (elem : TypeId) (hu : P.underlying dT = some (.slice elem)) (hsz : (P.info? elem).map (·.size) = some 1)
    (g off dLen dCap : Nat) (ad : Addr) (sLen sCap : Nat) (hd : a.eval d = .slice (some ⟨g, off, none⟩) dLen dCap) (hs : a.eval s = .slice (some ad) sLen sCap)
    (cur : Array Value) (t : TypeId) (hg : w.heap[g]? = some (.cells cur t (0, 0))) (cs : List Value) (m : Nat) (hm : cs.length = m) (hn : m = Nat.min sLen dLen)
    (hsrc : ∀ j v, cs[j]? = some v → w.cell? (ad.add j) = some v) (hfit : off + m ≤ cur.size) (h1 : ∀ v ∈ cs, v.oneCell' = true)
    (h : ∀ w', Hid (w' = w.setRow g (cur.toList.take off ++ (cs ++ cur.toList.drop (off + cs.length))).toArray) → wpList P ops Q rest (a.put o.dst (.int .i64 (m : Nat))) w') : wpList P ops Q (o :: rest) a w := by
  subst hm
  exact wpList_copy_own hgd d s dT sT ho elem hu hsz g off dLen dCap ad sLen sCap hd hs cur t hg cs hn hsrc hfit h1 (h _ rfl)
theorem size5 : (Try.prog.info? 5).map (·.size) = some 1 := by kernel_rfl
theorem addr_add (b o j : Nat) : (⟨b, o, none⟩ : Addr).add j = ⟨b, o + j, none⟩ := by unfold Addr.add; split <;> simp_all
theorem ReadsF.cut {F : Nat → Prop} {w : World} {b off cap n m : Nat} {f : Nat → Nat} (hF : ¬ F b) (h1 : n ≤ cap) (h2 : cap ≤ 9223372036854775807) (hm : m ≤ n) (hc : ∀ i, i < n → w.cell? ⟨b, off + i, none⟩ = some (.int .u8 (f i : Nat))) :
    ReadsF F w (.slice (if cap = m then some ⟨b, off, none⟩ else some ⟨b, off + m, none⟩) (n - m) (cap - m)) (n - m) (fun i => f (m + i)) := by
  by_cases h0 : n = m
  · subst h0
    refine .inl ⟨by omega, _, cap - n, by omega, by rw [Nat.sub_self]⟩
  · rw [if_neg (by omega)]
    refine .inr ⟨b, off + m, cap - m, rfl, hF, by omega, by omega, fun i hi => ?_⟩
    rw [Nat.add_assoc]
    exact hc (m + i) (by omega)
set_option maxRecDepth 100000 in
set_option maxHeartbeats 1000000 in
theorem put_any {w : World} {F : Nat → Prop} {rb size n : Nat} {lg : Value} {M : Nat → Nat} (h : RamAt w F rb size n lg M) (x L : Nat) (f : Nat → Nat) (v : Value) (hr : ReadsF F w v L f) (hf : ∀ i, i < L → f i ≤ 255) (hx : x + L < 9223372036854775808) (hn : n + L ≤ 1000000) :
    Calls Try.prog 61 #[.pointer (some ⟨rb, 0, none⟩), .int .u64 (x : Nat), v] w fun e w' => e = .returned (.tuple #[]) ∧ ∃ F', RamAt w' F' rb size (n + L) lg (over M x L f) ∧ Step F w F' w' := by
  go_enter Try.func61, Try.ntmps61
  go_wp2
  go_loopw [1, 2] (fun a d wr => ∃ j G, j ≤ L ∧ a = .int .u64 ((x + j : Nat) : Int) ∧ ReadsF G wr d (L - j) (fun i => f (j + i)) ∧ RamAt wr G rb size (n + j) lg (over M x j f) ∧ Step F w G wr) (fun a _ _ => (x + L) - (intOf a).toNat)
  case atStart => exact ⟨0, F, by omega, rfl, by simpa using hr, by rw [over_zero]; exact h, Step.refl _ _⟩
  case round =>
    obtain ⟨j, G, hj, rfl, hrd, hram, hst⟩ := hrel
    by_cases hlt : j < L
    · rcases hrd with ⟨h0, _⟩ | ⟨bd, od, cd, rfl, hG, hc1, hc2, hcell⟩
      · omega
      obtain ⟨y, hy⟩ : ∃ y, x + j = y := ⟨_, rfl⟩
      obtain ⟨q, r, hqr, hr4⟩ : ∃ q r, y = q * 4096 + r ∧ r < 4096 := ⟨y / 4096, y % 4096, by omega, by omega⟩
      obtain ⟨m, hm⟩ : ∃ m, min (L - j) (4096 - r) = m := ⟨_, rfl⟩
      obtain ⟨R, hR⟩ : ∃ R, L - j = R := ⟨_, rfl⟩
      have hq : q < 18446744073709551616 := by omega
      have hy2 : y < 9223372036854775808 := by omega
      have hle := hram.le
      rw [hy, hR]
      rw [hR] at hcell hc1
      have hR0 : 0 < R ∧ R < 9223372036854775808 := by omega
      have hm1 : m ≤ R ∧ r + m ≤ 4096 ∧ 0 < m := by omega
      have X : Hid (_ ∧ _ ∧ _ ∧ _ ∧ _ ∧ _) := ⟨hcell, hst, hqr, hm, hR, hy⟩
      have hfj : ∀ i, i < m → f (j + i) ≤ 255 := fun i hi => hf _ (by omega)
      have Z : Hid (∀ i, i < m → f (j + i) ≤ 255) := hfj
      clear hcell hst hqr hm hR hy hfj
      go_wp2_with (first | (go_at_call 96; refine (split_any y q r (by omega) X.out.2.2.1 hr4 _).mono ?_; rintro e w' ⟨rfl, rfl⟩))
      refine (own_any hram q (by omega) (by unfold maxLen; omega)).mono ?_
      rintro e w1 ⟨b, G1, bm, pg, D, rfl, hin, hpk, hs1⟩
      have Y : Hid (_ ∧ _ ∧ _) := ⟨hin, hpk, hs1⟩
      clear hram hin hpk hs1
      obtain ⟨c, hc⟩ : ∃ c, c = 4096 - r := ⟨_, rfl⟩
      have HC : Hid (c = 4096 - r) := hc
      clear hc
      have T1 : Hid (w1.heap[b]? = some (.cells (pageRow (fun i => over M x j f (q * 4096 + i))) 225 (0, 0))) := Y.out.1.2.2.2.1 q b Y.out.2.1
      have T2 : Hid (m = Nat.min R c) := by have := HC.out; have := X.out.2.2.2.1; have := X.out.2.2.2.2.1; show m = min R c; omega
      have T3 : Hid (∀ i v, (rowK .u8 (fun i => f (j + i)) m)[i]? = some v → w1.cell? ((⟨bd, od, none⟩ : Addr).add i) = some v) := by
        intro i v hv
        obtain ⟨hi, rfl⟩ := rowK_at _ _ _ _ _ hv
        rw [addr_add]
        have hb := X.out.1 i (by omega)
        rw [World.cell?_of_block (a := ⟨bd, od + i, none⟩) (Y.out.2.2.block bd (block_lt_of_cell hb) hG)]
        exact hb
      have T4 : Hid (r + m ≤ (pageRow (fun i => over M x j f (q * 4096 + i))).size) := by show _ ≤ _; rw [pageRow_size]; omega
      go_wp2_with (first | (refine wpList_slice81 rfl _ _ rfl b r c rfl rfl hr4 HC.out ?_) | (refine wpList_copy_at rfl _ _ 22 22 rfl 5 Try.underlying22 size5 b r c c ⟨bd, od, none⟩ R cd rfl rfl (pageRow (fun i => over M x j f (q * 4096 + i))) 225 T1.out (rowK .u8 (fun i => f (j + i)) m) m (rowK_length _ _ _) T2.out T3.out T4.out (rowK_one _ _ _) ?_; intro w2 hw2))
      obtain ⟨hcell, hst, hqr, hm, hR, hy⟩ := X.out
      obtain ⟨hin, hpk, hs1⟩ := Y.out
      obtain ⟨hl, hs2⟩ := hin.laid q b r m (fun i => f (j + i)) hpk hm1.2.1 Z.out
      rw [← hw2.out] at hl hs2
      have hs12 := hs1.trans hs2
      refine ⟨⟨j + m, G1, by omega, by rw [← hy]; congr 1; omega, ?_, ?_, hst.trans hs12⟩, by simp [intOf]; omega⟩
      · have hc3 : ReadsF G w' (.slice (if cd = m then some ⟨bd, od, none⟩ else some ⟨bd, od + m, none⟩) (R - m) (cd - m)) (R - m) (fun i => f (j + (m + i))) := ReadsF.cut (f := fun i => f (j + i)) hG hc1 hc2 hm1.1 hcell
        rw [show L - (j + m) = R - m from by omega]
        have hc4 := hc3.step hs12
        simpa [Nat.add_assoc] using hc4
      · refine RamAt.mono (n := n + j + 1) ⟨bm, pg, D, ?_⟩ (by omega)
        rw [← over_over, show x + j = q * 4096 + r from by omega]
        exact hl
    · obtain rfl : j = L := by omega
      have e : j - j = 0 := by omega
      rw [e] at hrd
      rcases hrd with ⟨_, a0, c0, _, rfl⟩ | ⟨b0, o0, c0, rfl, _⟩
      all_goals
        go_wp2
        go_end0
        exact ⟨rfl, G, hram, hst⟩
end Go.Proofs.Ytlkhjekakbckmaa

/- The call get of layer 2: a piece is filled with a memory's bytes. -/
namespace Go.Proofs.Ytlkhjekakbckmaa
open Go.RowKit Go.Maps
set_option linter.unusedVariables false
theorem step_copy_at {P : Program} {ops : Array Oper} {o : Oper} {a : Act} {w : World} {K : Act → World → Prop} {Q : Exit → Act → World → Prop} {E : Prop} (hgd : o.guard = none) (d s : Operand) (dT sT : TypeId)
    (ho : o.op = .call { callee := .builtin .copy, args := #[d, s], argTypes := #[dT, sT] }) (elem : TypeId) (hu : P.underlying dT = some (.slice elem)) (hsz : (P.info? elem).map (·.size) = some 1)
    (g off dLen dCap : Nat) (ad : Addr) (sLen sCap : Nat) (hd : a.eval d = .slice (some ⟨g, off, none⟩) dLen dCap) (hs : a.eval s = .slice (some ad) sLen sCap)
    (cur : Array Value) (t : TypeId) (hg : w.heap[g]? = some (.cells cur t (0, 0))) (cs : List Value) (m : Nat) (hm : cs.length = m) (hn : m = Nat.min sLen dLen)
    (hsrc : ∀ j v, cs[j]? = some v → w.cell? (ad.add j) = some v) (hfit : off + m ≤ cur.size) (h1 : ∀ v ∈ cs, v.oneCell' = true)
    (h : ∀ w', Hid (w' = w.setRow g (cur.toList.take off ++ (cs ++ cur.toList.drop (off + cs.length))).toArray) → K (a.put o.dst (.int .i64 (m : Nat))) w') :
    if Region.wanted o (yielded ops a.tmps) = true then Oper.wp P o a w K Q else E := by
  subst hm
  have hw : Region.wanted o (yielded ops a.tmps) = true := by simp [Region.wanted, hgd]
  rw [if_pos hw]
  have hrun := run_copy_row (P := P) w dT sT o.type elem g off dLen dCap ad sLen sCap cur t cs hu hsz hg hn hsrc hfit h1
  unfold Oper.wp
  simp [execOp, ho, resolve, invoke, builtin, hd, hs, hrun, Result.andThen]
  exact h _ (show _ = _ by simp)
theorem step_setRow (w : World) (g : Nat) (row : Array Value) : Step (fun k => k = g) w (fun k => k = g) (w.drew.setRow g row) :=
  ⟨rfl, rfl, rfl, by simp [World.setRow], fun k hk hne => (setRow_other w.drew g k row hne), fun _ h => .inl h, fun _ h => h⟩
theorem piece_cut {g j L cap R C m : Nat} (hR : L - j = R) (hC : cap - j = C) (hm : m ≤ R) (hRC : R ≤ C) :
    (L - (j + m) = 0 ∧ ∃ a c, Value.slice (if C = m then some ⟨g, j, none⟩ else some ⟨g, j + m, none⟩) (R - m) (C - m) = .slice a 0 c) ∨ Value.slice (if C = m then some ⟨g, j, none⟩ else some ⟨g, j + m, none⟩) (R - m) (C - m) = .slice (some ⟨g, j + m, none⟩) (L - (j + m)) (cap - (j + m)) := by
  by_cases h : R = m
  · left
    refine ⟨by omega, _, C - m, by rw [show R - m = 0 from by omega]⟩
  · right
    rw [if_neg (by omega), show R - m = L - (j + m) from by omega, show C - m = cap - (j + m) from by omega]
set_option maxRecDepth 100000 in
set_option maxHeartbeats 1000000 in
theorem get_any {w : World} {F : Nat → Prop} {rb size n : Nat} {lg : Value} {M : Nat → Nat} (h : RamAt w F rb size n lg M) (x L N g cap : Nat) (t : TypeId) (v : Value) (hv : (L = 0 ∧ ∃ a c, v = .slice a 0 c) ∨ v = .slice (some ⟨g, 0, none⟩) L cap) (hN : L ≤ N) (hc : L ≤ cap ∧ cap < 9223372036854775808) (hg : ¬ F g)
    (hrow : w.heap[g]? = some (.cells (rowK .u8 (fun _ => 0) N).toArray t (0, 0))) (hx : x + L < 9223372036854775808) :
    Calls Try.prog 58 #[.pointer (some ⟨rb, 0, none⟩), .int .u64 (x : Nat), v] w fun e w' => e = .returned (.tuple #[]) ∧ w'.heap[g]? = some (.cells (rowK .u8 (fun i => if i < L then M (x + i) else 0) N).toArray t (0, 0)) ∧ Step (fun k => k = g) w (fun k => k = g) w' := by
  go_enter Try.func58, Try.ntmps58
  go_wp2
  go_loopw [1, 2] (fun a d wr => ∃ j, j ≤ L ∧ a = .int .u64 ((x + j : Nat) : Int) ∧ ((L - j = 0 ∧ ∃ a c, d = .slice a 0 c) ∨ d = .slice (some ⟨g, j, none⟩) (L - j) (cap - j)) ∧ wr.heap[g]? = some (.cells (rowK .u8 (fun i => if i < j then M (x + i) else 0) N).toArray t (0, 0)) ∧ Step (fun k => k = g) w (fun k => k = g) wr) (fun a _ _ => (x + L) - (intOf a).toNat)
  case atStart => exact ⟨0, by omega, rfl, by simpa using hv, by simpa using hrow, Step.refl _ _⟩
  case round =>
    obtain ⟨j, hj, rfl, hd, hrw, hst⟩ := hrel
    have hram : RamAt wr F rb size n lg M := h.step hst (fun k hk e => hg (e ▸ hk))
    by_cases hlt : j < L
    · rcases hd with ⟨h0, _⟩ | rfl
      · omega
      obtain ⟨bm, pg, D, hin⟩ := hram
      obtain ⟨y, hy⟩ : ∃ y, x + j = y := ⟨_, rfl⟩
      obtain ⟨q, r, hqr, hr4⟩ : ∃ q r, y = q * 4096 + r ∧ r < 4096 := ⟨y / 4096, y % 4096, by omega, by omega⟩
      obtain ⟨m, hm⟩ : ∃ m, min (L - j) (4096 - r) = m := ⟨_, rfl⟩
      obtain ⟨R, hR⟩ : ∃ R, L - j = R := ⟨_, rfl⟩
      obtain ⟨C, hC⟩ : ∃ C, cap - j = C := ⟨_, rfl⟩
      have hmin : (if (4096 : Int) - r < (R : Int) then (4096 : Int) - r else (R : Int)) = (m : Nat) := by split <;> omega
      have hq : q < 18446744073709551616 := by omega
      have hy2 : y < 9223372036854775808 := by omega
      have hlk := pages_look hin.2.1 hin.2.2.1 q hq
      have hc1 := hin.cell1
      rw [hy, hR, hC]
      have hR0 : 0 < R ∧ R < 9223372036854775808 ∧ R ≤ C ∧ C < 9223372036854775808 := by omega
      have hm1 : m ≤ R ∧ r + m ≤ 4096 ∧ 0 < m := by omega
      have X : Hid (_ ∧ _ ∧ _ ∧ _ ∧ _ ∧ _ ∧ _ ∧ _) := ⟨hrw, hst, hqr, hm, hR, hC, hy, hin⟩
      clear hrw hst hqr hm hR hC hy hin
      cases hp : pg q with
      | none =>
        rw [hp, ptrOf_none] at hlk
        have P0 : Hid (pg q = none) := hp
        clear hp
        go_wp2_with (first | (go_at_call 96; refine (split_any y q r (by omega) X.out.2.2.1 hr4 _).mono ?_; rintro e w' ⟨rfl, rfl⟩) | (at_lookup; refine wpList_lookup_run rfl _ _ 150 rfl rfl rfl hlk ?_))
        obtain ⟨hrw, hst, hqr, hm, hR, hC, hy, hin⟩ := X.out
        refine ⟨⟨j + m, by omega, by rw [← hy]; congr 1; omega, piece_cut hR hC hm1.1 hR0.2.2.1, ?_, hst⟩, by simp [intOf]; omega⟩
        rw [hrw, rowK_congr .u8 _ (fun i => if i < j + m then M (x + i) else 0) N]
        intro i hi
        by_cases h1 : i < j
        · rw [if_pos h1, if_pos (by omega)]
        · rw [if_neg h1]
          by_cases h2 : i < j + m
          · rw [if_pos h2]
            have := hin.2.2.2.2.1 q P0.out (r + (i - j)) (by omega)
            rw [← this]; congr 1; omega
          · rw [if_neg h2]
      | some b =>
        rw [hp, ptrOf_some] at hlk
        have P0 : Hid (pg q = some b) := hp
        clear hp
        go_wp2_with (first | (go_at_call 96; refine (split_any y q r (by omega) X.out.2.2.1 hr4 _).mono ?_; rintro e w' ⟨rfl, rfl⟩) | (at_lookup; refine wpList_lookup_run rfl _ _ 150 rfl rfl rfl hlk ?_))
        have T1 : Hid (w'.heap[g]? = some (.cells (rowK .u8 (fun i => if i < j then M (x + i) else 0) N).toArray t (0, 0))) := X.out.1
        have T2 : Hid (m = Nat.min (4096 - r) m) := by show m = min _ _; omega
        have T3 : Hid (∀ i v, (rowK .u8 (fun i => M (q * 4096 + r + i)) m)[i]? = some v → w'.cell? ((⟨b, r, none⟩ : Addr).add i) = some v) := by
          intro i v hv
          obtain ⟨hi, rfl⟩ := rowK_at _ _ _ _ _ hv
          rw [addr_add]
          have hb := X.out.2.2.2.2.2.2.2.2.2.2.1 q b P0.out
          simp only [World.cell?, hb]
          rw [pageRow_get _ _ (by omega)]
          simp [Nat.add_assoc]
        have T4 : Hid (j + m ≤ ((rowK .u8 (fun i => if i < j then M (x + i) else 0) N).toArray).size) := by show _ ≤ _; rw [List.size_toArray, rowK_length]; have := X.out.2.2.2.2.1; omega
        have q1 : m ≤ C := by omega
        have q2 : (m : Int) ≤ (C : Int) := by omega
        have q3 : r ≤ 4096 := by omega
        have q4 : (r : Int) ≤ 4096 := by omega
        have q5 : ¬ 4096 = r := by omega
        have q6 : C ≠ 0 := by omega
        go_region_law (refine step_copy_at rfl (.tmp 36) (.tmp 40) 22 22 rfl 5 Try.underlying22 size5 g j m C ⟨b, r, none⟩ (4096 - r) (4096 - r) (by simp [Act.eval, Act.put]) (by simp [Act.eval, Act.put]) (rowK .u8 (fun i => if i < j then M (x + i) else 0) N).toArray t T1.out (rowK .u8 (fun i => M (q * 4096 + r + i)) m) m (rowK_length _ _ _) T2.out T3.out T4.out (rowK_one _ _ _) ?_; intro w2 hw2)
        go_wp2
        obtain ⟨hrw, hst, hqr, hm, hR, hC, hy, hin⟩ := X.out
        have hs2 : Step (fun k => k = g) w' (fun k => k = g) w2 := by rw [hw2.out]; exact step_setRow _ _ _
        refine ⟨⟨j + m, by omega, by rw [← hy]; congr 1; omega, piece_cut hR hC hm1.1 hR0.2.2.1, ?_, hst.trans hs2⟩, by simp [intOf]; omega⟩
        have hh := setRow_heap w'.drew g _ (List.take j (rowK .u8 (fun i => if i < j then M (x + i) else 0) N).toArray.toList ++ (rowK .u8 (fun i => M (q * 4096 + r + i)) m ++ List.drop (j + (rowK .u8 (fun i => M (q * 4096 + r + i)) m).length) (rowK .u8 (fun i => if i < j then M (x + i) else 0) N).toArray.toList)).toArray t _ hrw
        rw [← hw2.out] at hh
        rw [hh, rowK_length]
        show some (Obj.cells (List.take j (rowK .u8 (fun i => if i < j then M (x + i) else 0) N) ++ (rowK .u8 (fun i => M (q * 4096 + r + i)) m ++ List.drop (j + m) (rowK .u8 (fun i => if i < j then M (x + i) else 0) N))).toArray t (0, 0)) = _
        rw [row_copyN N _ _ j m (by omega), rowK_congr .u8 _ (fun i => if i < j + m then M (x + i) else 0) N]
        intro i hi
        by_cases h1 : i < j
        · rw [if_neg (by omega), if_pos h1, if_pos (by omega)]
        · by_cases h2 : i < j + m
          · rw [if_pos (by omega), if_pos h2]; show M _ = M _; congr 1; omega
          · rw [if_neg (by omega), if_neg h1, if_neg h2]
    · obtain rfl : j = L := by omega
      have e : j - j = 0 := by omega
      rw [e] at hd
      rcases hd with ⟨_, a0, c0, rfl⟩ | rfl
      all_goals
        go_wp2
        go_end0
        exact ⟨rfl, hrw, hst⟩
end Go.Proofs.Ytlkhjekakbckmaa

/- The calls of layer 2 on one memory: New, Size, Has, Write, Read, Load, Store. -/
namespace Go.Proofs.Ytlkhjekakbckmaa
open Go.RowKit Go.Maps
set_option linter.unusedVariables false
def rightB (s : Nat) : Bool := decide (4096 ≤ s ∧ s ≤ 268435456 ∧ s % 4096 = 0)
def widB (n : Int) : Bool := decide (n = 1 ∨ n = 2 ∨ n = 4 ∨ n = 8)
theorem size_any {w : World} {F : Nat → Prop} {rb size n : Nat} {lg : Value} {M : Nat → Nat} (h : RamAt w F rb size n lg M) :
    Calls Try.prog 95 #[.pointer (some ⟨rb, 0, none⟩)] w fun e w' => e = .returned (.int .u64 (size : Nat)) ∧ w' = w := by
  have hc := h.cells.1
  go_enter Try.func95, Try.ntmps95
  go_wp2
  go_ret
  exact ⟨rfl, rfl⟩
theorem has_any {w : World} {F : Nat → Prop} {rb size n : Nat} {lg : Value} {M : Nat → Nat} (h : RamAt w F rb size n lg M) (hs : size ≤ 268435456) (x L : Nat) (hx : x < 18446744073709551616) (hL : L < 18446744073709551616) :
    Calls Try.prog 57 #[.pointer (some ⟨rb, 0, none⟩), .int .u64 (x : Nat), .int .u64 (L : Nat)] w fun e w' => e = .returned (.bool (inB x L 2147483648 size)) ∧ w' = w := by
  go_enter Try.func57, Try.ntmps57
  go_wp2_with (first | (go_at_call 95; refine (size_any h).mono ?_; rintro e w' ⟨rfl, rfl⟩) | (go_at_call 94; refine (within_any _ _ _ _ (by omega) (by omega) (by omega) (by omega) _).mono ?_; rintro e w' ⟨rfl, rfl⟩))
  go_ret
  exact ⟨rfl, rfl⟩
theorem new_no (s : Nat) (hs : s < 18446744073709551616) (h : rightB s = false) (w : World) :
    Calls Try.prog 19 #[.int .u64 (s : Nat)] w fun e w' => e = .returned (.tuple #[.pointer none, .int .i64 20]) ∧ w' = w := by
  have h' : ¬ (4096 ≤ s ∧ s ≤ 268435456 ∧ s % 4096 = 0) := by simpa [rightB] using h
  by_cases h1 : (s : Int) < 4096
  · go_enter Try.func19, Try.ntmps19
    go_wp2_with (first | (go_at_call 60; refine (aligned_pos _ _ (by omega) (by omega) _).mono ?_; rintro e w' ⟨rfl, rfl⟩))
    go_ret2
    exact ⟨rfl, rfl⟩
  by_cases h2 : (268435456 : Int) < s
  · go_enter Try.func19, Try.ntmps19
    go_wp2_with (first | (go_at_call 60; refine (aligned_pos _ _ (by omega) (by omega) _).mono ?_; rintro e w' ⟨rfl, rfl⟩))
    go_ret2
    exact ⟨rfl, rfl⟩
  have h3 : (((s : Int) % 4096) == 0) = false := by simp; omega
  have H : Hid ((((s : Int) % 4096) == 0) = false) := h3
  clear h h' h3
  go_enter Try.func19, Try.ntmps19
  go_wp2_with (first | (go_at_call 60; refine (aligned_pos _ _ (by omega) (by omega) _).mono ?_; rintro e w' ⟨rfl, rfl⟩; rw [H.out]))
  go_ret2
  exact ⟨rfl, rfl⟩
theorem new_yes (s : Nat) (h : rightB s = true) (w : World) :
    Calls Try.prog 19 #[.int .u64 (s : Nat)] w fun e w' => ∃ rb F, e = .returned (.tuple #[.pointer (some ⟨rb, 0, none⟩), .int .i64 0]) ∧ RamAt w' F rb s 0 (.pointer none) (fun _ => 0) ∧ (∀ k, F k → w.heap.size ≤ k) ∧ Below w.heap.size w w' := by
  have h' : 4096 ≤ s ∧ s ≤ 268435456 ∧ s % 4096 = 0 := by simpa [rightB] using h
  have h1 : ¬ (s : Int) < 4096 := by omega
  have h2 : ¬ (268435456 : Int) < s := by omega
  have h3 : (((s : Int) % 4096) == 0) = true := by simp; omega
  have H : Hid ((((s : Int) % 4096) == 0) = true) := h3
  clear h h' h3
  have hmm := @run_makeMap Try.prog
  go_enter Try.func19, Try.ntmps19
  go_wp2_with (first | (go_at_call 60; refine (aligned_pos _ _ (by omega) (by omega) _).mono ?_; rintro e w' ⟨rfl, rfl⟩; rw [H.out]))
  go_ret2
  refine ⟨w'.heap.size + 1, fun k => k = w'.heap.size ∨ k = w'.heap.size + 1, rfl, ⟨w'.heap.size, fun _ => none, .map [], ?_, ?_, paged_made, ?_, ?_, ?_, .inr rfl, .inl rfl, ?_, ?_, ?_⟩, ?_, ?_⟩
  · have := heap_alloc_new (w'.alloc (.map #[] 0)) (.cells #[.int .u64 (s : Nat), .map (some w'.heap.size), .pointer none] 153)
    simpa using this
  · exact (World.ownsMap_made w' Try.prog 23 ptrElem).alloc _
  · intro k b hk; cases hk
  · intro k _ i _; rfl
  · intro k k' b hk; cases hk
  · intro k b hk; cases hk
  · rintro k (rfl | rfl) <;> simp <;> omega
  · intro a; exact Nat.zero_le _
  · rintro k (rfl | rfl) <;> omega
  · exact ((Below.refl _ _).alloc (Nat.le_refl _) _).alloc (by simp) _
theorem watched_nil {w : World} {F : Nat → Prop} {rb size n : Nat} {M : Nat → Nat} (h : RamAt w F rb size n (.pointer none) M) (L : Nat) (hL : L < 18446744073709551616) :
    Calls Try.prog 98 #[.pointer (some ⟨rb, 0, none⟩), .int .u64 (L : Nat)] w fun e w' => e = .returned (.bool false) ∧ w' = w := by
  have hc := h.cells.2
  by_cases h0 : (0 : Int) < L
  · go_enter Try.func98, Try.ntmps98
    go_wp2
    go_ret
    exact ⟨rfl, rfl⟩
  · go_enter Try.func98, Try.ntmps98
    go_wp2
    go_ret
    exact ⟨rfl, rfl⟩
theorem tellWrite_nil {w : World} {F : Nat → Prop} {rb size n : Nat} {M : Nat → Nat} (h : RamAt w F rb size n (.pointer none) M) (x : Value) (L : Nat) (hL : L < 18446744073709551616) :
    Calls Try.prog 62 #[.pointer (some ⟨rb, 0, none⟩), x, .int .u64 (L : Nat)] w fun e w' => e = .returned (.tuple #[]) ∧ w' = w := by
  go_enter Try.func62, Try.ntmps62
  go_wp2_with (first | (go_at_call 98; refine (watched_nil h L hL).mono ?_; rintro e w' ⟨rfl, rfl⟩))
  go_end0
  exact ⟨rfl, rfl⟩
theorem tellRead_nil {w : World} {F : Nat → Prop} {rb size n : Nat} {M : Nat → Nat} (h : RamAt w F rb size n (.pointer none) M) (x : Value) (L : Nat) (hL : L < 18446744073709551616) :
    Calls Try.prog 63 #[.pointer (some ⟨rb, 0, none⟩), x, .int .u64 (L : Nat)] w fun e w' => e = .returned (.tuple #[]) ∧ w' = w := by
  go_enter Try.func63, Try.ntmps63
  go_wp2_with (first | (go_at_call 98; refine (watched_nil h L hL).mono ?_; rintro e w' ⟨rfl, rfl⟩))
  go_end0
  exact ⟨rfl, rfl⟩
theorem ReadsF.form {F : Nat → Prop} {w : World} {v : Value} {n : Nat} {f : Nat → Nat} (h : ReadsF F w v n f) : ∃ a cap, v = .slice a n cap ∧ n ≤ 9223372036854775807 := by
  rcases h with ⟨rfl, a, cap, _, rfl⟩ | ⟨b, off, cap, rfl, _, h1, h2, _⟩
  · exact ⟨a, cap, rfl, by omega⟩
  · exact ⟨_, _, rfl, by omega⟩
set_option maxHeartbeats 400000 in
theorem write_any {w : World} {F : Nat → Prop} {rb size n : Nat} {M : Nat → Nat} (h : RamAt w F rb size n (.pointer none) M) (hs : size ≤ 268435456) (x L : Nat) (f : Nat → Nat) (v : Value) (hx : x < 18446744073709551616) (hr : ReadsF F w v L f) (hf : ∀ i, i < L → f i ≤ 255) (hn : n + L ≤ 1000000) :
    Calls Try.prog 21 #[.pointer (some ⟨rb, 0, none⟩), .int .u64 (x : Nat), v] w fun e w' => e = .returned (.bool (inB x L 2147483648 size)) ∧ ∃ F', RamAt w' F' rb size (n + L) (.pointer none) (if inB x L 2147483648 size = true then over M x L f else M) ∧ Step F w F' w' := by
  obtain ⟨a, cap, rfl, hL⟩ := hr.form
  cases hin : inB x L 2147483648 size with
  | true =>
    rw [if_pos rfl]
    have hb : (2147483648 : Int) ≤ x ∧ (x : Int) + L ≤ 2147483648 + size := by simpa [inB] using hin
    have H : Hid (inB x L 2147483648 size = true) := hin
    clear hin
    go_enter Try.func21, Try.ntmps21
    go_wp2_with (first | (go_at_call 57; refine (has_any h hs x L hx (by omega)).mono ?_; rintro e w' ⟨rfl, rfl⟩; rw [H.out]) | (go_at_call 61; refine (put_any h x L f _ hr hf (by omega) hn).mono ?_; rintro e w1 ⟨rfl, F1, h1, hs1⟩) | (go_at_call 62; refine (tellWrite_nil h1 _ L (by omega)).mono ?_; rintro e w' ⟨rfl, rfl⟩))
    go_ret
    exact ⟨rfl, F1, h1, hs1⟩
  | false =>
    rw [if_neg (by simp)]
    have H : Hid (inB x L 2147483648 size = false) := hin
    clear hin
    go_enter Try.func21, Try.ntmps21
    go_wp2_with (first | (go_at_call 57; refine (has_any h hs x L hx (by omega)).mono ?_; rintro e w' ⟨rfl, rfl⟩; rw [H.out]))
    go_ret
    exact ⟨rfl, F, h.mono (by omega), Step.refl _ _⟩
theorem reads_ownF {F : Nat → Prop} {w : World} {base : Nat} {v : Value} {n : Nat} {f : Nat → Nat} (h : w.ownsRow base 5 1 v n (rowK .u8 f n)) (hF : ∀ k, F k → k < base) : ReadsF F w v n f := by
  rcases h.2 with ⟨rfl, rfl⟩ | ⟨g, cap, cur, rfl, hb, _, h1, h2, _⟩
  · exact .inl ⟨rfl, _, _, by omega, rfl⟩
  · refine .inr ⟨g, 0, cap, rfl, fun hf => by have := hF g hf; omega, h1, by unfold maxLen at h2; omega, fun i hi => by rw [Nat.zero_add, h.cellAt i (by omega)]; exact rowK_get _ _ _ _ hi⟩
end Go.Proofs.Ytlkhjekakbckmaa

/- The calls Read and Load of layer 2. -/
namespace Go.Proofs.Ytlkhjekakbckmaa
open Go.RowKit Go.Maps
set_option linter.unusedVariables false
theorem read_out {w : World} {F : Nat → Prop} {rb size n : Nat} {lg : Value} {M : Nat → Nat} (h : RamAt w F rb size n lg M) (hs : size ≤ 268435456) (x L : Nat) (hx : x < 18446744073709551616) (hL : L < 18446744073709551616) (hin : inB x L 2147483648 size = false) :
    Calls Try.prog 22 #[.pointer (some ⟨rb, 0, none⟩), .int .u64 (x : Nat), .int .u64 (L : Nat)] w fun e w' => e = .returned (.tuple #[.slice none 0 0, .bool false]) ∧ w' = w := by
  have H : Hid (inB x L 2147483648 size = false) := hin
  clear hin
  go_enter Try.func22, Try.ntmps22
  go_wp2_with (first | (go_at_call 57; refine (has_any h hs x L hx hL).mono ?_; rintro e w' ⟨rfl, rfl⟩; rw [H.out]))
  go_ret2
  exact ⟨rfl, rfl⟩
theorem whole_row {w : World} {base : Nat} {e : TypeId} {g n : Nat} {xs : List Value} (h : w.ownsRow base e 1 (.slice (some ⟨g, 0, none⟩) n n) n xs) : w.heap[g]? = some (.cells xs.toArray e (0, 0)) := by
  rcases h.2 with ⟨h1, _⟩ | ⟨g', cap, cur, hv, _, hg, _, _, hsz, htake⟩
  · cases h1
  · cases hv
    rw [hg, ← htake, List.take_of_length_le (by simp; omega)]
theorem row_owned {w : World} {base : Nat} {g n : Nat} {f : Nat → Nat} (hb : base ≤ g) (hn : n ≤ maxLen) (h : w.heap[g]? = some (.cells (rowK .u8 f n).toArray 5 (0, 0))) : w.ownsRow base 5 1 (.slice (some ⟨g, 0, none⟩) n n) n (rowK .u8 f n) :=
  ⟨by rw [rowK_length]; omega, .inr ⟨g, n, _, rfl, hb, h, Nat.le_refl _, hn, by rw [List.size_toArray, rowK_length]; omega, by simp only; rw [List.take_of_length_le (by rw [rowK_length]; omega)]⟩⟩
theorem read_in {w : World} {F : Nat → Prop} {rb size n : Nat} {M : Nat → Nat} (h : RamAt w F rb size n (.pointer none) M) (hs : size ≤ 268435456) (x L : Nat) (hx : x < 18446744073709551616) (hL : L < 18446744073709551616) (hin : inB x L 2147483648 size = true) :
    Calls Try.prog 22 #[.pointer (some ⟨rb, 0, none⟩), .int .u64 (x : Nat), .int .u64 (L : Nat)] w fun e w' => e = .returned (.tuple #[.slice (some ⟨w.heap.size, 0, none⟩) L L, .bool true]) ∧ w'.ownsRow w.heap.size 5 1 (.slice (some ⟨w.heap.size, 0, none⟩) L L) L (rowK .u8 (fun i => M (x + i)) L) ∧ Below w.heap.size w w' := by
  obtain ⟨i0, hi, hz0, hz1, hz2⟩ := info_parts Try.info5
  have hb : (2147483648 : Int) ≤ x ∧ (x : Int) + L ≤ 2147483648 + size := by simpa [inB] using hin
  have H : Hid (inB x L 2147483648 size = true) := hin
  clear hin
  go_enter Try.func22, Try.ntmps22
  go_wp2_with (first | (go_at_call 57; refine (has_any h hs x L hx hL).mono ?_; rintro e w' ⟨rfl, rfl⟩; rw [H.out]) | (at_make; refine wpList_make_full _ rfl _ _ 22 rfl w'.heap.size 5 i0 (.int .u8 0) 1 Try.underlying22 hi hz0 hz1 _ _ _ _ L rfl rfl ?m1 ?m2 ?m3 ?m4 ?m5 ?_))
  case m1 => rfl
  case m2 => rfl
  case m3 => rw [hz2]; omega
  case m4 => unfold maxLen; omega
  case m5 => omega
  · intro w1 hown0 hgrow0
    have hb0 : Below w'.heap.size w' w1 := Below.grown (Below.refl _ _) hgrow0 (Nat.le_refl _) (by simp)
    rw [toList_madeCells_one, rowK_zero] at hown0
    have hrow := whole_row hown0
    have X : Hid (_ ∧ _) := ⟨hrow, hb0⟩
    have hnew := hown0.lt w'.heap.size rfl
    clear hown0 hgrow0 hrow hb0
    go_wp2_with (first | (go_at_call 58; refine (get_any (h.below X.out.2) x L L w'.heap.size L 5 _ (.inr rfl) (Nat.le_refl _) (by omega) (fun hf => by have := h.lt _ hf; omega) X.out.1 (by omega)).mono ?_; rintro e w2 ⟨rfl, hr2, hs2⟩) | (go_at_call 63; refine (tellRead_nil ((h.below X.out.2).step hs2 (fun k hk e => by have := h.lt _ hk; omega)) _ L hL).mono ?_; rintro e w3 ⟨rfl, rfl⟩))
    go_ret2
    refine ⟨rfl, row_owned (Nat.le_refl _) (by unfold maxLen; omega) ?_, X.out.2.trans (hs2.below (by omega) (fun k hk => by omega))⟩
    rw [hr2, rowK_congr .u8 _ (fun i => M (x + i)) L]
    intro i hi
    rw [if_pos hi]
theorem eight_zero : (#[.int .u8 0, .int .u8 0, .int .u8 0, .int .u8 0, .int .u8 0, .int .u8 0, .int .u8 0, .int .u8 0] : Array Value) = (rowK .u8 (fun _ => 0) 8).toArray := by
  rw [← rowK_zero]; rfl
theorem reads_row {w : World} {g n N cap : Nat} {t : TypeId} {f : Nat → Nat} (h : w.heap[g]? = some (.cells (rowK .u8 f N).toArray t (0, 0))) (hn : n ≤ N) : Reads .u8 w (.slice (some ⟨g, 0, none⟩) n cap) n f :=
  .inr ⟨g, 0, cap, rfl, fun i hi => by simp only [World.cell?, h]; rw [List.getElem?_toArray, Nat.zero_add, rowK_get _ _ _ _ (by omega)]; rfl⟩
theorem h256_congr (f g : Nat → Nat) : ∀ (m i : Nat), (∀ j, j < m → f (i + j) = g (i + j)) → h256 f m i = h256 g m i
  | 0, _, _ => rfl
  | m + 1, i, h => by
    have h0 := h 0 (by omega)
    rw [h256, h256, h256_congr f g m (i + 1) (fun j hj => by have := h (j + 1) (by omega); rwa [show i + 1 + j = i + (j + 1) from by omega])]
    simp at h0
    rw [h0]
end Go.Proofs.Ytlkhjekakbckmaa

/- The call 'awake' of the statements of layer 2 returns true; the statement on sizes returns true for every input. -/
namespace Go.Proofs.Ytlkhjekakbckmaa
open Go.RowKit Go.Maps
set_option linter.unusedVariables false
theorem new_4097 (w : World) : Calls Try.prog 19 #[.int .u64 4097] w fun e w' => e = .returned (.tuple #[.pointer none, .int .i64 20]) ∧ w' = w := new_no 4097 (by omega) (by decide) w
theorem new_4096 (w : World) : Calls Try.prog 19 #[.int .u64 4096] w fun e w' => ∃ rb F, e = .returned (.tuple #[.pointer (some ⟨rb, 0, none⟩), .int .i64 0]) ∧ RamAt w' F rb 4096 0 (.pointer none) (fun _ => 0) ∧ (∀ k, F k → w.heap.size ≤ k) ∧ Below w.heap.size w w' := new_yes 4096 (by decide) w
theorem awake_has {w : World} {F : Nat → Prop} {rb : Nat} {M : Nat → Nat} (h : RamAt w F rb 4096 8 (.pointer none) M) : Calls Try.prog 57 #[.pointer (some ⟨rb, 0, none⟩), .int .u64 2147487744, .int .u64 0] w fun e w' => e = .returned (.bool true) ∧ w' = w := has_any h (by omega) 2147487744 0 (by omega) (by omega)
end Go.Proofs.Ytlkhjekakbckmaa

/- The statement on whose the bytes are returns true for every input. -/
namespace Go.Proofs.Ytlkhjekakbckmaa
open Go.RowKit Go.Maps
set_option linter.unusedVariables false
theorem bytes_same (f : Nat → Nat) (n : Nat) (v1 v2 : Value) (hn : n ≤ 1000000) (w : World) (r1 : Reads .u8 w v1 n f) (r2 : Reads .u8 w v2 n f) :
    Calls Try.prog 23 #[v1, v2] w fun e w' => e = .returned (.bool true) ∧ ∃ q, w' = w.drewN q := by
  obtain ⟨a1, c1, rfl⟩ := reads_form r1
  obtain ⟨a2, c2, rfl⟩ := reads_form r2
  by_cases h0 : n = 0
  · subst h0
    go_enter Try.func23, Try.ntmps23
    go_wp2
    go_loopw [5] (fun i wr => i = .int .i64 0 ∧ ∃ q, wr = w.drewN q) (fun _ _ => 0)
    case atStart => exact ⟨rfl, 0, rfl⟩
    case round =>
      obtain ⟨rfl, q, rfl⟩ := hrel
      go_wp2
      go_ret
      exact ⟨rfl, q, rfl⟩
  · obtain ⟨b1, o1, c1', e1, hc1⟩ := reads_some r1 (by omega)
    obtain ⟨b2, o2, c2', e2, hc2⟩ := reads_some r2 (by omega)
    simp only [Value.slice.injEq] at e1 e2
    obtain ⟨rfl, -, rfl⟩ := e1
    obtain ⟨rfl, -, rfl⟩ := e2
    go_enter Try.func23, Try.ntmps23
    go_wp2
    go_loopw [5] (fun i wr => ∃ k : Nat, k ≤ n ∧ i = .int .i64 k ∧ ∃ q, wr = w.drewN q) (fun i _ => n - (intOf i).toNat)
    case atStart => exact ⟨0, by omega, rfl, 0, rfl⟩
    case round =>
      obtain ⟨k, hk, rfl, q, rfl⟩ := hrel
      by_cases hlt : k < n
      · have h1 := hc1 k hlt
        have h2 := hc2 k hlt
        have hkL : (k : Int) < n := by omega
        clear hc1 hc2 r1 r2
        go_wp2
        go_quiet (fail)
        go_wp2
        go_roundw
        case rel => exact ⟨k + 1, by omega, by go_num, _, rfl⟩
        case measure => simp [intOf]; omega
      · clear hc1 hc2 r1 r2
        go_wp2
        go_ret
        exact ⟨rfl, q, rfl⟩
theorem src_zero {w : World} {x : Option Addr} {c : Nat} : Src Try.prog 1 22 (.slice x 0 c) 0 [] w := by
  cases x with
  | none => exact Src.ofNil w Try.underlying22 c
  | some a => exact Src.ofSlice w Try.underlying22 a 0 c [] rfl (by simp) (by simp)
theorem rowK_nil (k : IntKind) (f : Nat → Nat) : rowK k f 0 = [] := rfl
/-- 'append([]byte{}, data...)' -/
theorem wpList_append_all {w : World} {ops : Array Oper} {rest : List Oper} {o : Oper} {a : Act} {Q : Exit → Act → World → Prop} (hgd : o.guard = none) (s x : Operand) (ho : o.op = .call { callee := .builtin .append, args := #[s, x], argTypes := #[22, 22] })
    (B g : Nat) (hs : a.eval s = .slice (some ⟨g, 0, none⟩) 0 0) (hown : w.ownsRow B 5 1 (.slice (some ⟨g, 0, none⟩) 0 0) 0 []) (v : Value) (hx : a.eval x = v) (L : Nat) (f : Nat → Nat) (hr : Reads .u8 w v L f) (hL : L ≤ 100) (hB : B ≤ w.heap.size)
    (h : ∀ g' cap w', w'.ownsRow B 5 1 (.slice (some ⟨g', 0, none⟩) L cap) L (rowK .u8 f L) → Below B w w' → B ≤ g' → wpList Try.prog ops Q rest (a.put o.dst (.slice (some ⟨g', 0, none⟩) L cap)) w') : wpList Try.prog ops Q (o :: rest) a w := by
  obtain ⟨i0, hi, hz0, hz1, hz2⟩ := info_parts Try.info5
  have hg := (hown.lt g rfl).1
  rcases hr with ⟨rfl, ax, c, rfl⟩ | ⟨b, off, c, rfl, hc⟩
  · refine wpList_plain hgd fun K hK => ?_
    have hrun := run_append_room_src (P := Try.prog) w 22 22 o.type 5 i0 Try.underlying22 hi g 0 0 0 (.slice ax 0 c) 0 [] (by rw [hz1]; exact src_zero) (by omega) (by simp) (by simp)
    unfold Oper.wp
    simp [execOp, ho, resolve, invoke, builtin, hs, hx, hrun, Result.andThen]
    exact hK _ _ (h g 0 w (by rw [rowK_nil]; exact hown) (Below.refl _ _) hg)
  · refine wpList_append_own w hgd s x 22 ho B 5 i0 (.int .u8 0) 1 1 Try.underlying22 hi hz0 hz1 hz2 rfl (by decide) _ 0 [] hs hown ⟨b, off, none⟩ L c (rowK .u8 f L) hx (by rw [rowK_length]; omega) (fun j u hu => by obtain ⟨h1, rfl⟩ := rowK_at _ _ _ _ _ hu; rw [addr_add]; exact hc j h1) (rowK_one _ _ _) (by unfold maxLen; omega) (by omega) hB ?_
    intro v' w' hown' hgrow hnil
    rw [Nat.zero_add, List.nil_append] at hown'
    rcases hown'.2 with ⟨rfl, _⟩ | ⟨g', cap, cur, rfl, hb', _⟩
    · have := hnil.1 rfl; simp at this
    · exact h g' cap w' hown' (Below.grown (Below.refl _ _) hgrow hB (fun j hj => by cases hj; exact hg)) hb'
/-- L cells of a block hold bytes, and may be written -/
def Bytey (w : World) (g L : Nat) : Prop := ∀ i, i < L → ∃ z, w.cell? ⟨g, i, none⟩ = some (.int .u8 z) ∧ w.frozen? ⟨g, i, none⟩ = false
theorem bytey_row {w : World} {base g L cap : Nat} {f : Nat → Nat} (h : w.ownsRow base 5 1 (.slice (some ⟨g, 0, none⟩) L cap) L (rowK .u8 f L)) : Bytey w g L := fun i hi =>
  ⟨f i, by rw [h.cellAt i (by omega)]; exact rowK_get _ _ _ _ hi, h.frozenAt i⟩
theorem bytey_set {w : World} {g L k : Nat} {z : Int} (h : Bytey w g L) : Bytey (w.setCell ⟨g, k, none⟩ (.int .u8 z)) g L := fun i hi => by
  obtain ⟨y, h1, h2⟩ := h i hi
  rw [World.frozen?_setCell]
  by_cases e : i = k
  · subst e
    exact ⟨z, World.cell?_setCell_same _ _ _ h1, h2⟩
  · exact ⟨y, by rw [World.cell?_setCell_other _ _ _ _ (fun h => e (by cases h; rfl))]; exact h1, h2⟩
theorem step_setCell (w : World) (g k : Nat) (v : Value) : Step (fun x => x = g) w (fun x => x = g) (w.setCell ⟨g, k, none⟩ v) :=
  ⟨rfl, rfl, rfl, by simp [World.setCell], fun x hx hne => by simp only [World.setCell]; rw [Array.getElem?_modify, if_neg (fun e => hne e.symm)], fun _ h => .inl h, fun _ h => h⟩
theorem row_step {w w' : World} {base : Nat} {e : TypeId} {g n cap : Nat} {xs : List Value} {F F' : Nat → Prop} (h : w.ownsRow base e 1 (.slice (some ⟨g, 0, none⟩) n cap) n xs) (hs : Step F w F' w') (hg : ¬ F g) : w'.ownsRow base e 1 (.slice (some ⟨g, 0, none⟩) n cap) n xs := by
  refine ⟨h.1, ?_⟩
  rcases h.2 with ⟨h1, _⟩ | ⟨g', cap', cur, hv, hb, hgg, rest⟩
  · cases h1
  · cases hv
    exact .inr ⟨g, cap, cur, rfl, hb, (hs.block g (Array.getElem?_eq_some_iff.1 hgg).1 hg).trans hgg, rest⟩
theorem over_in (M : Nat → Nat) (x L : Nat) (f : Nat → Nat) (i : Nat) (hi : i < L) : over M x L f (x + i) = f i := by
  unfold over; rw [if_pos (by omega)]; congr 1; omega
theorem read_over {w : World} {F : Nat → Prop} {rb size n : Nat} {M f : Nat → Nat} {x L : Nat} (h : RamAt w F rb size n (.pointer none) (over M x L f)) (hs : size ≤ 268435456) (hx : x < 18446744073709551616) (hL : L < 18446744073709551616) (hin : inB x L 2147483648 size = true) :
    Calls Try.prog 22 #[.pointer (some ⟨rb, 0, none⟩), .int .u64 (x : Nat), .int .u64 (L : Nat)] w fun e w' => e = .returned (.tuple #[.slice (some ⟨w.heap.size, 0, none⟩) L L, .bool true]) ∧ w'.ownsRow w.heap.size 5 1 (.slice (some ⟨w.heap.size, 0, none⟩) L L) L (rowK .u8 f L) ∧ Below w.heap.size w w' :=
  (read_in h hs x L hx hL hin).mono fun e w' ⟨he, h1, h2⟩ => by
    rw [rowK_congr .u8 _ f L (fun i hi => over_in M x L f i hi)] at h1
    exact ⟨he, h1, h2⟩
end Go.Proofs.Ytlkhjekakbckmaa

/- The document's answers Right and Has of layer 2; the statement on sizes returns true for every input. -/
namespace Go.Proofs.Ytlkhjekakbckmaa
open Go.RowKit Go.Maps
set_option linter.unusedVariables false
theorem rhas_any (s x L : Nat) (v : Value) (hs : s < 18446744073709551616) (hx : x < 18446744073709551616) (hL : L < 18446744073709551616) (w : World) :
    Calls Try.prog 45 #[.agg #[.int .u64 (s : Nat), v], .int .u64 (x : Nat), .int .u64 (L : Nat)] w fun e w' => e = .returned (.bool (inB x L 2147483648 s)) ∧ Below w.heap.size w w' := by
  go_enter Try.func45, Try.ntmps45
  go_wp2_with (first | (go_at_call 84; refine (rwithin_any _ _ _ _ (by omega) (by omega) (by omega) (by omega) _).mono ?_; rintro e w' ⟨rfl, rfl⟩))
  go_ret
  exact ⟨rfl, (Below.refl _ _).alloc (Nat.le_refl _) _⟩
end Go.Proofs.Ytlkhjekakbckmaa

/- The document's answers of layer 2: a memory as what was written, the last ones counting. -/
namespace Go.Proofs.Ytlkhjekakbckmaa
open Go.RowKit Go.Maps
set_option linter.unusedVariables false
/-- the byte at an address: the last of the first k that were written there -/
def rget (bs : Nat → Nat × Nat) : Nat → Nat → Nat
  | 0, _ => 0
  | k + 1, a => if (bs k).1 = a then (bs k).2 else rget bs k a
/-- a list of bytes with their addresses, in no block of F -/
def RefIn (F : Nat → Prop) (w : World) (v : Value) (n : Nat) (bs : Nat → Nat × Nat) : Prop :=
  (n = 0 ∧ ∃ a c, v = .slice a 0 c) ∨ ∃ g c, v = .slice (some ⟨g, 0, none⟩) n c ∧ ¬ F g ∧ ∀ i, i < n → w.cell? ⟨g, i * 2, none⟩ = some (.int .u64 ((bs i).1 : Nat)) ∧ w.cell? ⟨g, i * 2 + 1, none⟩ = some (.int .u8 ((bs i).2 : Nat))
theorem RefIn.form {F : Nat → Prop} {w : World} {v : Value} {n : Nat} {bs : Nat → Nat × Nat} (h : RefIn F w v n bs) : ∃ a c, v = .slice a n c := by
  rcases h with ⟨rfl, a, c, rfl⟩ | ⟨g, c, rfl, _⟩
  · exact ⟨a, c, rfl⟩
  · exact ⟨_, c, rfl⟩
theorem RefIn.step {F F' : Nat → Prop} {w w' : World} {v : Value} {n : Nat} {bs : Nat → Nat × Nat} (h : RefIn F w v n bs) (hs : Step F w F' w') : RefIn F' w' v n bs := by
  rcases h with h | ⟨g, c, hv, hb, hc⟩
  · exact .inl h
  · by_cases h0 : n = 0
    · subst h0; exact .inl ⟨rfl, _, c, hv⟩
    · have hlt : g < w.heap.size := block_lt_of_cell (hc 0 (by omega)).1
      refine .inr ⟨g, c, hv, fun hf => ?_, fun i hi => ?_⟩
      · rcases hs.old g hf with h3 | h3
        · exact hb h3
        · omega
      · rw [World.cell?_of_block (a := ⟨g, i * 2, none⟩) (hs.block g hlt hb), World.cell?_of_block (a := ⟨g, i * 2 + 1, none⟩) (hs.block g hlt hb)]; exact hc i hi
theorem RefIn.below {F : Nat → Prop} {w w' : World} {v : Value} {n : Nat} {bs : Nat → Nat × Nat} (h : RefIn F w v n bs) (hb : Below w.heap.size w w') : RefIn F w' v n bs := h.step (Step.of_below hb)
/-- what is written behind others -/
def wrote (bs : Nat → Nat × Nat) (n x : Nat) (f : Nat → Nat) (i : Nat) : Nat × Nat := if i < n then bs i else (x + (i - n), f (i - n))
theorem rget_congr (bs cs : Nat → Nat × Nat) : ∀ n a, (∀ i, i < n → bs i = cs i) → rget bs n a = rget cs n a
  | 0, _, _ => rfl
  | n + 1, a, h => by rw [rget, rget, h n (by omega), rget_congr bs cs n a (fun i hi => h i (by omega))]
theorem rget_wrote (bs : Nat → Nat × Nat) (n x : Nat) (f : Nat → Nat) : ∀ L a, rget (wrote bs n x f) (n + L) a = over (rget bs n) x L f a
  | 0, a => by rw [over_zero, Nat.add_zero]; exact rget_congr _ _ n a (fun i hi => by unfold wrote; rw [if_pos hi])
  | L + 1, a => by
    have ih := rget_wrote bs n x f L a
    rw [show n + (L + 1) = (n + L) + 1 from by omega, rget, ih]
    have e : wrote bs n x f (n + L) = (x + L, f L) := by unfold wrote; rw [if_neg (by omega), show n + L - n = L from by omega]
    rw [e]
    unfold over
    by_cases h : x + L = a
    · subst h
      rw [if_pos rfl, if_pos (by omega)]; show f L = f _; congr 1; omega
    · rw [if_neg h]
      by_cases h2 : x ≤ a ∧ a < x + L
      · rw [if_pos h2, if_pos (by omega)]
      · rw [if_neg h2, if_neg (by omega)]
theorem addr_num (x i : Nat) (h : x + i < 18446744073709551616) : IntKind.u64.wrap ((x : Int) + (i : Int)) = ((x + i : Nat) : Int) := by
  rw [wrap_u64]; omega
theorem row_below {w w' : World} {base : Nat} {e : TypeId} {g n cap : Nat} {xs : List Value} (h : w.ownsRow base e 1 (.slice (some ⟨g, 0, none⟩) n cap) n xs) (hb : Below w.heap.size w w') : w'.ownsRow base e 1 (.slice (some ⟨g, 0, none⟩) n cap) n xs :=
  row_step (F := fun _ => False) h (Step.of_below hb) (fun h => h)
theorem fill_step (f : Nat → Nat) (k L : Nat) : (rowK .u8 (fun i => if i < k then f i else 0) L).set k (.int .u8 (f k : Nat)) = rowK .u8 (fun i => if i < k + 1 then f i else 0) L := by
  rw [rowK_set]
  apply rowK_congr
  intro i hi
  by_cases e : i = k
  · subst e; simp
  · rw [if_neg e]
    by_cases h : i < k
    · rw [if_pos h, if_pos (by omega)]
    · rw [if_neg h, if_neg (by omega)]
theorem fill_done (f : Nat → Nat) (L : Nat) : rowK .u8 (fun i => if i < L then f i else 0) L = rowK .u8 f L := rowK_congr _ _ _ _ (fun i hi => by rw [if_pos hi])
theorem fill_zero (f : Nat → Nat) (L : Nat) : rowK .u8 (fun _ => 0) L = rowK .u8 (fun i => if i < 0 then f i else 0) L := rowK_congr _ _ _ _ (fun i hi => by rw [if_neg (by omega)])
end Go.Proofs.Ytlkhjekakbckmaa

/- The document's answers Load, Write and Store of layer 2. -/
namespace Go.Proofs.Ytlkhjekakbckmaa
open Go.RowKit Go.Maps
set_option linter.unusedVariables false
/-- a row of N bytes with their addresses that may be written -/
def PairsAt (w : World) (g N : Nat) (c : Nat → Nat × Nat) : Prop :=
  (∃ cur, w.heap[g]? = some (.cells cur 174 (0, 0))) ∧ ∀ i, i < N → w.cell? ⟨g, i * 2, none⟩ = some (.int .u64 ((c i).1 : Nat)) ∧ w.cell? ⟨g, i * 2 + 1, none⟩ = some (.int .u8 ((c i).2 : Nat))
theorem PairsAt.frozen {w : World} {g N : Nat} {c : Nat → Nat × Nat} (h : PairsAt w g N c) (o : Nat) : w.frozen? ⟨g, o, none⟩ = false := by
  obtain ⟨⟨cur, hc⟩, _⟩ := h
  simp [World.frozen?, hc]
theorem PairsAt.set {w : World} {g N : Nat} {c : Nat → Nat × Nat} (h : PairsAt w g N c) (k a b : Nat) (hk : k < N) : PairsAt ((w.setCell ⟨g, k * 2, none⟩ (.int .u64 (a : Nat))).setCell ⟨g, k * 2 + 1, none⟩ (.int .u8 (b : Nat))) g N (fun i => if i = k then (a, b) else c i) := by
  obtain ⟨⟨cur, hc⟩, hcell⟩ := h
  have hk1 := hcell k hk
  have hex : ∃ cur', ((w.setCell ⟨g, k * 2, none⟩ (.int .u64 (a : Nat))).setCell ⟨g, k * 2 + 1, none⟩ (.int .u8 (b : Nat))).heap[g]? = some (.cells cur' 174 (0, 0)) := by
    rw [setCell_eq_setRow w g (k * 2) cur 174 (0, 0) _ hc]
    have h2 := setRow_heap w g cur (cur.setIfInBounds (k * 2) (.int .u64 (a : Nat))) 174 _ hc
    rw [setCell_eq_setRow _ g (k * 2 + 1) _ 174 (0, 0) _ h2]
    exact ⟨_, setRow_heap _ g _ _ 174 _ h2⟩
  refine ⟨hex, fun i hi => ?_⟩
  · by_cases e : i = k
    · subst e
      simp only [if_true]
      refine ⟨?_, ?_⟩
      · rw [World.cell?_setCell_other _ _ _ _ (fun h => by simp at h)]
        exact World.cell?_setCell_same _ _ _ hk1.1
      · have h2 : (w.setCell ⟨g, i * 2, none⟩ (.int .u64 (a : Nat))).cell? ⟨g, i * 2 + 1, none⟩ = some (.int .u8 ((c i).2 : Nat)) := by
          rw [World.cell?_setCell_other _ _ _ _ (fun h => by simp at h)]
          exact hk1.2
        exact World.cell?_setCell_same _ _ _ h2
    · simp only [e, if_false]
      obtain ⟨c1, c2⟩ := hcell i hi
      refine ⟨?_, ?_⟩
      · rw [World.cell?_setCell_other _ _ _ _ (fun h => by simp only [Addr.mk.injEq] at h; omega), World.cell?_setCell_other _ _ _ _ (fun h => by simp only [Addr.mk.injEq] at h; omega)]
        exact c1
      · rw [World.cell?_setCell_other _ _ _ _ (fun h => by simp only [Addr.mk.injEq] at h; omega), World.cell?_setCell_other _ _ _ _ (fun h => by simp only [Addr.mk.injEq] at h; omega)]
        exact c2
theorem PairsAt.congr {w : World} {g N : Nat} {c c' : Nat → Nat × Nat} (h : PairsAt w g N c) (e : ∀ i, i < N → c i = c' i) : PairsAt w g N c' :=
  ⟨h.1, fun i hi => by rw [← e i hi]; exact h.2 i hi⟩
theorem Try.info174 : (Try.prog.info? 174).map (fun i => (i.zero, i.size, i.bytes)) = some (some (.agg #[.int .u64 0, .int .u8 0]), 2, 16) := by kernel_rfl
theorem made_pairs (N j : Nat) (hj : j < N * 2) : (madeCells #[Value.int .u64 0, Value.int .u8 0] (N * 2)).toList[j]? = some (if j % 2 = 0 then .int .u64 0 else .int .u8 0) := by
  simp only [madeCells, Array.getElem?_toList, Array.getElem?_map, Array.getElem?_range, hj, if_true, Option.map_some]
  rcases Nat.mod_two_eq_zero_or_one j with h | h
  · simp [h]
  · simp [h]
theorem pairs_made {w : World} {base g N : Nat} (h : w.ownsRow base 174 2 (.slice (some ⟨g, 0, none⟩) N N) N (madeCells #[.int .u64 0, .int .u8 0] (N * 2)).toList) : PairsAt w g N (fun _ => (0, 0)) := by
  refine ⟨?_, fun i hi => ?_⟩
  · rcases h.2 with ⟨h1, _⟩ | ⟨g', cap, cur, hv, _, hg, _⟩
    · cases h1
    · cases hv; exact ⟨cur, hg⟩
  · have hc := h.cells (g := g) rfl
    have e1 := hc (i * 2) _ (made_pairs N (i * 2) (by omega))
    have e2 := hc (i * 2 + 1) _ (made_pairs N (i * 2 + 1) (by omega))
    rw [addr_add, Nat.zero_add, if_pos (by omega)] at e1
    rw [addr_add, Nat.zero_add, if_neg (by omega)] at e2
    exact ⟨e1, e2⟩
theorem boxes {w w1 : World} {o1 o2 : Obj} (hb : Below ((w.alloc o1).alloc o2).heap.size ((w.alloc o1).alloc o2) w1) :
    w1.heap[w.heap.size]? = some o1 ∧ w1.heap[w.heap.size + 1]? = some o2 ∧ Below w.heap.size w w1 ∧ w.heap.size + 2 ≤ w1.heap.size := by
  have e1 : (w.alloc o1).heap.size = w.heap.size + 1 := by simp
  have e2 : ((w.alloc o1).alloc o2).heap.size = w.heap.size + 2 := by simp
  have hs := hb.size
  rw [e2] at hs
  refine ⟨?_, ?_, (((Below.refl _ _).alloc (Nat.le_refl _) _).alloc (by omega) _).trans (hb.mono (by omega)), hs⟩
  · rw [hb.block _ (by omega), (World.grownBy_alloc (w.alloc o1) o2 none).block _ (by omega) (by simp)]
    exact heap_alloc_new w o1
  · rw [hb.block _ (by omega), ← e1]
    exact heap_alloc_new (w.alloc o1) o2
theorem box_facts {w : World} {b : Nat} {x y : Value} {t : TypeId} (h : w.heap[b]? = some (.cells #[x, y] t (0, 0))) :
    w.cell? ⟨b, 0, none⟩ = some x ∧ w.cell? ⟨b, 1, none⟩ = some y ∧ w.frozen? ⟨b, 0, none⟩ = false ∧ w.frozen? ⟨b, 1, none⟩ = false := by
  refine ⟨?_, ?_, ?_, ?_⟩
  · simp only [World.cell?, h]; rfl
  · simp only [World.cell?, h]; rfl
  · simp [World.frozen?, h]
  · simp [World.frozen?, h]
set_option maxHeartbeats 400000 in
theorem rwrite_out (w : World) (s x L : Nat) (av : Option Addr) (n cv : Nat) (a : Option Addr) (c : Nat) (hs : s < 18446744073709551616) (hx : x < 18446744073709551616) (hL : L < 9223372036854775808) (hin : inB x L 2147483648 s = false) :
    Calls Try.prog 40 #[.agg #[.int .u64 (s : Nat), .slice av n cv], .int .u64 (x : Nat), .slice a L c] w fun e w' => e = .returned (.tuple #[.agg #[.int .u64 (s : Nat), .slice av n cv], .bool false]) ∧ Below w.heap.size w w' := by
  have H : Hid (inB x L 2147483648 s = false) := hin
  clear hin
  go_enter Try.func40, Try.ntmps40
  go_wp2_with (first | (go_at_call 45; refine (rhas_any s x L _ hs hx (by omega) _).mono ?_; rintro e w1 ⟨rfl, hb1⟩; rw [H.out]; have hbx := boxes hb1; obtain ⟨a0, a1, a2, a3⟩ := box_facts hbx.1; obtain ⟨d0, d1, d2, d3⟩ := box_facts hbx.2.1; have X : Hid (_ ∧ _) := ⟨hbx.2.2.1, hbx.2.2.2⟩; clear hbx hb1))
  refine bodyPost_ret (v := .tuple #[.agg #[.int .u64 (s : Nat), .slice av n cv], .bool false]) (by simp [results, Try.results40, go_sem, d0, d1]) rfl ⟨rfl, ?_⟩
  exact (X.out.1.setCell (p := ⟨w.heap.size + 1, 0, none⟩) (by simp) _).setCell (p := ⟨w.heap.size + 1, 1, none⟩) (by simp) _
end Go.Proofs.Ytlkhjekakbckmaa

/- The document's answers Write, where it puts bytes, and Store of layer 2. -/
namespace Go.Proofs.Ytlkhjekakbckmaa
open Go.RowKit Go.Maps
set_option linter.unusedVariables false
theorem Step.drew {F F' : Nat → Prop} {w w' : World} (h : Step F w F' w') : Step F w F' w'.drew := ⟨h.os, h.tape, h.output, h.size, h.block, h.old, h.keep⟩
theorem step_pair (w : World) (g k : Nat) (a b : Value) : Step (fun x => x = g) w (fun x => x = g) ((w.setCell ⟨g, k * 2, none⟩ a).setCell ⟨g, k * 2 + 1, none⟩ b) :=
  (step_setCell w g (k * 2) a).trans (step_setCell _ g (k * 2 + 1) b)
set_option maxHeartbeats 2000000 in
theorem rwrite_in (F : Nat → Prop) (w : World) (s x L n : Nat) (v d : Value) (bs : Nat → Nat × Nat) (f : Nat → Nat) (h : RefIn F w v n bs) (hd : Reads .u8 w d L f) (hn : n ≤ 1000000) (hs : s ≤ 268435456) (hx : x < 18446744073709551616) (hL : L ≤ 1000000) (hin : inB x L 2147483648 s = true) :
    Calls Try.prog 40 #[.agg #[.int .u64 (s : Nat), v], .int .u64 (x : Nat), d] w fun e w' => ∃ v', e = .returned (.tuple #[.agg #[.int .u64 (s : Nat), v'], .bool true]) ∧ RefIn (fun k => k < w.heap.size) w' v' (n + L) (wrote bs n x f) ∧ Below w.heap.size w w' := by
  obtain ⟨i0, hi, hz0, hz1, hz2⟩ := info_parts Try.info174
  obtain ⟨av, cv, rfl⟩ := h.form
  obtain ⟨adt, cd, rfl⟩ := reads_form hd
  have hb : (2147483648 : Int) ≤ x ∧ (x : Int) + L ≤ 2147483648 + s := by simpa [inB] using hin
  obtain ⟨N, hN⟩ : ∃ N : Nat, (n : Int) + (L : Int) = (N : Nat) := ⟨n + L, by omega⟩
  have hN2 : N ≤ 2000000 ∧ n ≤ N := by omega
  have HN : Hid (N = n + L) := by show N = n + L; omega
  have H : Hid (_ ∧ _ ∧ _) := ⟨hin, h, hd⟩
  clear hin h hd
  go_enter Try.func40, Try.ntmps40
  go_wp2_with (first | (go_at_call 45; refine (rhas_any s x L _ (by omega) hx (by omega) _).mono ?_; rintro e w1 ⟨rfl, hb1⟩; rw [H.out.1]; have hbx := boxes hb1; obtain ⟨a0, a1, a2, a3⟩ := box_facts hbx.1; obtain ⟨d0, d1, d2, d3⟩ := box_facts hbx.2.1; have X : Hid (_ ∧ _ ∧ _ ∧ _) := hbx; clear hbx hb1) | (at_make; refine wpList_make_full _ rfl _ _ 30 rfl w1.heap.size 174 i0 (.agg #[.int .u64 0, .int .u8 0]) 2 Try.underlying30 hi hz0 hz1 _ _ _ _ N rfl rfl ?m1 ?m2 ?m3 ?m4 ?m5 ?_))
  case m1 => first | rfl | exact hN
  case m2 => first | rfl | exact hN
  case m3 => rw [hz2]; omega
  case m4 => unfold maxLen; omega
  case m5 => omega
  · intro w2 hown0 hgrow0
    have hp0 := pairs_made hown0
    obtain ⟨x1, x2, x3, x4⟩ := X.out
    have hB2 : Below w.heap.size w w2 := Below.grown x3 hgrow0 x3.size (by simp)
    have y1 : w2.heap[w.heap.size]? = some (.cells #[.int .u64 (s : Nat), .slice av n cv] 32) := (hgrow0.block _ (by omega) (by simp)).trans x1
    have y2 : w2.heap[w.heap.size + 1]? = some (.cells #[.int .u64 0, .slice none 0 0] 32) := (hgrow0.block _ (by omega) (by simp)).trans x2
    have hg : w.heap.size + 2 ≤ w1.heap.size := x4
    generalize w1.heap.size = g at *
    have Y : Hid (_ ∧ _ ∧ _ ∧ _) := ⟨hp0, hB2, y1, y2⟩
    clear hp0 hB2 y1 y2 x1 x2 x3 x4 X hown0 hgrow0 a0 a1 a2 a3 d0 d1 d2 d3
    go_wp2
    go_loopw [9] (fun i wr => ∃ k : Nat, k ≤ n ∧ i = .int .i64 k ∧ PairsAt wr g N (fun i => if i < k then bs i else (0, 0)) ∧ Step (fun x => x = g) w2 (fun x => x = g) wr) (fun i _ => n - (intOf i).toNat)
    case atStart => exact ⟨0, by omega, rfl, Y.out.1.congr (fun i hi => by simp), Step.refl _ _⟩
    case round =>
      obtain ⟨k, hk, rfl, hp, hst⟩ := hrel
      have z1 : wr.heap[w.heap.size]? = some (.cells #[.int .u64 (s : Nat), .slice av n cv] 32) := (hst.block _ (Array.getElem?_eq_some_iff.1 Y.out.2.2.1).1 (by omega)).trans Y.out.2.2.1
      obtain ⟨a0, a1, a2, a3⟩ := box_facts z1
      clear z1
      by_cases hlt : k < n
      · obtain ⟨c1, c2⟩ := hp.2 k (by omega)
        have f1 := hp.frozen (k * 2)
        have f2 := hp.frozen (k * 2 + 1)
        have hBw : Below w.heap.size w wr := Y.out.2.1.trans (hst.below Y.out.2.1.size (fun q hq => by omega))
        have hr := H.out.2.1.below hBw
        rcases hr with ⟨h0, _⟩ | ⟨gv, c', hv, _, hc⟩
        · omega
        simp only [Value.slice.injEq] at hv
        obtain ⟨rfl, -, rfl⟩ := hv
        obtain ⟨e1, e2⟩ := hc k hlt
        have hkn : (k : Int) < n := by omega
        have hkN : (k : Int) < N := by omega
        have Z : Hid (_ ∧ _) := ⟨hp, hst⟩
        clear hc hp hst hBw
        generalize hq1 : (bs k).1 = q1 at *
        generalize hq2 : (bs k).2 = q2 at *
        have HQ : Hid (_ ∧ _) := ⟨hq1, hq2⟩
        clear hq1 hq2
        go_wp2
        go_roundw
        case rel =>
          refine ⟨k + 1, by omega, by go_num, (Z.out.1.set k q1 q2 (by omega)).congr (fun i hi => ?_), Z.out.2.trans (step_pair _ _ _ _ _)⟩
          by_cases e : i = k
          · subst e
            rw [if_pos rfl, if_pos (by omega), ← HQ.out.1, ← HQ.out.2]
          · rw [if_neg e]
            by_cases h1 : i < k
            · rw [if_pos h1, if_pos (by omega)]
            · rw [if_neg h1, if_neg (by omega)]
        case measure => simp [intOf]; omega
      · obtain rfl : k = n := by omega
        have hp1 : PairsAt wr g N (fun i => if i < k + 0 then wrote bs k x f i else (0, 0)) := hp.congr (fun i hi => by
          by_cases h1 : i < k
          · rw [if_pos h1, if_pos (by omega)]; unfold wrote; rw [if_pos h1]
          · rw [if_neg h1, if_neg (by omega)])
        have Z : Hid (_ ∧ _) := ⟨hp1, hst⟩
        clear hp hp1 hst
        go_wp2
        go_loopw [10] (fun i wr => ∃ j : Nat, j ≤ L ∧ i = .int .i64 j ∧ PairsAt wr g N (fun i => if i < k + j then wrote bs k x f i else (0, 0)) ∧ Step (fun x => x = g) w2 (fun x => x = g) wr) (fun i _ => L - (intOf i).toNat)
        case atStart => exact ⟨0, by omega, rfl, Z.out.1, Z.out.2⟩
        case round =>
          obtain ⟨j, hj, rfl, hp, hst⟩ := hrel
          clear Z a0 a1 a2 a3
          have z1 : wr.heap[w.heap.size]? = some (.cells #[.int .u64 (s : Nat), .slice av k cv] 32) := (hst.block _ (Array.getElem?_eq_some_iff.1 Y.out.2.2.1).1 (by omega)).trans Y.out.2.2.1
          have z2 : wr.heap[w.heap.size + 1]? = some (.cells #[.int .u64 0, .slice none 0 0] 32) := (hst.block _ (Array.getElem?_eq_some_iff.1 Y.out.2.2.2).1 (by omega)).trans Y.out.2.2.2
          have hBw : Below w.heap.size w wr := Y.out.2.1.trans (hst.below Y.out.2.1.size (fun q hq => by omega))
          obtain ⟨a0, a1, a2, a3⟩ := box_facts z1
          by_cases hlt : j < L
          · clear z1 z2
            obtain ⟨y, hy⟩ : ∃ y : Nat, (k : Int) + (j : Int) = (y : Nat) := ⟨k + j, by omega⟩
            obtain ⟨z, hz⟩ : ∃ z : Nat, (x : Int) + (j : Int) = (z : Nat) := ⟨x + j, by omega⟩
            have hyN : y < N := by omega
            have hyN2 : (y : Int) < N := by omega
            have hzb : z < 18446744073709551616 := by omega
            have HY : Hid (y = k + j ∧ z = x + j) := by constructor <;> omega
            obtain ⟨c1, c2⟩ := hp.2 y (by omega)
            have f1 := hp.frozen (y * 2)
            have f2 := hp.frozen (y * 2 + 1)
            have hr := reads_below H.out.2.2 hBw
            obtain ⟨bd, od, c', hv, hc⟩ := reads_some hr (by omega)
            simp only [Value.slice.injEq] at hv
            obtain ⟨rfl, -, rfl⟩ := hv
            have e1 := hc j hlt
            have hjL : (j : Int) < L := by omega
            have Z : Hid (_ ∧ _) := ⟨hp, hst⟩
            clear hc hp hst hBw hr
            generalize hq1 : f j = q1 at *
            have HQ : Hid (f j = q1) := hq1
            clear hq1
            go_wp2
            go_region
            go_wp2
            go_roundw
            case rel =>
              refine ⟨j + 1, by omega, by go_num, (Z.out.1.set y z q1 hyN).congr (fun i hi => ?_), Z.out.2.trans (step_pair _ _ _ _ _).drew⟩
              obtain ⟨hy1, hz1⟩ := HY.out
              by_cases e : i = y
              · subst e
                rw [if_pos rfl, if_pos (by omega)]
                unfold wrote
                rw [if_neg (by omega), show i - k = j from by omega, HQ.out, hz1]
              · rw [if_neg e]
                by_cases h1 : i < k + j
                · rw [if_pos h1, if_pos (by omega)]
                · rw [if_neg h1, if_neg (by omega)]
            case measure => simp [intOf]; omega
          · obtain rfl : j = L := by omega
            obtain ⟨d0, d1, d2, d3⟩ := box_facts z2
            have Z : Hid (_ ∧ _) := ⟨hp, hBw⟩
            clear hp hst hBw z1 z2
            go_wp2
            refine bodyPost_ret (v := .tuple #[.agg #[.int .u64 (s : Nat), .slice (some ⟨g, 0, none⟩) N N], .bool true]) (by simp [results, Try.results40, go_sem, d0, d1]) rfl ⟨_, rfl, ?_, ?_⟩
            · rw [← HN.out]
              refine .inr ⟨g, N, rfl, by omega, fun i hi => ?_⟩
              obtain ⟨c1, c2⟩ := Z.out.1.2 i hi
              have hij : i < k + j := by have := HN.out; omega
              simp only [hij, if_true] at c1 c2
              refine ⟨?_, ?_⟩
              · rw [World.cell?_setCell_other _ _ _ _ (fun h => by simp only [Addr.mk.injEq] at h; omega), World.cell?_setCell_other _ _ _ _ (fun h => by simp only [Addr.mk.injEq] at h; omega), World.cell?_setCell_other _ _ _ _ (fun h => by simp only [Addr.mk.injEq] at h; omega)]
                exact c1
              · rw [World.cell?_setCell_other _ _ _ _ (fun h => by simp only [Addr.mk.injEq] at h; omega), World.cell?_setCell_other _ _ _ _ (fun h => by simp only [Addr.mk.injEq] at h; omega), World.cell?_setCell_other _ _ _ _ (fun h => by simp only [Addr.mk.injEq] at h; omega)]
                exact c2
            · exact ((Z.out.2.setCell (p := ⟨w.heap.size, 1, none⟩) (Nat.le_refl _) _).setCell (p := ⟨w.heap.size + 1, 0, none⟩) (by simp) _).setCell (p := ⟨w.heap.size + 1, 1, none⟩) (by simp) _
end Go.Proofs.Ytlkhjekakbckmaa

/- The document's answer Store of layer 2. -/
namespace Go.Proofs.Ytlkhjekakbckmaa
open Go.RowKit Go.Maps
set_option linter.unusedVariables false
theorem two_boxes (w : World) (o1 o2 : Obj) : Below w.heap.size w ((w.alloc o1).alloc o2) := ((Below.refl _ _).alloc (Nat.le_refl _) _).alloc (by simp) _
theorem boxesD {w w1 : World} {o1 o2 : Obj} (hb : Below ((w.alloc o1).alloc o2).drew.heap.size ((w.alloc o1).alloc o2).drew w1) :
    w1.heap[w.heap.size]? = some o1 ∧ w1.heap[w.heap.size + 1]? = some o2 ∧ Below w.heap.size w w1 ∧ w.heap.size + 2 ≤ w1.heap.size := boxes ⟨hb.os, hb.tape, hb.output, hb.size, hb.block⟩
theorem RefIn.set {w : World} {v u : Value} {n B b o : Nat} {bs : Nat → Nat × Nat} (h : RefIn (fun k => k < B) w v n bs) (hb : b < B) : RefIn (fun k => k < B) (w.setCell ⟨b, o, none⟩ u) v n bs := by
  rcases h with h | ⟨g, c, hv, hg, hc⟩
  · exact .inl h
  · refine .inr ⟨g, c, hv, hg, fun i hi => ?_⟩
    rw [World.cell?_setCell_other _ _ _ _ (fun h => by simp only [Addr.mk.injEq] at h; omega), World.cell?_setCell_other _ _ _ _ (fun h => by simp only [Addr.mk.injEq] at h; omega)]
    exact hc i hi
theorem RefIn.mono {F F' : Nat → Prop} {w : World} {v : Value} {n : Nat} {bs : Nat → Nat × Nat} (h : RefIn F w v n bs) (hF : ∀ k, F' k → F k) : RefIn F' w v n bs := by
  rcases h with h | ⟨g, c, hv, hg, hc⟩
  · exact .inl h
  · exact .inr ⟨g, c, hv, fun hf => hg (hF g hf), hc⟩
end Go.Proofs.Ytlkhjekakbckmaa

/- A memory and the document's one side by side: the calls at both, each with one answer. -/
namespace Go.Proofs.Ytlkhjekakbckmaa
open Go.RowKit Go.Maps
set_option linter.unusedVariables false
def putB (x : Nat) (k : Int) (s : Nat) : Bool := widB k && inB x k 2147483648 s
theorem over_congr {M M' : Nat → Nat} (x L : Nat) (f : Nat → Nat) (h : ∀ a, M a = M' a) (a : Nat) : over M x L f a = over M' x L f a := by
  unfold over; rw [h a]
/-- the addresses of bytes lie in a memory of s bytes -/
def Rng (bs : Nat → Nat × Nat) (n s : Nat) : Prop := ∀ i, i < n → 2147483648 ≤ (bs i).1 ∧ (bs i).1 < 2147483648 + s
theorem rng_wrote {bs : Nat → Nat × Nat} {n s x L : Nat} {f : Nat → Nat} (h : Rng bs n s) (hin : inB x L 2147483648 s = true) : Rng (wrote bs n x f) (n + L) s := by
  intro i hi
  unfold wrote
  by_cases hin2 : i < n
  · rw [if_pos hin2]; exact h i hin2
  · rw [if_neg hin2]
    simp [inB] at hin
    simp only
    omega
theorem rwrite_any (F : Nat → Prop) (w : World) (s x L : Nat) (v d : Value) (n : Nat) (bs : Nat → Nat × Nat) (f : Nat → Nat) (h : RefIn F w v n bs) (hd : Reads .u8 w d L f) (hF : ∀ k, F k → k < w.heap.size) (hn : n ≤ 1000000) (hs : s ≤ 268435456) (hx : x < 18446744073709551616) (hL : L ≤ 1000) :
    Calls Try.prog 40 #[.agg #[.int .u64 (s : Nat), v], .int .u64 (x : Nat), d] w fun e w' => ∃ a' n' c' bs', e = .returned (.tuple #[.agg #[.int .u64 (s : Nat), .slice a' n' c'], .bool (inB x L 2147483648 s)]) ∧ n' ≤ n + L ∧ RefIn F w' (.slice a' n' c') n' bs' ∧ ((∀ a, rget bs' n' a = (if inB x L 2147483648 s = true then over (rget bs n) x L f else rget bs n) a) ∧ (Rng bs n s → Rng bs' n' s)) ∧ Below w.heap.size w w' := by
  obtain ⟨av, cv, rfl⟩ := h.form
  obtain ⟨ad, cd, rfl⟩ := reads_form hd
  cases hin : inB x L 2147483648 s with
  | false =>
    refine (rwrite_out w s x L av n cv ad cd (by omega) hx (by omega) hin).mono ?_
    rintro e w' ⟨rfl, hb⟩
    exact ⟨av, n, cv, bs, rfl, by omega, h.below hb, ⟨fun a => by simp, id⟩, hb⟩
  | true =>
    refine (rwrite_in F w s x L n _ _ bs f h hd hn hs hx (by omega) hin).mono ?_
    rintro e w' ⟨v', rfl, hr, hb⟩
    obtain ⟨a', c', rfl⟩ := hr.form
    refine ⟨a', n + L, c', _, rfl, by omega, hr.mono hF, ⟨fun a => ?_, fun hrg => rng_wrote hrg hin⟩, hb⟩
    rw [rget_wrote, if_pos rfl]
/-- the word that a load tells -/
def loadV (M : Nat → Nat) (x : Nat) (k : Int) (s : Nat) : Nat := if putB x k s = true then h256 (fun i => M (x + i)) k.toNat 0 else 0
theorem loadV_congr (M M' : Nat → Nat) (x : Nat) (k : Int) (s : Nat) (h : ∀ a, M a = M' a) : loadV M x k s = loadV M' x k s := by
  have : M = M' := funext h
  rw [this]
theorem read_any {w : World} {F : Nat → Prop} {rb size n : Nat} {M : Nat → Nat} (h : RamAt w F rb size n (.pointer none) M) (hs : size ≤ 268435456) (x L : Nat) (hx : x < 18446744073709551616) (hL : L < 18446744073709551616) :
    Calls Try.prog 22 #[.pointer (some ⟨rb, 0, none⟩), .int .u64 (x : Nat), .int .u64 (L : Nat)] w fun e w' => ∃ a c, e = .returned (.tuple #[.slice a (if inB x L 2147483648 size = true then L else 0) c, .bool (inB x L 2147483648 size)]) ∧ Reads .u8 w' (.slice a (if inB x L 2147483648 size = true then L else 0) c) (if inB x L 2147483648 size = true then L else 0) (fun i => M (x + i)) ∧ Below w.heap.size w w' := by
  cases hin : inB x L 2147483648 size with
  | false =>
    refine (read_out h hs x L hx hL hin).mono ?_
    rintro e w' ⟨rfl, rfl⟩
    exact ⟨none, 0, rfl, .inl ⟨rfl, _, _, rfl⟩, Below.refl _ _⟩
  | true =>
    refine (read_in h hs x L hx hL hin).mono ?_
    rintro e w' ⟨rfl, hown, hb⟩
    exact ⟨_, L, rfl, reads_own hown, hb⟩
/-- A MEMORY AND THE DOCUMENT's ONE HOLD THE SAME BYTES. -/
def Both (F : Nat → Prop) (w : World) (rb s : Nat) (v : Value) (n : Nat) (M : Nat → Nat) : Prop :=
  RamAt w F rb s n (.pointer none) M ∧ ∃ nb bs, nb ≤ n ∧ (∃ a c, v = .slice a nb c) ∧ RefIn F w v nb bs ∧ (∀ a, rget bs nb a = M a) ∧ Rng bs nb s
theorem Both.below {F : Nat → Prop} {w w' : World} {rb s : Nat} {v : Value} {n : Nat} {M : Nat → Nat} (h : Both F w rb s v n M) (hb : Below w.heap.size w w') : Both F w' rb s v n M := by
  obtain ⟨h1, nb, bs, h2, h3, h4, h5⟩ := h
  exact ⟨h1.below hb, nb, bs, h2, h3, h4.below hb, h5⟩
end Go.Proofs.Ytlkhjekakbckmaa

/- The call 'do' of the statements of layer 2: a call at both memories is answered alike, and both hold the same bytes again. -/
namespace Go.Proofs.Ytlkhjekakbckmaa
open Go.RowKit Go.Maps
set_option linter.unusedVariables false
theorem boxes3 {w w1 : World} {o1 o2 o3 : Obj} (hb : Below (((w.alloc o1).alloc o2).alloc o3).heap.size (((w.alloc o1).alloc o2).alloc o3) w1) :
    w1.heap[w.heap.size]? = some o1 ∧ w1.heap[w.heap.size + 1]? = some o2 ∧ w1.heap[w.heap.size + 1 + 1]? = some o3 ∧ Below w.heap.size w w1 ∧ w.heap.size + 3 ≤ w1.heap.size := by
  have e1 : (w.alloc o1).heap.size = w.heap.size + 1 := by simp
  have e2 : ((w.alloc o1).alloc o2).heap.size = w.heap.size + 2 := by simp
  have e3 : (((w.alloc o1).alloc o2).alloc o3).heap.size = w.heap.size + 3 := by simp
  have hs := hb.size
  rw [e3] at hs
  have h12 : Below ((w.alloc o1).alloc o2).heap.size ((w.alloc o1).alloc o2) w1 := ((Below.refl _ _).alloc (Nat.le_refl _) o3).trans (hb.mono (by omega))
  obtain ⟨h1, h2, h3, _⟩ := boxes h12
  refine ⟨h1, h2, ?_, h3, hs⟩
  rw [hb.block _ (by omega), show w.heap.size + 1 + 1 = ((w.alloc o1).alloc o2).heap.size from by omega]
  exact heap_alloc_new ((w.alloc o1).alloc o2) o3
theorem box5_facts {w : World} {b : Nat} {x0 x1 x2 x3 x4 : Value} {t : TypeId} (h : w.heap[b]? = some (.cells #[x0, x1, x2, x3, x4] t (0, 0))) :
    w.cell? ⟨b, 0, none⟩ = some x0 ∧ w.cell? ⟨b, 1, none⟩ = some x1 ∧ w.cell? ⟨b, 2, none⟩ = some x2 ∧ w.cell? ⟨b, 3, none⟩ = some x3 ∧ w.cell? ⟨b, 4, none⟩ = some x4 := by
  refine ⟨?_, ?_, ?_, ?_, ?_⟩ <;> (simp only [World.cell?, h]; rfl)
theorem three_boxes (w : World) (o1 o2 o3 : Obj) : Below w.heap.size w (((w.alloc o1).alloc o2).alloc o3) := (two_boxes w o1 o2).alloc (by simp; omega) _
theorem Both.step {F F' : Nat → Prop} {w w' : World} {rb s n n' : Nat} {v : Value} {M M' : Nat → Nat} {nb : Nat} {bs : Nat → Nat × Nat} (h1 : RamAt w' F' rb s n' (.pointer none) M') (h2 : RefIn F w v nb bs) (hs : Step F w F' w') (hn : nb ≤ n') (hv : ∃ a c, v = .slice a nb c) (he : (∀ a, rget bs nb a = M' a) ∧ Rng bs nb s) : Both F' w' rb s v n' M' :=
  ⟨h1, nb, bs, hn, hv, h2.step hs, he⟩
theorem after_call {F F2 : Nat → Prop} {w1 w2 : World} {o o' : Obj} {b : Nat} (hs : Step F (w1.alloc o).drew F2 w2) (hb : w1.heap[b]? = some o') (hF : ¬ F b) (hF1 : ¬ F w1.heap.size) : w2.heap[b]? = some o' ∧ w2.heap[w1.heap.size]? = some o := by
  have hlt : b < w1.heap.size := (Array.getElem?_eq_some_iff.1 hb).1
  have e1 : (w1.alloc o).drew.heap.size = w1.heap.size + 1 := by simp
  refine ⟨?_, ?_⟩
  · rw [hs.block b (by omega) hF]
    exact ((World.grownBy_alloc w1 o none).block b hlt (by simp)).trans hb
  · rw [hs.block _ (by omega) hF1]
    exact heap_alloc_new w1 o
theorem heap_setCell (w : World) (b o : Nat) (u : Value) (k : Nat) (h : k ≠ b) : (w.setCell ⟨b, o, none⟩ u).heap[k]? = w.heap[k]? := by
  simp only [World.setCell]; rw [Array.getElem?_modify, if_neg (fun e => h e.symm)]
theorem RamAt.setCell {w : World} {F : Nat → Prop} {rb size n : Nat} {lg : Value} {M : Nat → Nat} (h : RamAt w F rb size n lg M) {b : Nat} (hb : ¬ F b) (o : Nat) (u : Value) : RamAt (w.setCell ⟨b, o, none⟩ u) F rb size n lg M :=
  h.kept (by simp [World.setCell]) (fun k hk => heap_setCell w b o u k (fun e => hb (e ▸ hk)))
theorem Step.setNew {F F' : Nat → Prop} {w w' : World} (h : Step F w F' w') {b : Nat} (hb : w.heap.size ≤ b) (o : Nat) (u : Value) : Step F w F' (w'.setCell ⟨b, o, none⟩ u) :=
  ⟨h.os, h.tape, h.output, by have := h.size; simp [World.setCell]; omega, fun k hk hf => (heap_setCell w' b o u k (by omega)).trans (h.block k hk hf), h.old, h.keep⟩
theorem RefIn.setBox {F : Nat → Prop} {w : World} {v : Value} {n : Nat} {bs : Nat → Nat × Nat} (h : RefIn F w v n bs) {b : Nat} {a0 : Option Addr} {n0 c0 : Nat} (hb : w.cell? ⟨b, 1, none⟩ = some (.slice a0 n0 c0)) (o : Nat) (u : Value) : RefIn F (w.setCell ⟨b, o, none⟩ u) v n bs := by
  rcases h with h | ⟨g, c, hv, hg, hc⟩
  · exact .inl h
  · by_cases h0 : n = 0
    · subst h0; exact .inl ⟨rfl, _, c, hv⟩
    · have hne : b ≠ g := by
        rintro rfl
        have := (hc 0 (by omega)).2
        rw [Nat.zero_mul, Nat.zero_add, hb] at this
        cases this
      refine .inr ⟨g, c, hv, hg, fun i hi => ?_⟩
      rw [World.cell?_setCell_other _ _ _ _ (fun h => by simp only [Addr.mk.injEq] at h; omega), World.cell?_setCell_other _ _ _ _ (fun h => by simp only [Addr.mk.injEq] at h; omega)]
      exact hc i hi
/-- behind a call at both: the answer is laid into its cells -/
theorem both_end {F F2 : Nat → Prop} {w w2 : World} {rb s n n' : Nat} {v u0 u1 : Value} {M' : Nat → Nat} {nb : Nat} {bs : Nat → Nat × Nat} {b : Nat} {a0 : Option Addr} {n0 c0 : Nat} (h2 : RamAt w2 F2 rb s n (.pointer none) M') (hr : RefIn F2 w2 v nb bs) (hn : nb ≤ n') (hnn : n ≤ n') (hv : ∃ a c, v = .slice a nb c) (he : (∀ a, rget bs nb a = M' a) ∧ Rng bs nb s)
    (hbF : ¬ F2 b) (hbw : w.heap.size ≤ b) (hq : w2.cell? ⟨b, 1, none⟩ = some (.slice a0 n0 c0)) (hs : Step F w F2 w2) :
    Both F2 ((w2.setCell ⟨b, 0, none⟩ u0).setCell ⟨b, 1, none⟩ u1) rb s v n' M' ∧ Step F w F2 ((w2.setCell ⟨b, 0, none⟩ u0).setCell ⟨b, 1, none⟩ u1) := by
  have hq' : (w2.setCell ⟨b, 0, none⟩ u0).cell? ⟨b, 1, none⟩ = some (.slice a0 n0 c0) := by
    rw [World.cell?_setCell_other _ _ _ _ (fun h => by simp at h)]; exact hq
  exact ⟨⟨((h2.setCell hbF 0 u0).setCell hbF 1 u1).mono hnn, nb, bs, hn, hv, (hr.setBox hq 0 u0).setBox hq' 1 u1, he⟩, (hs.setNew hbw 0 u0).setNew hbw 1 u1⟩
/-- a call's cells -/
abbrev opV (k : Int) (x : Nat) (n : Int) (y : Nat) (d : Value) : Value := .agg #[.int .i64 k, .int .u64 (x : Nat), .int .i64 n, .int .u64 (y : Nat), d]
theorem ReadsF.reads {F : Nat → Prop} {w : World} {v : Value} {n : Nat} {f : Nat → Nat} (h : ReadsF F w v n f) : Reads .u8 w v n f := by
  rcases h with ⟨h0, a, cap, _, hv⟩ | ⟨b, off, cap, hv, _, _, _, hc⟩
  · exact .inl ⟨h0, a, cap, hv⟩
  · exact .inr ⟨b, off, cap, hv, hc⟩
end Go.Proofs.Ytlkhjekakbckmaa

/- Helpers: boxes of two cells beside a memory. -/
namespace Go.Proofs.Ytlkhjekakbckmaa
open Go.RowKit Go.Maps
set_option linter.unusedVariables false
theorem step_box {F F' : Nat → Prop} {w w' : World} {b : Nat} {o : Obj} (hs : Step F w F' w') (h : w.heap[b]? = some o) (hF : ¬ F b) : w'.heap[b]? = some o := (hs.block b (Array.getElem?_eq_some_iff.1 h).1 hF).trans h
theorem box_set {w : World} {b : Nat} {p q u0 u1 : Value} {t : TypeId} (h : w.heap[b]? = some (.cells #[p, q] t (0, 0))) : ((w.setCell ⟨b, 0, none⟩ u0).setCell ⟨b, 1, none⟩ u1).heap[b]? = some (.cells #[u0, u1] t (0, 0)) := by
  rw [setCell_eq_setRow w b 0 _ t (0, 0) u0 h]
  have h2 := setRow_heap w b _ (#[p, q].setIfInBounds 0 u0) t _ h
  rw [setCell_eq_setRow _ b 1 _ t (0, 0) u1 h2, setRow_heap _ b _ _ t _ h2]
  rfl
theorem box_other {w : World} {b b' : Nat} {u0 u1 : Value} {o : Obj} (h : w.heap[b']? = some o) (hne : b' ≠ b) : ((w.setCell ⟨b, 0, none⟩ u0).setCell ⟨b, 1, none⟩ u1).heap[b']? = some o := by
  rw [heap_setCell _ _ _ _ _ hne, heap_setCell _ _ _ _ _ hne]; exact h
theorem Both.setBox {F : Nat → Prop} {w : World} {rb s n b : Nat} {v u0 u1 : Value} {M : Nat → Nat} {a0 : Option Addr} {n0 c0 : Nat} (h : Both F w rb s v n M) (hF : ¬ F b) (hb : w.cell? ⟨b, 1, none⟩ = some (.slice a0 n0 c0)) : Both F ((w.setCell ⟨b, 0, none⟩ u0).setCell ⟨b, 1, none⟩ u1) rb s v n M := by
  obtain ⟨h1, nb, bs, h2, h3, h4, h5⟩ := h
  have hq' : (w.setCell ⟨b, 0, none⟩ u0).cell? ⟨b, 1, none⟩ = some (.slice a0 n0 c0) := by
    rw [World.cell?_setCell_other _ _ _ _ (fun h => by simp at h)]; exact hb
  exact ⟨(h1.setCell hF 0 u0).setCell hF 1 u1, nb, bs, h2, h3, (h4.setBox hb 0 u0).setBox hq' 1 u1, h5⟩
theorem below_box {w w2 : World} {b : Nat} {o : Obj} (h : w.heap[b]? = some o) (hb : Below w.heap.size w w2) : w2.heap[b]? = some o := (hb.block b (Array.getElem?_eq_some_iff.1 h).1).trans h
end Go.Proofs.Ytlkhjekakbckmaa

/- Power, Areas and Passed on both sides; the page's example. -/
namespace Go.Proofs.Ytlkhjekakbckmaa
open Go.RowKit
set_option linter.unusedVariables false
set_option linter.unusedSimpArgs false
set_option maxRecDepth 100000

/-- may a queue have so many entries? -/
def powB (n : Int) : Bool := n == 1 || (n == 2 || (n == 4 || (n == 8 || (n == 16 || (n == 32 || (n == 64 || (n == 128 || n == 256)))))))
theorem pow_and : (List.range 257).all (fun m => m == 0 || (bits BinOp.and IntKind.i64 (m : Int) ((m : Int) - 1) == 0) == powB (m : Int)) = true := by decide +kernel
theorem pow_out {n : Int} (h : n < 1 ∨ 256 < n) : powB n = false := by
  simp only [powB, Bool.or_eq_false_iff, beq_eq_false_iff_ne]
  omega
theorem pow_in {n : Int} (h : powB n = true) : ∃ m : Nat, n = m ∧ 1 ≤ m ∧ m ≤ 256 := by
  by_cases h1 : n < 1 ∨ 256 < n
  · rw [pow_out h1] at h; cases h
  · exact ⟨n.toNat, by omega, by omega, by omega⟩
theorem power_any (n : Int) (w : World) : Calls Try.prog 142 #[.int .i64 n] w fun e w' => e = .returned (.bool (powB n)) ∧ w' = w := by
  by_cases h1 : (1 : Int) ≤ n
  · by_cases h2 : n ≤ 256
    · obtain ⟨m, rfl⟩ : ∃ m : Nat, n = m := ⟨n.toNat, by omega⟩
      go_enter Try.func142, Try.ntmps142
      go_wp2_with fail
      go_ret
      refine ⟨ret_bool ?_, rfl⟩
      have h := List.all_eq_true.1 pow_and m (List.mem_range.2 (by omega))
      have h0 : (m == 0) = false := by rw [beq_eq_false_iff_ne]; omega
      rw [h0, Bool.false_or] at h
      exact eq_of_beq h
    · go_enter Try.func142, Try.ntmps142
      go_wp2_with fail
      go_ret
      exact ⟨by rw [pow_out (by omega)]; rfl, rfl⟩
  · go_enter Try.func142, Try.ntmps142
    go_wp2_with fail
    go_ret
    exact ⟨by rw [pow_out (by omega)]; rfl, rfl⟩
theorem rpower_any (n : Int) (w : World) : Calls Try.prog 29 #[.int .i64 n] w fun e w' => e = .returned (.bool (powB n)) ∧ ∃ q, w' = w.drewN q := by
  have key : ∀ k : Nat, k ≤ 9 → ((2 ^ k : Nat) : Int) ≤ 512 := fun k hk => by
    have : (2 : Nat) ^ k ≤ 2 ^ 9 := Nat.pow_le_pow_right (by decide) hk
    omega
  go_enter Try.func29, Try.ntmps29
  go_wp2_with fail
  go_loopw [3] (fun v wr => ∃ k : Nat, k ≤ 9 ∧ v = .int .i64 ((2 ^ k : Nat) : Int) ∧ (∀ j, j < k → n ≠ ((2 ^ j : Nat) : Int)) ∧ ∃ q, wr = w.drewN q) (fun v _ => 512 - (intOf v).toNat)
  case atStart => exact ⟨0, by omega, rfl, fun j hj => by omega, 0, rfl⟩
  case round =>
    obtain ⟨k, hk, rfl, hj, q, rfl⟩ := hrel
    have HJ : Hid (∀ j, j < k → n ≠ ((2 ^ j : Nat) : Int)) := hj
    clear hj
    by_cases h9 : k = 9
    · subst h9
      have hh : ¬ (((2 ^ 9 : Nat) : Int) ≤ 256) := by decide
      clear key
      generalize hx : ((2 ^ 9 : Nat) : Int) = x at *
      clear hx
      go_wp2_with fail
      go_ret
      refine ⟨ret_bool ?_, _, rfl⟩
      symm
      simp only [powB, Bool.or_eq_false_iff, beq_eq_false_iff_ne]
      have := HJ.out
      exact ⟨this 0 (by decide), this 1 (by decide), this 2 (by decide), this 3 (by decide), this 4 (by decide), this 5 (by decide), this 6 (by decide), this 7 (by decide), this 8 (by decide)⟩
    · have h256 : ((2 ^ k : Nat) : Int) ≤ 256 := by
        have : (2 : Nat) ^ k ≤ 2 ^ 8 := Nat.pow_le_pow_right (by decide) (by omega)
        omega
      have hpos : (0 : Int) < ((2 ^ k : Nat) : Int) := by
        have : 0 < 2 ^ k := Nat.pow_pos (by decide)
        omega
      have hdb : ((2 ^ (k + 1) : Nat) : Int) = 2 * ((2 ^ k : Nat) : Int) := by rw [Nat.pow_succ]; omega
      have HD : Hid (((2 ^ (k + 1) : Nat) : Int) = 2 * ((2 ^ k : Nat) : Int) ∧ k ≠ 9) := ⟨hdb, h9⟩
      have HP : Hid (n = ((2 ^ k : Nat) : Int) → powB n = true) := by
        intro hn
        rw [hn]
        have : (List.range 9).all (fun k => powB ((2 ^ k : Nat) : Int)) = true := by decide +kernel
        exact List.all_eq_true.1 this k (List.mem_range.2 (by omega))
      clear hdb h9 key
      generalize hx : ((2 ^ k : Nat) : Int) = x at *
      have HX : Hid (((2 ^ k : Nat) : Int) = x) := hx
      clear hx
      by_cases he : n = x
      · have hb : (n == x) = true := by simp [he]
        have hpw : Hid (powB n = true) := HP.out he
        clear he
        go_wp2_with fail
        go_ret
        exact ⟨ret_bool hpw.out.symm, _, rfl⟩
      · have hb : (n == x) = false := by simp [he]
        have HE : Hid (n ≠ x) := he
        clear he
        go_wp2_with fail
        go_roundw
        case rel =>
          refine ⟨k + 1, by have := HD.out.2; omega, by rw [HD.out.1], fun j hj => ?_, _, rfl⟩
          by_cases hjk : j = k
          · rw [hjk, HX.out]; exact HE.out
          · exact HJ.out j (by omega)
        case measure => simp [intOf]; omega
/-- whether a count, gone from b to c, has gone past a -/
def pastB (a b c : Nat) : Bool := decide ((c + 131071 - a) % 65536 < (c + 65536 - b) % 65536)
theorem wrap16 (x : Int) : IntKind.u16.wrap x = x % 65536 := by simp [IntKind.wrap, IntKind.signed, IntKind.bits]
theorem passed_any (a b c : Nat) (ha : a ≤ 65535) (hb : b ≤ 65535) (hc : c ≤ 65535) (w : World) : Calls Try.prog 149 #[.int .u16 (a : Int), .int .u16 (b : Int), .int .u16 (c : Int)] w fun e w' => e = .returned (.bool (pastB a b c)) ∧ w' = w := by
  go_enter Try.func149, Try.ntmps149
  go_wp2_with fail
  go_ret
  refine ⟨ret_bool ?_, rfl⟩
  rw [wrap16, wrap16, wrap16, pastB, decide_eq_decide]
  omega
theorem areas_any (n D A U : Nat) (hn : n ≤ 1048576) (w : World) : Calls Try.prog 143 #[.agg #[.int .i64 (n : Int), .int .u64 (D : Int), .int .u64 (A : Int), .int .u64 (U : Int)]] w fun e w' => e = .returned (.agg #[.int .u64 (D : Int), .int .u64 (16 * (n : Int)), .int .u64 (A : Int), .int .u64 (6 + 2 * (n : Int)), .int .u64 (U : Int), .int .u64 (6 + 8 * (n : Int))]) ∧ Below w.heap.size w w' := by
  go_enter Try.func143, Try.ntmps143
  go_wp2_with fail
  have e1 : (4 + 2 * (n : Int) + 2) = 6 + 2 * (n : Int) := by omega
  have e2 : (4 + 8 * (n : Int) + 2) = 6 + 8 * (n : Int) := by omega
  rw [e1, e2]
  have hx := heap_alloc_new (w.alloc (.cells #[.int .i64 (n : Int), .int .u64 (D : Int), .int .u64 (A : Int), .int .u64 (U : Int)] 198)) (.cells #[.int .u64 (D : Int), .int .u64 (16 * (n : Int)), .int .u64 (A : Int), .int .u64 (6 + 2 * (n : Int)), .int .u64 (U : Int), .int .u64 (6 + 8 * (n : Int))] 240)
  refine bodyPost_ret (v := .agg #[.int .u64 (D : Int), .int .u64 (16 * (n : Int)), .int .u64 (A : Int), .int .u64 (6 + 2 * (n : Int)), .int .u64 (U : Int), .int .u64 (6 + 8 * (n : Int))]) (by simp [results, Try.results143, go_sem]) rfl ⟨rfl, ?_⟩
  exact two_boxes w _ _
end Go.Proofs.Ytlkhjekakbckmaa

/- The document's Passed; the statement of layer 15 on it. -/
namespace Go.Proofs.Ytlkhjekakbckmaa
open Go.RowKit
set_option linter.unusedVariables false
set_option linter.unusedSimpArgs false
set_option maxRecDepth 100000

theorem nat_u16 {x : Int} (h : (Lit.int .u16 x).wf = true) : ∃ n : Nat, x = n ∧ n ≤ 65535 := by
  have h := bounds_u16 h
  exact ⟨x.toNat, by omega, by omega⟩
theorem nat_u32 {x : Int} (h : (Lit.int .u32 x).wf = true) : ∃ n : Nat, x = n ∧ n ≤ 4294967295 := by
  have h := bounds_u32 h
  exact ⟨x.toNat, by omega, by omega⟩
theorem nat_u64 {x : Int} (h : (Lit.int .u64 x).wf = true) : ∃ n : Nat, x = n ∧ n < 18446744073709551616 := by
  have h := bounds_u64 h
  exact ⟨x.toNat, by omega, by omega⟩
end Go.Proofs.Ytlkhjekakbckmaa

/- What the statements of layer 15 are handed: bytes to be put into memory, layouts, descriptors, what is told. -/
namespace Go.Proofs.Ytlkhjekakbckmaa
open Go.RowKit Go.ChangeShapes Go.WideShapes Go.ChangeAt
set_option linter.unusedVariables false
set_option linter.unusedSimpArgs false
set_option maxRecDepth 100000

theorem cellOf {w : World} {b : Nat} {c : Array Value} {t : TypeId} (h : w.heap[b]? = some (.cells c t (0, 0))) (i : Nat) (v : Value) (hi : c[i]? = some v) : w.cell? ⟨b, i, none⟩ = some v := by
  simp only [World.cell?, h]; exact hi
theorem frozenOf {w : World} {b : Nat} {c : Array Value} {t : TypeId} (h : w.heap[b]? = some (.cells c t (0, 0))) (i : Nat) : w.frozen? ⟨b, i, none⟩ = false := by
  simp [World.frozen?, h]
theorem cellsOf3 : Try.prog.cellsOf 3 = 1 := by kernel_rfl
theorem cellsOf5 : Try.prog.cellsOf 5 = 1 := by kernel_rfl
theorem cellsOf22 : Try.prog.cellsOf 23 = 1 := by kernel_rfl
theorem cellsOf24 : Try.prog.cellsOf 198 = 4 := by kernel_rfl
theorem cellsOf44 : Try.prog.cellsOf 51 = 1 := by kernel_rfl
theorem cellsOf45 : Try.prog.cellsOf 92 = 1 := by kernel_rfl
theorem cellsOf47 : Try.prog.cellsOf 94 = 4 := by kernel_rfl
theorem cellsOf51 : Try.prog.cellsOf 22 = 1 := by kernel_rfl
theorem cellsOf79 : Try.prog.cellsOf 119 = 2 := by kernel_rfl
/-- bytes that are put into memory -/
structure PutD where
  x : Nat
  a : Option Addr
  l : Nat
  c : Nat
  f : Nat → Nat
def PutD.cells (o : PutD) : Array Value := #[.int .u64 (o.x : Nat), .slice o.a o.l o.c]
def PutD.In (o : PutD) (F : Nat → Prop) (w : World) : Prop := o.x < 18446744073709551616 ∧ (∀ i, o.f i ≤ 255) ∧ ReadsF F w (.slice o.a o.l o.c) o.l o.f
/-- rows of bytes that came in -/
def PutsIn (W : World) (v : Value) (len : Nat) (ps : Nat → PutD) : Prop :=
  (len = 0 ∧ ∃ a c, v = .slice a 0 c) ∨ ∃ b off cap, v = .slice (some ⟨b, off, none⟩) len cap ∧ b < W.heap.size ∧ len ≤ 9223372036854775807 ∧ ∀ i, i < len → W.cell? ⟨b, off + i * 2, none⟩ = some (.int .u64 ((ps i).x : Nat)) ∧ W.cell? ⟨b, off + i * 2 + 1, none⟩ = some (.slice (ps i).a (ps i).l (ps i).c) ∧ (ps i).In (fun q => W.heap.size ≤ q) W
theorem PutD.In.later {o : PutD} {W w : World} {F : Nat → Prop} (h : o.In (fun q => W.heap.size ≤ q) W) (hb : Below W.heap.size W w) (hF : ∀ q, F q → W.heap.size ≤ q) : o.In F w := by
  obtain ⟨hx, hf, hr⟩ := h
  refine ⟨hx, hf, ?_⟩
  rcases hr with h | ⟨b, off, cap, h1, h2, h3, h4, hc⟩
  · exact .inl h
  · have hlt : b < W.heap.size := by
      by_cases hb' : b < W.heap.size
      · exact hb'
      · exact absurd (by show W.heap.size ≤ b; omega) h2
    exact .inr ⟨b, off, cap, h1, fun hq => by have := hF _ hq; omega, h3, h4, fun i hi => (hb.cell (p := ⟨b, off + i, none⟩) hlt).trans (hc i hi)⟩
theorem PutsIn.up {W w : World} {v : Value} {len : Nat} {ps : Nat → PutD} (h : PutsIn W v len ps) (hb : Below W.heap.size W w) : PutsIn w v len ps := by
  rcases h with h | ⟨b, off, cap, hv, hlt, hl, hc⟩
  · exact .inl h
  · refine .inr ⟨b, off, cap, hv, Nat.lt_of_lt_of_le hlt hb.size, hl, fun i hi => ⟨(hb.cell (p := ⟨b, off + i * 2, none⟩) hlt).trans (hc i hi).1, (hb.cell (p := ⟨b, off + i * 2 + 1, none⟩) hlt).trans (hc i hi).2.1, (hc i hi).2.2.later hb (fun q hq => ?_)⟩⟩
    exact Nat.le_trans hb.size hq
section
variable {H : Type} {enc : TypeId × Value → H} {W : World} {spare : Nat → Bool} {held : Bool}
theorem list_two {α : Type} (l : List α) (h : l.length = 2) : ∃ a b, l = [a, b] := by
  match l, h with
  | [a, b], _ => exact ⟨a, b, rfl⟩
theorem list_four {α : Type} (l : List α) (h : l.length = 4) : ∃ a b c d, l = [a, b, c, d] := by
  match l, h with
  | [a, b, c, d], _ => exact ⟨a, b, c, d, rfl⟩
theorem open_bytes {n : Nat} {c : Value} {x : DataW H × List MemPlace} (h : DataW.trod enc Try.prog W 0 (fun _ => true) held n 22 [c] = some x) :
    ∃ a l cap, c = .slice a l cap ∧ ∃ f, (∀ i, f i ≤ 255) ∧ ReadsF (fun q => W.heap.size ≤ q) W (.slice a l cap) l f := by
  rcases open_ints Try.underlying22 Try.underlying5 cellsOf5 h with ⟨hcs, _⟩ | ⟨ad, l, cap, zs, hcs, _, hl, hm, hz, _, hcell, hwz⟩
  · simp at hcs
    exact ⟨none, 0, 0, hcs, fun _ => 0, fun _ => Nat.zero_le _, .inl ⟨rfl, _, _, by omega, rfl⟩⟩
  · simp at hcs hz
    unfold maxLen at hm
    refine ⟨some ad, l, cap, hcs, ?_⟩
    have hr : ∀ j : Nat, 0 ≤ zs[j]?.getD 0 ∧ zs[j]?.getD 0 ≤ 255 := range_u8 hwz
    refine ⟨fun i => (zs[i]?.getD 0).toNat, fun i => by have := hr i; show (zs[i]?.getD 0).toNat ≤ 255; omega, ?_⟩
    by_cases h0 : l = 0
    · subst h0; exact .inl ⟨rfl, _, cap, by omega, rfl⟩
    · obtain ⟨b, off, rfl, hcl⟩ := ints_at hcell (by omega)
      have hlt : b < W.heap.size := block_lt_of_cell (hcl 0 (by omega))
      refine .inr ⟨b, off, cap, rfl, by omega, hl, by omega, fun i hi => ?_⟩
      rw [hcl i (by omega)]
      have := hr i
      simp only [List.getD_eq_getElem?_getD]
      congr 2
      omega
theorem open_put {n : Nat} {cs : List Value} {x : DataW H × List MemPlace} (h : DataW.trod enc Try.prog W 0 (fun _ => true) held n 119 cs = some x) :
    ∃ o : PutD, cs = o.cells.toList ∧ o.In (fun q => W.heap.size ≤ q) W := by
  obtain ⟨xs, m, _, _, hl, hlen, hf⟩ := DataW.trod_struct Try.underlying119 h
  rw [cellsOf79] at hl
  obtain ⟨c0, c1, rfl⟩ := list_two cs hl
  obtain ⟨y0, y1, rfl⟩ := list_two xs hlen
  have h0 := hf 0 _ rfl
  have h1 := hf 1 _ rfl
  simp [cellsOf22, cellsOf51] at h0 h1
  obtain ⟨z, e0, _, w0⟩ := DataW.trod_int Try.underlying23 h0
  simp at e0
  obtain ⟨a, l, cap, rfl, f, hf1, hf2⟩ := open_bytes h1
  obtain ⟨xn, rfl, hx⟩ := nat_u64 w0
  subst e0
  exact ⟨⟨xn, a, l, cap, f⟩, rfl, ⟨hx, hf1, hf2⟩⟩
theorem spot_none {a : Addr} {v : Value} (h : W.cell? a = some v) : a.spot = none := by
  unfold World.cell? at h
  split at h
  · split at h
    · cases h
    · rename_i hs; simpa using hs
  · cases h
theorem open_puts {v : Value} {d : DataW H} {p : List MemPlace} {a : Option Addr} {len cap : Nat} (hv : v = .slice a len cap) (h : DataW.Trod enc Try.prog W 0 (fun _ => true) held 26 v d p) : ∃ ops, PutsIn W v len ops := by
  subst hv
  obtain ⟨fuel, hf⟩ := h
  rcases Deep.open_slice Try.underlying26 hf with ⟨hcs, _⟩ | ⟨ad, l, c, m, n, D, Pl, hcs, _, hl, hm, hmm, _, hx⟩
  · simp [Value.cells] at hcs
    obtain ⟨rfl, rfl, rfl⟩ := hcs
    exact ⟨fun _ => ⟨0, none, 0, 0, fun _ => 0⟩, .inl ⟨rfl, _, _, rfl⟩⟩
  · simp [Value.cells] at hcs
    obtain ⟨rfl, rfl, rfl⟩ := hcs
    simp at hmm
    subst hmm
    unfold maxLen at hm
    by_cases h0 : len = 0
    · subst h0; exact ⟨fun _ => ⟨0, none, 0, 0, fun _ => 0⟩, .inl ⟨rfl, _, _, rfl⟩⟩
    rw [cellsOf79] at hx
    obtain ⟨ops, hops⟩ := @Deep.choose_lt PutD ⟨⟨0, none, 0, 0, fun _ => 0⟩⟩ len (fun i o => (∀ j, j < 2 → W.cell? ((ad.add (i * 2)).add j) = o.cells.toList[j]?) ∧ o.In (fun q => W.heap.size ≤ q) W) (fun i hi => by
      obtain ⟨cs', h1, h2⟩ := hx i (by omega)
      obtain ⟨o, rfl, h3⟩ := open_put h2
      obtain ⟨_, _, h5⟩ := World.cells?_some h1
      exact ⟨o, h5, h3⟩)
    have hsp : ad.spot = none := by
      have := (hops 0 (by omega)).1 0 (by omega)
      rw [Deep.add_add] at this
      have e0 : ad.add (0 * 2 + 0) = ad := by unfold Addr.add; simp
      rw [e0] at this
      exact spot_none (v := .int .u64 ((ops 0).x : Nat)) this
    obtain ⟨b, off, sp⟩ := ad
    simp only at hsp
    subst hsp
    have hc' : ∀ i j, i < len → j < 2 → W.cell? ⟨b, off + (i * 2 + j), none⟩ = (ops i).cells.toList[j]? := fun i j hi hj => by
      have := (hops i hi).1 j hj
      rwa [Deep.add_add, addr_add] at this
    have hlt : b < W.heap.size := block_lt_of_cell (v := .int .u64 ((ops 0).x : Nat)) (hc' 0 0 (by omega) (by omega))
    refine ⟨ops, .inr ⟨b, off, _, rfl, hlt, by omega, fun i hi => ?_⟩⟩
    exact ⟨hc' i 0 hi (by omega), hc' i 1 hi (by omega), (hops i hi).2⟩
end
/-- what is told: a kind, two words of 16 bits, one of 32 -/
structure ToldD where
  z : Int
  n : Nat
  id : Nat
  k : Nat
def ToldD.cells (o : ToldD) : Array Value := #[.int .i64 o.z, .int .u16 (o.n : Nat), .int .u16 (o.id : Nat), .int .u32 (o.k : Nat)]
def ToldD.Ok (o : ToldD) : Prop := o.n ≤ 65535 ∧ o.id ≤ 65535 ∧ o.k ≤ 4294967295
def ToldsIn (W : World) (v : Value) (len : Nat) (ts : Nat → ToldD) : Prop :=
  (len = 0 ∧ ∃ a c, v = .slice a 0 c) ∨ ∃ b off cap, v = .slice (some ⟨b, off, none⟩) len cap ∧ b < W.heap.size ∧ len ≤ 9223372036854775807 ∧ ∀ i, i < len → W.cell? ⟨b, off + i * 4, none⟩ = some (.int .i64 (ts i).z) ∧ W.cell? ⟨b, off + i * 4 + 1, none⟩ = some (.int .u16 ((ts i).n : Nat)) ∧ W.cell? ⟨b, off + i * 4 + 2, none⟩ = some (.int .u16 ((ts i).id : Nat)) ∧ W.cell? ⟨b, off + i * 4 + 3, none⟩ = some (.int .u32 ((ts i).k : Nat)) ∧ (ts i).Ok
section
variable {H : Type} {enc : TypeId × Value → H} {W : World} {spare : Nat → Bool} {held : Bool}
theorem open_agg {P : Program} {W : World} {r : Reach} {b0 : Nat} {t : TypeId} {fs : Array Field} {v : Value} (ht : P.underlying t = some (.struct fs)) (hv : Value.okWide P W r b0 t v) : ∃ cs, v = .agg cs := by
  obtain ⟨cs, rfl, _⟩ : ∃ cs, v = .agg cs ∧ cs.size = P.cellsOf t ∧ Row.okWide P W r b0 t cs := by
    simpa [Value.okWide, ht] using hv
  exact ⟨cs, rfl⟩
theorem open_lay {r : Reach} {b0 : Nat} {x : Value} {d : DataW H} {p : List MemPlace} (hv : Value.okWide Try.prog W r b0 198 x) (h : DataW.Trod enc Try.prog W 0 (fun _ => true) held 198 x d p) :
    ∃ (s : Int) (D : Nat) (A : Nat) (Uu : Nat), x = .agg #[.int .i64 (s : Int), .int .u64 (D : Int), .int .u64 (A : Int), .int .u64 (Uu : Int)] ∧ (Lit.int .i64 s).wf = true ∧ D < 18446744073709551616 ∧ A < 18446744073709551616 ∧ Uu < 18446744073709551616 := by
  obtain ⟨cs, rfl⟩ := open_agg Try.underlying198 hv
  obtain ⟨fuel, hf⟩ := h
  obtain ⟨xs, m, _, _, hl, hlen, hff⟩ := DataW.trod_struct Try.underlying198 hf
  rw [cellsOf24] at hl
  obtain ⟨c0, c1, c2, c3, hcs⟩ := list_four _ hl
  simp only [Value.cells] at hcs hff
  rw [hcs] at hff
  obtain ⟨y0, y1, y2, y3, rfl⟩ := list_four xs hlen
  have h0 := hff 0 _ rfl
  have h1 := hff 1 _ rfl
  have h2 := hff 2 _ rfl
  have h3 := hff 3 _ rfl
  simp [cellsOf3, cellsOf22, cellsOf44, cellsOf45] at h0 h1 h2 h3
  obtain ⟨z0, e0, _, w0⟩ := DataW.trod_int Try.underlying3 h0
  obtain ⟨z1, e1, _, w1⟩ := DataW.trod_int Try.underlying23 h1
  obtain ⟨z2, e2, _, w2⟩ := DataW.trod_int Try.underlying23 h2
  obtain ⟨z3, e3, _, w3⟩ := DataW.trod_int Try.underlying23 h3
  simp at e0 e1 e2 e3
  obtain ⟨n1, rfl, g1⟩ := nat_u64 w1
  obtain ⟨n2, rfl, g2⟩ := nat_u64 w2
  obtain ⟨n3, rfl, g3⟩ := nat_u64 w3
  subst e0 e1 e2 e3
  refine ⟨z0, n1, n2, n3, ?_, w0, g1, g2, g3⟩
  cases cs; simp_all
theorem open_desc {r : Reach} {b0 : Nat} {x : Value} {d : DataW H} {p : List MemPlace} (hv : Value.okWide Try.prog W r b0 94 x) (h : DataW.Trod enc Try.prog W 0 (fun _ => true) held 94 x d p) :
    ∃ (ad : Nat) (ln : Nat) (fl : Nat) (nx : Nat), x = .agg #[.int .u64 (ad : Int), .int .u32 (ln : Int), .int .u16 (fl : Int), .int .u16 (nx : Int)] ∧ ad < 18446744073709551616 ∧ ln ≤ 4294967295 ∧ fl ≤ 65535 ∧ nx ≤ 65535 := by
  obtain ⟨cs, rfl⟩ := open_agg Try.underlying94 hv
  obtain ⟨fuel, hf⟩ := h
  obtain ⟨xs, m, _, _, hl, hlen, hff⟩ := DataW.trod_struct Try.underlying94 hf
  rw [cellsOf47] at hl
  obtain ⟨c0, c1, c2, c3, hcs⟩ := list_four _ hl
  simp only [Value.cells] at hcs hff
  rw [hcs] at hff
  obtain ⟨y0, y1, y2, y3, rfl⟩ := list_four xs hlen
  have h0 := hff 0 _ rfl
  have h1 := hff 1 _ rfl
  have h2 := hff 2 _ rfl
  have h3 := hff 3 _ rfl
  simp [cellsOf3, cellsOf22, cellsOf44, cellsOf45] at h0 h1 h2 h3
  obtain ⟨z0, e0, _, w0⟩ := DataW.trod_int Try.underlying23 h0
  obtain ⟨z1, e1, _, w1⟩ := DataW.trod_int Try.underlying51 h1
  obtain ⟨z2, e2, _, w2⟩ := DataW.trod_int Try.underlying92 h2
  obtain ⟨z3, e3, _, w3⟩ := DataW.trod_int Try.underlying92 h3
  simp at e0 e1 e2 e3
  obtain ⟨n0, rfl, g0⟩ := nat_u64 w0
  obtain ⟨n1, rfl, g1⟩ := nat_u32 w1
  obtain ⟨n2, rfl, g2⟩ := nat_u16 w2
  obtain ⟨n3, rfl, g3⟩ := nat_u16 w3
  subst e0 e1 e2 e3
  refine ⟨n0, n1, n2, n3, ?_, g0, g1, g2, g3⟩
  cases cs; simp_all
end
end Go.Proofs.Ytlkhjekakbckmaa

/- Check on both sides. -/
namespace Go.Proofs.Ytlkhjekakbckmaa
open Go.RowKit
set_option linter.unusedVariables false
set_option linter.unusedSimpArgs false
set_option maxRecDepth 100000

def okB (s : Int) (D A U : Nat) : Bool := powB s && (((D : Int) % 16 == 0) && (((A : Int) % 2 == 0) && ((U : Int) % 4 == 0)))
def inA (D A U sz : Nat) (n : Nat) : Bool := inB D (16 * (n : Int)) 2147483648 sz && (inB A (6 + 2 * (n : Int)) 2147483648 sz && inB U (6 + 8 * (n : Int)) 2147483648 sz)
/-- what Check tells of a layout -/
def chkN (s : Int) (D A U sz : Nat) : Int := if okB s D A U = true then (if inA D A U sz s.toNat = true then 0 else 21) else 150
theorem chk_150 {s : Int} {D A U : Nat} (sz : Nat) (h : okB s D A U = false) : chkN s D A U sz = 150 := by rw [chkN, h]; rfl
theorem chk_21 {n : Nat} {D A U sz : Nat} (h : okB (n : Int) D A U = true) (h2 : inA D A U sz n = false) : chkN (n : Int) D A U sz = 21 := by rw [chkN, h, Int.toNat_natCast, h2]; rfl
theorem chk_0 {n : Nat} {D A U sz : Nat} (h : okB (n : Int) D A U = true) (h2 : inA D A U sz n = true) : chkN (n : Int) D A U sz = 0 := by rw [chkN, h, Int.toNat_natCast, h2]; rfl
theorem chk_zero {s : Int} {D A U sz : Nat} (h : chkN s D A U sz = 0) : ∃ n : Nat, s = n ∧ 1 ≤ n ∧ n ≤ 256 ∧ powB (n : Int) = true ∧ D % 16 = 0 ∧ A % 2 = 0 ∧ U % 4 = 0 ∧ (2147483648 ≤ D ∧ D + 16 * n ≤ 2147483648 + sz) ∧ (2147483648 ≤ A ∧ A + 6 + 2 * n ≤ 2147483648 + sz) ∧ (2147483648 ≤ U ∧ U + 6 + 8 * n ≤ 2147483648 + sz) := by
  by_cases h1 : okB s D A U = true
  · have h2 := h1
    simp only [okB, Bool.and_eq_true, beq_iff_eq] at h1
    obtain ⟨n, rfl, hn1, hn2⟩ := pow_in h1.1
    by_cases h3 : inA D A U sz n = true
    · have h4 := h3
      simp only [inA, inB, Bool.and_eq_true, decide_eq_true_iff] at h3
      exact ⟨n, rfl, hn1, hn2, h1.1, by omega, by omega, by omega, by omega, by omega, by omega⟩
    · rw [chk_21 h2 (by simpa using h3)] at h; cases h
  · rw [chk_150 sz (by simpa using h1)] at h; cases h
theorem has_yes {w : World} {F : Nat → Prop} {rb size n : Nat} {lg : Value} {M : Nat → Nat} (h : RamAt w F rb size n lg M) (hs : size ≤ 268435456) (x : Nat) (y : Int) (hx : x < 18446744073709551616) (h0 : 0 ≤ y) (h1 : y < 18446744073709551616) : Calls Try.prog 57 #[.pointer (some ⟨rb, 0, none⟩), .int .u64 (x : Int), .int .u64 y] w fun e w' => e = .returned (.bool (inB x y 2147483648 size)) ∧ w' = w := by
  obtain ⟨L, rfl⟩ : ∃ L : Nat, y = L := ⟨y.toNat, by omega⟩
  exact has_any h hs x L hx (by omega)
theorem rhas_yes (s x : Nat) (y : Int) (v : Value) (hs : s < 18446744073709551616) (hx : x < 18446744073709551616) (h0 : 0 ≤ y) (h1 : y < 18446744073709551616) (w : World) : Calls Try.prog 45 #[.agg #[.int .u64 (s : Int), v], .int .u64 (x : Int), .int .u64 y] w fun e w' => e = .returned (.bool (inB x y 2147483648 s)) ∧ Below w.heap.size w w' := by
  obtain ⟨L, rfl⟩ : ∃ L : Nat, y = L := ⟨y.toNat, by omega⟩
  exact (rhas_any s x L v hs hx (by omega) w).mono fun e w' ⟨he, hb⟩ => ⟨he, hb⟩

theorem check_bad {s : Int} {D A U : Nat} (h : okB s D A U = false) (p : Value) (w : World) :
    Calls Try.prog 129 #[p, .agg #[.int .i64 s, .int .u64 (D : Int), .int .u64 (A : Int), .int .u64 (U : Int)]] w fun e w' => e = .returned (.int .i64 150) ∧ Below w.heap.size w w' := by
  have bx : Below w.heap.size w (w.alloc (.cells #[.int .i64 s, .int .u64 (D : Int), .int .u64 (A : Int), .int .u64 (U : Int)] 198)) := (Below.refl _ _).alloc (Nat.le_refl _) _
  have HB : Hid (Below w.heap.size w (w.alloc (.cells #[.int .i64 s, .int .u64 (D : Int), .int .u64 (A : Int), .int .u64 (U : Int)] 198))) := bx
  clear bx
  unfold okB at h
  obtain ⟨b0, h0⟩ : ∃ b, powB s = b := ⟨_, rfl⟩
  obtain ⟨b1, h1⟩ : ∃ b, ((D : Int) % 16 == 0) = b := ⟨_, rfl⟩
  obtain ⟨b2, h2⟩ : ∃ b, ((A : Int) % 2 == 0) = b := ⟨_, rfl⟩
  obtain ⟨b3, h3⟩ : ∃ b, ((U : Int) % 4 == 0) = b := ⟨_, rfl⟩
  rw [h0, h1, h2, h3] at h
  have H : Hid (powB s = b0 ∧ ((D : Int) % 16 == 0) = b1 ∧ ((A : Int) % 2 == 0) = b2 ∧ ((U : Int) % 4 == 0) = b3) := ⟨h0, h1, h2, h3⟩
  clear h0 h1 h2 h3
  cases b0 with
  | false =>
    go_enter Try.func129, Try.ntmps129
    go_wp2_with (first | (go_at_call 142; refine (power_any _ _).mono ?_; rintro e w2 ⟨rfl, hw⟩; rw [hw]; clear hw w2; rw [H.out.1]) | (go_at_call 60; refine (aligned_pos _ _ (by omega) (by decide) _).mono ?_; rintro e w2 ⟨rfl, hw⟩; rw [hw]; clear hw w2; first | rw [H.out.2.1] | rw [H.out.2.2.1] | rw [H.out.2.2.2]))
    go_ret
    exact ⟨rfl, HB.out⟩
  | true =>
    cases b1 with
    | false =>
      go_enter Try.func129, Try.ntmps129
      go_wp2_with (first | (go_at_call 142; refine (power_any _ _).mono ?_; rintro e w2 ⟨rfl, hw⟩; rw [hw]; clear hw w2; rw [H.out.1]) | (go_at_call 60; refine (aligned_pos _ _ (by omega) (by decide) _).mono ?_; rintro e w2 ⟨rfl, hw⟩; rw [hw]; clear hw w2; first | rw [H.out.2.1] | rw [H.out.2.2.1] | rw [H.out.2.2.2]))
      go_ret
      exact ⟨rfl, HB.out⟩
    | true =>
      cases b2 with
      | false =>
        go_enter Try.func129, Try.ntmps129
        go_wp2_with (first | (go_at_call 142; refine (power_any _ _).mono ?_; rintro e w2 ⟨rfl, hw⟩; rw [hw]; clear hw w2; rw [H.out.1]) | (go_at_call 60; refine (aligned_pos _ _ (by omega) (by decide) _).mono ?_; rintro e w2 ⟨rfl, hw⟩; rw [hw]; clear hw w2; first | rw [H.out.2.1] | rw [H.out.2.2.1] | rw [H.out.2.2.2]))
        go_ret
        exact ⟨rfl, HB.out⟩
      | true =>
        cases b3 with
        | false =>
          go_enter Try.func129, Try.ntmps129
          go_wp2_with (first | (go_at_call 142; refine (power_any _ _).mono ?_; rintro e w2 ⟨rfl, hw⟩; rw [hw]; clear hw w2; rw [H.out.1]) | (go_at_call 60; refine (aligned_pos _ _ (by omega) (by decide) _).mono ?_; rintro e w2 ⟨rfl, hw⟩; rw [hw]; clear hw w2; first | rw [H.out.2.1] | rw [H.out.2.2.1] | rw [H.out.2.2.2]))
          go_ret
          exact ⟨rfl, HB.out⟩
        | true => cases h

theorem idx0 (a b c d x y : Value) (w : World) : (Instr.index 240 (.agg #[a, b, c, d, x, y]) (.int .i64 0)).run Try.prog w = .ok (.agg #[a, b]) w := by kernel_rfl
theorem idx1 (a b c d x y : Value) (w : World) : (Instr.index 240 (.agg #[a, b, c, d, x, y]) (.int .i64 1)).run Try.prog w = .ok (.agg #[c, d]) w := by kernel_rfl
theorem idx2 (a b c d x y : Value) (w : World) : (Instr.index 240 (.agg #[a, b, c, d, x, y]) (.int .i64 2)).run Try.prog w = .ok (.agg #[x, y]) w := by kernel_rfl

theorem check_good {n : Nat} {D A U : Nat} (hD : D < 18446744073709551616) (hA : A < 18446744073709551616) (hU : U < 18446744073709551616) (h : okB (n : Int) D A U = true) {w : World} {F : Nat → Prop} {rb size m : Nat} {lg : Value} {M : Nat → Nat} (hr : RamAt w F rb size m lg M) (hs : size ≤ 268435456) :
    Calls Try.prog 129 #[.pointer (some ⟨rb, 0, none⟩), .agg #[.int .i64 (n : Int), .int .u64 (D : Int), .int .u64 (A : Int), .int .u64 (U : Int)]] w fun e w' => e = .returned (.int .i64 (chkN (n : Int) D A U size)) ∧ Below w.heap.size w w' := by
  have bx : Below w.heap.size w (w.alloc (.cells #[.int .i64 (n : Int), .int .u64 (D : Int), .int .u64 (A : Int), .int .u64 (U : Int)] 198)) := (Below.refl _ _).alloc (Nat.le_refl _) _
  have HB : Hid (Below w.heap.size w (w.alloc (.cells #[.int .i64 (n : Int), .int .u64 (D : Int), .int .u64 (A : Int), .int .u64 (U : Int)] 198))) := bx
  clear bx
  have HOK : Hid (okB (n : Int) D A U = true) := h
  have HR : Hid (RamAt w F rb size m lg M) := hr
  simp only [okB, Bool.and_eq_true] at h
  obtain ⟨n', hn', hn1, hn2⟩ := pow_in h.1
  have hn : n ≤ 256 := by omega
  clear hn' hn1 hn2 n' hr
  have H : Hid (powB (n : Int) = true ∧ ((D : Int) % 16 == 0) = true ∧ ((A : Int) % 2 == 0) = true ∧ ((U : Int) % 4 == 0) = true) := h
  clear h
  go_enter Try.func129, Try.ntmps129
  go_wp2_with (first | (go_at_call 142; refine (power_any _ _).mono ?_; rintro e w2 ⟨rfl, hw⟩; rw [hw]; clear hw w2; rw [H.out.1]) | (go_at_call 60; refine (aligned_pos _ _ (by omega) (by decide) _).mono ?_; rintro e w2 ⟨rfl, hw⟩; rw [hw]; clear hw w2; first | rw [H.out.2.1] | rw [H.out.2.2.1] | rw [H.out.2.2.2]) | (go_at_call 143; refine (areas_any n D A U (by omega) _).mono ?_; rintro e w2 ⟨rfl, hb2⟩; have HB2 : Hid (Below w.heap.size w w2) := HB.out.trans (hb2.mono HB.out.size); clear hb2))
  clear HB
  go_loopw [31] (fun v wr => ∃ k : Nat, k ≤ 3 ∧ v = .int .i64 (k : Int) ∧ (0 < k → inB D (16 * (n : Int)) 2147483648 size = true) ∧ (1 < k → inB A (6 + 2 * (n : Int)) 2147483648 size = true) ∧ (2 < k → inB U (6 + 8 * (n : Int)) 2147483648 size = true) ∧ Below w.heap.size w wr) (fun v _ => 3 - (intOf v).toNat)
  case atStart => exact ⟨0, by omega, rfl, fun h => by omega, fun h => by omega, fun h => by omega, HB2.out⟩
  case round =>
    obtain ⟨k, hk, rfl, r0, r1, r2, hbr⟩ := hrel
    have R : Hid ((0 < k → inB D (16 * (n : Int)) 2147483648 size = true) ∧ (1 < k → inB A (6 + 2 * (n : Int)) 2147483648 size = true) ∧ (2 < k → inB U (6 + 8 * (n : Int)) 2147483648 size = true) ∧ Below w.heap.size w wr) := ⟨r0, r1, r2, hbr⟩
    clear r0 r1 r2 hbr HB2
    rcases (by omega : k = 0 ∨ k = 1 ∨ k = 2 ∨ k = 3) with hk0 | hk0 | hk0 | hk0
    · subst hk0
      have hix : ∀ V, (Instr.index 240 (.agg #[.int .u64 (D : Int), .int .u64 (16 * (n : Int)), .int .u64 (A : Int), .int .u64 (6 + 2 * (n : Int)), .int .u64 (U : Int), .int .u64 (6 + 8 * (n : Int))]) (.int .i64 0)).run Try.prog V = .ok (.agg #[.int .u64 (D : Int), .int .u64 (16 * (n : Int))]) V := fun V => idx0 _ _ _ _ _ _ V
      have HR2 : Hid (RamAt (wr.alloc (.cells #[.int .u64 (D : Int), .int .u64 (16 * (n : Int))] 42)) F rb size m lg M) := (HR.out.below R.out.2.2.2).below (Below.alloc (Below.refl _ _) (Nat.le_refl _) _)
      obtain ⟨b, hb⟩ : ∃ b, inB D (16 * (n : Int)) 2147483648 size = b := ⟨_, rfl⟩
      have HBB : Hid (inB D (16 * (n : Int)) 2147483648 size = b) := hb
      clear hb
      cases b with
      | false =>
        go_wp2_with (first | (go_at_call 57; refine (has_yes HR2.out hs D (16 * (n : Int)) (by omega) (by omega) (by omega)).mono ?_; rintro e w2 ⟨rfl, hw⟩; rw [hw]; clear hw w2; rw [HBB.out]))
        go_ret
        exact ⟨by rw [chk_21 HOK.out (by simp [inA, HBB.out])]; rfl, R.out.2.2.2.alloc R.out.2.2.2.size _⟩
      | true =>
        go_wp2_with (first | (go_at_call 57; refine (has_yes HR2.out hs D (16 * (n : Int)) (by omega) (by omega) (by omega)).mono ?_; rintro e w2 ⟨rfl, hw⟩; rw [hw]; clear hw w2; rw [HBB.out]))
        go_roundw
        case rel => exact ⟨1, by omega, rfl, fun _ => HBB.out, fun h => by omega, fun h => by omega, R.out.2.2.2.alloc R.out.2.2.2.size _⟩
        case measure => simp [intOf]
    · subst hk0
      have hix : ∀ V, (Instr.index 240 (.agg #[.int .u64 (D : Int), .int .u64 (16 * (n : Int)), .int .u64 (A : Int), .int .u64 (6 + 2 * (n : Int)), .int .u64 (U : Int), .int .u64 (6 + 8 * (n : Int))]) (.int .i64 1)).run Try.prog V = .ok (.agg #[.int .u64 (A : Int), .int .u64 (6 + 2 * (n : Int))]) V := fun V => idx1 _ _ _ _ _ _ V
      have HR2 : Hid (RamAt (wr.alloc (.cells #[.int .u64 (A : Int), .int .u64 (6 + 2 * (n : Int))] 42)) F rb size m lg M) := (HR.out.below R.out.2.2.2).below (Below.alloc (Below.refl _ _) (Nat.le_refl _) _)
      obtain ⟨b, hb⟩ : ∃ b, inB A (6 + 2 * (n : Int)) 2147483648 size = b := ⟨_, rfl⟩
      have HBB : Hid (inB A (6 + 2 * (n : Int)) 2147483648 size = b) := hb
      clear hb
      cases b with
      | false =>
        go_wp2_with (first | (go_at_call 57; refine (has_yes HR2.out hs A (6 + 2 * (n : Int)) (by omega) (by omega) (by omega)).mono ?_; rintro e w2 ⟨rfl, hw⟩; rw [hw]; clear hw w2; rw [HBB.out]))
        go_ret
        exact ⟨by rw [chk_21 HOK.out (by simp [inA, HBB.out])]; rfl, R.out.2.2.2.alloc R.out.2.2.2.size _⟩
      | true =>
        go_wp2_with (first | (go_at_call 57; refine (has_yes HR2.out hs A (6 + 2 * (n : Int)) (by omega) (by omega) (by omega)).mono ?_; rintro e w2 ⟨rfl, hw⟩; rw [hw]; clear hw w2; rw [HBB.out]))
        go_roundw
        case rel => exact ⟨2, by omega, rfl, fun _ => R.out.1 (by omega), fun _ => HBB.out, fun h => by omega, R.out.2.2.2.alloc R.out.2.2.2.size _⟩
        case measure => simp [intOf]
    · subst hk0
      have hix : ∀ V, (Instr.index 240 (.agg #[.int .u64 (D : Int), .int .u64 (16 * (n : Int)), .int .u64 (A : Int), .int .u64 (6 + 2 * (n : Int)), .int .u64 (U : Int), .int .u64 (6 + 8 * (n : Int))]) (.int .i64 2)).run Try.prog V = .ok (.agg #[.int .u64 (U : Int), .int .u64 (6 + 8 * (n : Int))]) V := fun V => idx2 _ _ _ _ _ _ V
      have HR2 : Hid (RamAt (wr.alloc (.cells #[.int .u64 (U : Int), .int .u64 (6 + 8 * (n : Int))] 42)) F rb size m lg M) := (HR.out.below R.out.2.2.2).below (Below.alloc (Below.refl _ _) (Nat.le_refl _) _)
      obtain ⟨b, hb⟩ : ∃ b, inB U (6 + 8 * (n : Int)) 2147483648 size = b := ⟨_, rfl⟩
      have HBB : Hid (inB U (6 + 8 * (n : Int)) 2147483648 size = b) := hb
      clear hb
      cases b with
      | false =>
        go_wp2_with (first | (go_at_call 57; refine (has_yes HR2.out hs U (6 + 8 * (n : Int)) (by omega) (by omega) (by omega)).mono ?_; rintro e w2 ⟨rfl, hw⟩; rw [hw]; clear hw w2; rw [HBB.out]))
        go_ret
        exact ⟨by rw [chk_21 HOK.out (by simp [inA, HBB.out])]; rfl, R.out.2.2.2.alloc R.out.2.2.2.size _⟩
      | true =>
        go_wp2_with (first | (go_at_call 57; refine (has_yes HR2.out hs U (6 + 8 * (n : Int)) (by omega) (by omega) (by omega)).mono ?_; rintro e w2 ⟨rfl, hw⟩; rw [hw]; clear hw w2; rw [HBB.out]))
        go_roundw
        case rel => exact ⟨3, by omega, rfl, fun _ => R.out.1 (by omega), fun _ => R.out.2.1 (by omega), fun _ => HBB.out, R.out.2.2.2.alloc R.out.2.2.2.size _⟩
        case measure => simp [intOf]
    · subst hk0
      go_wp2_with fail
      go_ret
      exact ⟨by rw [chk_0 HOK.out (by simp [inA, R.out.1 (by omega), R.out.2.1 (by omega), R.out.2.2.1 (by omega)])]; rfl, R.out.2.2.2⟩
theorem check_any {s : Int} {D A U : Nat} (hD : D < 18446744073709551616) (hA : A < 18446744073709551616) (hU : U < 18446744073709551616) {w : World} {F : Nat → Prop} {rb size m : Nat} {lg : Value} {M : Nat → Nat} (hr : RamAt w F rb size m lg M) (hs : size ≤ 268435456) :
    Calls Try.prog 129 #[.pointer (some ⟨rb, 0, none⟩), .agg #[.int .i64 s, .int .u64 (D : Int), .int .u64 (A : Int), .int .u64 (U : Int)]] w fun e w' => e = .returned (.int .i64 (chkN s D A U size)) ∧ Below w.heap.size w w' := by
  cases h : okB s D A U with
  | false =>
    rw [chk_150 size h]
    exact check_bad h _ w
  | true =>
    have h2 := h
    simp only [okB, Bool.and_eq_true] at h2
    obtain ⟨n, rfl, _, _⟩ := pow_in h2.1
    exact check_good hD hA hU h hr hs
end Go.Proofs.Ytlkhjekakbckmaa

/- The document's Check. -/
namespace Go.Proofs.Ytlkhjekakbckmaa
open Go.RowKit
set_option linter.unusedVariables false
set_option linter.unusedSimpArgs false
set_option maxRecDepth 100000

theorem two_in (w : World) (o1 o2 : Obj) : ((w.alloc o1).alloc o2).heap[w.heap.size]? = some o1 ∧ ((w.alloc o1).alloc o2).heap[w.heap.size + 1]? = some o2 := ⟨(boxes (Below.refl _ _)).1, (boxes (Below.refl _ _)).2.1⟩
theorem box4_facts {w : World} {b : Nat} {x0 x1 x2 x3 : Value} {t : TypeId} (h : w.heap[b]? = some (.cells #[x0, x1, x2, x3] t (0, 0))) : w.cell? ⟨b, 0, none⟩ = some x0 ∧ w.cell? ⟨b, 1, none⟩ = some x1 ∧ w.cell? ⟨b, 2, none⟩ = some x2 ∧ w.cell? ⟨b, 3, none⟩ = some x3 := by
  simp [World.cell?, h]
theorem box6_facts {w : World} {b : Nat} {x0 x1 x2 x3 x4 x5 : Value} {t : TypeId} (h : w.heap[b]? = some (.cells #[x0, x1, x2, x3, x4, x5] t (0, 0))) : w.cell? ⟨b, 0, none⟩ = some x0 ∧ w.cell? ⟨b, 1, none⟩ = some x1 ∧ w.cell? ⟨b, 2, none⟩ = some x2 ∧ w.cell? ⟨b, 3, none⟩ = some x3 ∧ w.cell? ⟨b, 4, none⟩ = some x4 ∧ w.cell? ⟨b, 5, none⟩ = some x5 := by
  simp [World.cell?, h]
theorem below_drewB {w w' : World} (h : Below w.drew.heap.size w.drew w') : Below w.heap.size w w' := (Below.drew (Below.refl _ _)).trans h
end Go.Proofs.Ytlkhjekakbckmaa
