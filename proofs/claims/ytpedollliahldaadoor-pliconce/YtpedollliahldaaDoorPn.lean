/- The plain side of layer 12: a state of priorities, lines, waiting and served sources; what calls make of it. -/
import Derived.Test.YtpedollliahldaaDoorBx
namespace Go.Proofs.YtpedollliahldaaDoor
open Go.RowKit
set_option linter.unusedVariables false
set_option linter.unusedSimpArgs false
/-- a state -/
structure St where
  prio : Nat → Nat
  high : Nat
  waits : Nat
  serv : Nat
  lets : Nat → Nat
  least : Nat → Nat
/-- its numbers are small -/
def St.Ok (S : St) : Prop := (∀ j, S.prio j < 8) ∧ S.high < 4294967296 ∧ S.waits < 4294967296 ∧ S.serv < 4294967296 ∧ (∀ c, S.lets c < 4294967296) ∧ ∀ c, S.least c < 8
/-- bit n of a word is made b -/
def setB (x n : Nat) (b : Bool) : Nat := if b then x ||| 2 ^ n else (x ||| 2 ^ n) ^^^ 2 ^ n
theorem testBit_setB (x n : Nat) (b : Bool) (j : Nat) : (setB x n b).testBit j = if j = n then b else x.testBit j := by
  unfold setB
  cases b
  · simp only [Bool.false_eq_true, if_false, Nat.testBit_xor, Nat.testBit_or, Nat.testBit_two_pow]
    by_cases h : j = n
    · subst h; simp
    · simp [h, Ne.symm h]
  · simp only [if_true, Nat.testBit_or, Nat.testBit_two_pow]
    by_cases h : j = n
    · subst h; simp
    · simp [h, Ne.symm h]
theorem lt_bits {x : Nat} (h : ∀ j, 32 ≤ j → x.testBit j = false) : x < 4294967296 := by
  rw [show 4294967296 = 2 ^ 32 from rfl]
  exact Nat.lt_pow_two_of_testBit x h
theorem bits_lt {x : Nat} (h : x < 4294967296) (j : Nat) (hj : 32 ≤ j) : x.testBit j = false := Nat.testBit_lt_two_pow (Nat.lt_of_lt_of_le (show x < 2 ^ 32 from h) (Nat.pow_le_pow_right (by omega) hj))
theorem setB_lt (x n : Nat) (b : Bool) (hx : x < 4294967296) (hn : n < 32) : setB x n b < 4294967296 := by
  apply lt_bits
  intro j hj
  rw [testBit_setB, if_neg (by omega), bits_lt hx j hj]
theorem testBit_not (y j : Nat) (hy : y < 4294967296) : (4294967295 - y).testBit j = (decide (j < 32) && !y.testBit j) := by
  have := Nat.testBit_two_pow_sub_succ (show y < 2 ^ 32 from hy) j
  rw [show 4294967295 - y = 2 ^ 32 - (y + 1) from by omega]
  exact this
theorem pow_lt {n : Nat} (hn : n < 32) : 2 ^ n < 4294967296 := by
  have : 2 ^ n < 2 ^ 32 := Nat.pow_lt_pow_right (by omega) hn
  exact this
theorem clr_eq (x n : Nat) (hx : x < 4294967296) (hn : n < 32) : x &&& (4294967295 - 2 ^ n) = setB x n false := by
  apply Nat.eq_of_testBit_eq
  intro j
  rw [testBit_setB, Nat.testBit_and, testBit_not _ _ (pow_lt hn), Nat.testBit_two_pow]
  by_cases h : j = n
  · subst h; simp
  · by_cases h2 : j < 32
    · simp [h, Ne.symm h, h2]
    · simp [h, Ne.symm h, h2, bits_lt hx j (by omega)]
theorem set_eq (x n : Nat) : x ||| 2 ^ n = setB x n true := by unfold setB; simp
/-- the sources' bits -/
theorem testBit_src (j : Nat) : (4294967294 : Nat).testBit j = (decide (1 ≤ j) && decide (j < 32)) := by
  have h := testBit_not 1 j (by decide)
  rw [show 4294967295 - 1 = 4294967294 from rfl] at h
  rw [h]
  cases j with
  | zero => simp
  | succ j => simp [Nat.testBit_succ]
/-- what waits, when all that is high and not served waits -/
def gateW (S : St) : Nat := S.waits ||| (S.high &&& (4294967295 - S.serv) &&& 4294967294)
theorem testBit_gateW (S : St) (h : S.Ok) (j : Nat) : (gateW S).testBit j = (S.waits.testBit j || (decide (1 ≤ j) && decide (j < 32) && S.high.testBit j && !S.serv.testBit j)) := by
  unfold gateW
  rw [Nat.testBit_or, Nat.testBit_and, Nat.testBit_and, testBit_not _ _ h.2.2.2.1, testBit_src]
  cases S.waits.testBit j <;> cases S.high.testBit j <;> cases S.serv.testBit j <;> by_cases h1 : 1 ≤ j <;> by_cases h2 : j < 32 <;> simp [h1, h2]
theorem gateW_lt (S : St) (h : S.Ok) : gateW S < 4294967296 := by
  apply lt_bits
  intro j hj
  rw [testBit_gateW S h, bits_lt h.2.2.1 j hj]
  simp [show ¬ j < 32 from by omega]
def gateS (S : St) : St := { S with waits := gateW S }
theorem gateS_ok {S : St} (h : S.Ok) : (gateS S).Ok := ⟨h.1, h.2.1, gateW_lt S h, h.2.2.2.1, h.2.2.2.2.1, h.2.2.2.2.2⟩
/-- .. the first k alone -/
def gateK (S : St) : Nat → Nat
  | 0 => S.waits
  | k + 1 => if 1 ≤ k ∧ S.high.testBit k = true ∧ S.serv.testBit k = false then setB (gateK S k) k true else gateK S k
theorem testBit_gateK (S : St) : ∀ (k j : Nat), (gateK S k).testBit j = (S.waits.testBit j || (decide (1 ≤ j) && decide (j < k) && S.high.testBit j && !S.serv.testBit j))
  | 0, j => by simp [gateK]
  | k + 1, j => by
    rw [gateK]
    have ih := testBit_gateK S k j
    by_cases e : j = k
    · subst e
      split
      · rename_i h
        rw [testBit_setB, if_pos rfl]
        simp [h.1, h.2.1, h.2.2]
      · rename_i h
        rw [ih]
        by_cases h1 : 1 ≤ j
        · cases h2 : S.high.testBit j <;> cases h3 : S.serv.testBit j <;> simp_all
        · simp [h1]
    · have e2 : decide (j < k + 1) = decide (j < k) := by
        by_cases h : j < k
        · simp [h]; omega
        · simp [h]; omega
      rw [e2]
      split
      · rw [testBit_setB, if_neg e, ih]
      · exact ih
theorem gateK_all (S : St) (h : S.Ok) : gateK S 32 = gateW S := by
  apply Nat.eq_of_testBit_eq
  intro j
  rw [testBit_gateK, testBit_gateW S h]
theorem gateK_one (S : St) : gateK S 1 = S.waits := by simp [gateK]
/-- the priority of the best one so far -/
def mostN (p : Nat → Nat) (b : Nat) : Nat := if b = 0 then 0 else p b
/-- the first of the numbers below k -/
def fstU (f : Nat → Bool) (p : Nat → Nat) : Nat → Nat
  | 0 => 0
  | k + 1 => if f k = true ∧ mostN p (fstU f p k) < p k then k else fstU f p k
theorem fstU_skip (f : Nat → Bool) (p : Nat → Nat) (k : Nat) : ∀ c, k ≤ c → (∀ i, k ≤ i → i < c → f i = false) → fstU f p c = fstU f p k
  | 0, h, _ => by rw [show k = 0 from by omega]
  | c + 1, h, hf => by
    by_cases e : k = c + 1
    · rw [e]
    · rw [fstU, if_neg (by rw [hf c (by omega) (by omega)]; simp)]
      exact fstU_skip f p k c (by omega) (fun i h1 h2 => hf i h1 (by omega))
def IsFst (f : Nat → Bool) (p : Nat → Nat) (lo hi n : Nat) : Prop :=
  (n = 0 ∧ ∀ i, lo ≤ i → i < hi → f i = true → p i = 0) ∨ (n ≠ 0 ∧ lo ≤ n ∧ n < hi ∧ f n = true ∧ 0 < p n ∧ ∀ i, lo ≤ i → i < hi → f i = true → p i < p n ∨ (p i = p n ∧ n ≤ i))
theorem isFst_one {f : Nat → Bool} {p : Nat → Nat} {lo hi n m : Nat} (h : IsFst f p lo hi n) (k : IsFst f p lo hi m) : n = m := by
  rcases h with ⟨rfl, h⟩ | ⟨h0, h1, h2, h3, h4, h5⟩ <;> rcases k with ⟨rfl, k⟩ | ⟨k0, k1, k2, k3, k4, k5⟩
  · rfl
  · have := h m k1 k2 k3; omega
  · have := k n h1 h2 h3; omega
  · have a := h5 m k1 k2 k3
    have b := k5 n h1 h2 h3
    omega
theorem fstU_is (f : Nat → Bool) (p : Nat → Nat) (h0 : f 0 = false) : ∀ k, IsFst f p 1 k (fstU f p k)
  | 0 => .inl ⟨rfl, fun i _ h => by omega⟩
  | k + 1 => by
    have ih := fstU_is f p h0 k
    rw [fstU]
    split
    · rename_i h
      have hk : k ≠ 0 := fun e => by rw [e, h0] at h; exact absurd h.1 (by simp)
      refine .inr ⟨hk, by omega, by omega, h.1, by omega, fun i h1 h2 h3 => ?_⟩
      by_cases e : i = k
      · subst e; exact .inr ⟨rfl, Nat.le_refl _⟩
      · rcases ih with ⟨i0, ih⟩ | ⟨i0, i1, i2, i3, i4, i5⟩
        · have := ih i h1 (by omega) h3; omega
        · have hm : mostN p (fstU f p k) = p (fstU f p k) := by unfold mostN; rw [if_neg i0]
          have := i5 i h1 (by omega) h3
          omega
    · rename_i h
      rcases ih with ⟨i0, ih⟩ | ⟨i0, i1, i2, i3, i4, i5⟩
      · refine .inl ⟨i0, fun i h1 h2 h3 => ?_⟩
        by_cases e : i = k
        · subst e
          have : ¬ mostN p (fstU f p i) < p i := fun hh => h ⟨h3, hh⟩
          rw [i0] at this
          simp [mostN] at this
          exact this
        · exact ih i h1 (by omega) h3
      · refine .inr ⟨i0, i1, by omega, i3, i4, fun i h1 h2 h3 => ?_⟩
        by_cases e : i = k
        · subst e
          have hh : ¬ mostN p (fstU f p i) < p i := fun hh => h ⟨h3, hh⟩
          have hm : mostN p (fstU f p i) = p (fstU f p i) := by unfold mostN; rw [if_neg i0]
          omega
        · exact i5 i h1 (by omega) h3
theorem isFst_down (f : Nat → Bool) (p : Nat → Nat) (i b : Nat) (h : IsFst f p (i + 1) 32 b) (hi : 1 ≤ i) (hi2 : i < 32) (hf : f i = true) (hp : 0 < p i) (hb : b = 0 ∨ p b ≤ p i) : IsFst f p i 32 i := by
  refine .inr ⟨by omega, Nat.le_refl _, hi2, hf, hp, fun j h1 h2 h3 => ?_⟩
  by_cases e : j = i
  · subst e; exact .inr ⟨rfl, Nat.le_refl _⟩
  · rcases h with ⟨i0, ih⟩ | ⟨i0, i1, i2, i3, i4, i5⟩
    · have := ih j (by omega) h2 h3; omega
    · have := i5 j (by omega) h2 h3; omega
theorem isFst_stay (f : Nat → Bool) (p : Nat → Nat) (i b : Nat) (h : IsFst f p (i + 1) 32 b) (hi : f i = false ∨ p i = 0 ∨ (b ≠ 0 ∧ p i < p b)) : IsFst f p i 32 b := by
  rcases h with ⟨i0, ih⟩ | ⟨i0, i1, i2, i3, i4, i5⟩
  · refine .inl ⟨i0, fun j h1 h2 h3 => ?_⟩
    by_cases e : j = i
    · subst e
      rcases hi with hi | hi | hi
      · rw [hi] at h3; cases h3
      · exact hi
      · omega
    · exact ih j (by omega) h2 h3
  · refine .inr ⟨i0, by omega, i2, i3, i4, fun j h1 h2 h3 => ?_⟩
    by_cases e : j = i
    · subst e
      rcases hi with hi | hi | hi
      · rw [hi] at h3; cases h3
      · omega
      · omega
    · exact i5 j (by omega) h2 h3
/-- does a source wait, and does a context let it? -/
def letB (S : St) (c i : Nat) : Bool := decide (1 ≤ i) && S.waits.testBit i && (S.lets c).testBit i
theorem letB_zero (S : St) (c : Nat) : letB S c 0 = false := by simp [letB]
/-- the first one of a context -/
def firstN (S : St) (c : Nat) : Nat := fstU (letB S c) S.prio 32
theorem firstN_is (S : St) (c : Nat) : IsFst (letB S c) S.prio 1 32 (firstN S c) := fstU_is _ _ (letB_zero S c) 32
theorem firstN_lt (S : St) (c : Nat) : firstN S c < 32 := by
  rcases firstN_is S c with h | h
  · omega
  · omega
/-- the word of those that wait and are let -/
def leftN (S : St) (c : Nat) : Nat := S.waits &&& S.lets c &&& 4294967294
theorem testBit_leftN (S : St) (h : S.Ok) (c i : Nat) : (leftN S c).testBit i = letB S c i := by
  unfold leftN letB
  rw [Nat.testBit_and, Nat.testBit_and, testBit_src]
  by_cases hi : i < 32
  · simp only [hi, decide_true, Bool.and_true]
    cases S.waits.testBit i <;> cases (S.lets c).testBit i <;> by_cases h1 : 1 ≤ i <;> simp [h1]
  · simp [bits_lt h.2.2.1 i (by omega)]
theorem leftN_lt (S : St) (h : S.Ok) (c : Nat) : leftN S c < 4294967296 := by
  apply lt_bits
  intro j hj
  rw [testBit_leftN S h]
  simp [letB, bits_lt h.2.2.1 j hj]
/-- the lowest bit taken away -/
theorem low_next (x : Nat) (hx : x < 18446744073709551616) (h0 : x ≠ 0) : x.testBit (Lib.ctz 64 x) = true ∧ (∀ i, i < Lib.ctz 64 x → x.testBit i = false) ∧ ∀ j, (x &&& (x - 1)).testBit j = (x.testBit j && decide (j ≠ Lib.ctz 64 x)) := by
  have e : Lib.ctz 64 x = Lib.ctzFrom 64 x := by unfold Lib.ctz; rw [if_neg h0]
  obtain ⟨m, hm, hl⟩ := Lib.ctzFrom_spec 64 x (by omega) hx
  rw [← e] at hm hl
  obtain ⟨-, h1, h2⟩ := ctz_bits x hx h0
  generalize Lib.ctz 64 x = c at *
  have t1 : x.testBit c = true := by rw [← bitAt_one, h1]; rfl
  have t2 : ∀ i, i < c → x.testBit i = false := fun i hi => by rw [← bitAt_one, h2 i hi]; rfl
  refine ⟨t1, t2, fun j => ?_⟩
  rw [Nat.testBit_and]
  rcases Nat.lt_trichotomy j c with h | h | h
  · simp [t2 j h]
  · subst h
    have hd : (x - 1) / 2 ^ j = 2 * m := by
      have hp := Nat.two_pow_pos j
      rw [hm, show 2 ^ j * (2 * m + 1) - 1 = (2 ^ j - 1) + 2 ^ j * (2 * m) from by rw [Nat.mul_add, Nat.mul_one]; omega, Nat.add_mul_div_left _ _ hp, Nat.div_eq_of_lt (by omega), Nat.zero_add]
    have : (x - 1).testBit j = false := by rw [Nat.testBit_eq_decide_div_mod_eq, hd]; simp
    simp [this]
  · obtain ⟨d, rfl⟩ : ∃ d, j = c + (d + 1) := ⟨j - c - 1, by omega⟩
    have hp := Nat.two_pow_pos c
    have hd : (x - 1) / 2 ^ c = 2 * m := by
      rw [hm, show 2 ^ c * (2 * m + 1) - 1 = (2 ^ c - 1) + 2 ^ c * (2 * m) from by rw [Nat.mul_add, Nat.mul_one]; omega, Nat.add_mul_div_left _ _ hp, Nat.div_eq_of_lt (by omega), Nat.zero_add]
    have hx2 : x / 2 ^ c = 2 * m + 1 := by rw [hm, Nat.mul_div_cancel_left _ hp]
    have a1 : (x - 1).testBit (c + (d + 1)) = m.testBit d := by
      rw [Nat.testBit_eq_decide_div_mod_eq, Nat.testBit_eq_decide_div_mod_eq, Nat.pow_add, ← Nat.div_div_eq_div_mul, hd, Nat.pow_succ, Nat.mul_comm (2 ^ d) 2, ← Nat.div_div_eq_div_mul, Nat.mul_div_cancel_left _ (by omega)]
    have a2 : x.testBit (c + (d + 1)) = m.testBit d := by
      rw [Nat.testBit_eq_decide_div_mod_eq, Nat.testBit_eq_decide_div_mod_eq, Nat.pow_add, ← Nat.div_div_eq_div_mul, hx2, Nat.pow_succ, Nat.mul_comm (2 ^ d) 2, ← Nat.div_div_eq_div_mul, show (2 * m + 1) / 2 = m from by omega]
    rw [a1, a2]
    simp [show c + (d + 1) ≠ c from by omega]
/-- Line, Take, Done, Lines -/
def lineS (S : St) (n : Nat) (h : Bool) : St := if h = true then gateS { S with high := setB S.high n true } else { S with high := setB S.high n false }
def takenS (S : St) (n : Nat) : St := { S with waits := setB S.waits n false, serv := setB S.serv n true }
def takeS (S : St) (c : Nat) : St := if firstN S c = 0 then S else takenS S (firstN S c)
def doneS (S : St) (c n : Nat) : St := if (S.lets c).testBit n = true then gateS { S with serv := setB S.serv n false } else S
def lineN (S : St) (c b : Nat) : Nat := if S.least c < mostN S.prio (firstN S c) then 2 ^ b else 0
def linesN (S : St) : Nat := lineN S 0 11 ||| lineN S 1 9
theorem high_ok {S : St} (h : S.Ok) (n : Nat) (b : Bool) (hn : n < 32) : ({ S with high := setB S.high n b } : St).Ok := ⟨h.1, setB_lt _ _ _ h.2.1 hn, h.2.2⟩
theorem serv_ok {S : St} (h : S.Ok) (n : Nat) (b : Bool) (hn : n < 32) : ({ S with serv := setB S.serv n b } : St).Ok := ⟨h.1, h.2.1, h.2.2.1, setB_lt _ _ _ h.2.2.2.1 hn, h.2.2.2.2⟩
theorem lineS_ok {S : St} (h : S.Ok) (n : Nat) (b : Bool) (hn : n < 32) : (lineS S n b).Ok := by
  unfold lineS
  split
  · exact gateS_ok (high_ok h n true hn)
  · exact high_ok h n false hn
theorem takenS_ok {S : St} (h : S.Ok) (n : Nat) (hn : n < 32) : (takenS S n).Ok := ⟨h.1, h.2.1, (setB_lt S.waits n false h.2.2.1 hn : setB S.waits n false < 4294967296), (setB_lt S.serv n true h.2.2.2.1 hn : setB S.serv n true < 4294967296), h.2.2.2.2⟩
theorem takeS_ok {S : St} (h : S.Ok) (c : Nat) : (takeS S c).Ok := by
  unfold takeS
  split
  · exact h
  · exact takenS_ok h _ (firstN_lt S c)
theorem doneS_ok {S : St} (h : S.Ok) (c n : Nat) (hn : n < 32) : (doneS S c n).Ok := by
  unfold doneS
  split
  · exact gateS_ok (serv_ok h n false hn)
  · exact h
theorem lineN_cases (S : St) (c b : Nat) : lineN S c b = 0 ∨ lineN S c b = 2 ^ b := by unfold lineN; split <;> simp
theorem linesN_eq (S : St) : linesN S = lineN S 0 11 + lineN S 1 9 := by
  unfold linesN
  rcases lineN_cases S 0 11 with h | h <;> rcases lineN_cases S 1 9 with k | k <;> rw [h, k] <;> rfl
theorem linesN_lt (S : St) : linesN S < 4294967296 := by
  rw [linesN_eq]
  rcases lineN_cases S 0 11 with h | h <;> rcases lineN_cases S 1 9 with k | k <;> rw [h, k] <;> decide
/-- the cells of both sides -/
def progF (S : St) (j : Nat) : Value := if j < 32 then .int .u32 (S.prio j : Nat) else if j = 32 then .int .u32 (S.high : Nat) else if j = 33 then .int .u32 (S.waits : Nat) else if j = 34 then .int .u32 (S.serv : Nat) else if j < 37 then .int .u32 (S.lets (j - 35) : Nat) else .int .u32 (S.least (j - 37) : Nat)
def docF (S : St) (j : Nat) : Value := if j < 32 then .int .i64 (S.prio j : Nat) else if j < 64 then .bool (S.high.testBit (j - 32)) else if j < 96 then .bool (S.waits.testBit (j - 64)) else if j < 128 then .bool (S.serv.testBit (j - 96)) else if j < 192 then .bool ((S.lets ((j - 128) / 32)).testBit ((j - 128) % 32)) else .int .i64 (S.least (j - 192) : Nat)
def rowC (f : Nat → Value) (n : Nat) : Array Value := ((List.range n).map f).toArray
def progC (S : St) : Array Value := rowC (progF S) 39
def docC (S : St) : Array Value := rowC (docF S) 194
theorem rowC_size (f : Nat → Value) (n : Nat) : (rowC f n).size = n := by simp [rowC]
theorem rowC_get (f : Nat → Value) (n j : Nat) (h : j < n) : (rowC f n)[j]? = some (f j) := by simp [rowC, h]
theorem rowC_congr (f g : Nat → Value) (n : Nat) (h : ∀ j, j < n → f j = g j) : rowC f n = rowC g n := by
  unfold rowC
  congr 1
  apply List.map_congr_left
  intro i hi
  exact h i (by simpa using hi)
theorem rowC_set (f : Nat → Value) (n i : Nat) (v : Value) : (rowC f n).setIfInBounds i v = rowC (fun j => if j = i then v else f j) n := by
  apply Array.ext_getElem?
  intro j
  rw [Array.getElem?_setIfInBounds]
  by_cases hj : j < n
  · by_cases e : i = j
    · subst e; simp [rowC, hj]
    · simp [rowC, hj, e, Ne.symm e]
  · by_cases e : i = j
    · subst e; simp [rowC, hj]
    · simp [rowC, hj, e]
theorem rowC_one (f : Nat → Value) (n : Nat) (h : ∀ j, j < n → (f j).oneCell' = true) : (rowC f n).all (·.oneCell') = true := by
  rw [Array.all_eq_true_iff_forall_mem]
  intro v hv
  simp [rowC] at hv
  obtain ⟨j, hj, rfl⟩ := hv
  exact h j hj
theorem progC_one (S : St) : (progC S).all (·.oneCell') = true := rowC_one _ _ fun j _ => by unfold progF; split <;> (try split) <;> (try split) <;> (try split) <;> (try split) <;> rfl
theorem docC_one (S : St) : (docC S).all (·.oneCell') = true := rowC_one _ _ fun j _ => by unfold docF; split <;> (try split) <;> (try split) <;> (try split) <;> (try split) <;> rfl
theorem progC_high (S : St) (x : Nat) : (progC S).setIfInBounds 32 (.int .u32 (x : Nat)) = progC { S with high := x } := by
  unfold progC
  rw [rowC_set]
  apply rowC_congr
  intro j hj
  show (if j = 32 then _ else progF S j) = progF { S with high := x } j
  split
  · rename_i e
    subst e
    simp [progF]
  · rename_i e
    unfold progF
    dsimp only
    simp [e]
theorem progC_waits (S : St) (x : Nat) : (progC S).setIfInBounds 33 (.int .u32 (x : Nat)) = progC { S with waits := x } := by
  unfold progC
  rw [rowC_set]
  apply rowC_congr
  intro j hj
  show (if j = 33 then _ else progF S j) = progF { S with waits := x } j
  split
  · rename_i e
    subst e
    simp [progF]
  · rename_i e
    unfold progF
    dsimp only
    simp [e]
theorem progC_serv (S : St) (x : Nat) : (progC S).setIfInBounds 34 (.int .u32 (x : Nat)) = progC { S with serv := x } := by
  unfold progC
  rw [rowC_set]
  apply rowC_congr
  intro j hj
  show (if j = 34 then _ else progF S j) = progF { S with serv := x } j
  split
  · rename_i e
    subst e
    simp [progF]
  · rename_i e
    unfold progF
    dsimp only
    simp [e]
/-- one of some numbers is another one -/
def updN (f : Nat → Nat) (i x : Nat) (j : Nat) : Nat := if j = i then x else f j
theorem progC_prio (S : St) (i x : Nat) (hi : i < 32) : (progC S).setIfInBounds i (.int .u32 (x : Nat)) = progC { S with prio := updN S.prio i x } := by
  unfold progC
  rw [rowC_set]
  apply rowC_congr
  intro j hj
  show (if j = i then _ else progF S j) = progF { S with prio := updN S.prio i x } j
  split
  · rename_i e
    subst e
    simp [progF, hi, updN]
  · rename_i e
    unfold progF
    dsimp only
    simp [updN, e]
theorem progC_lets (S : St) (c x : Nat) (hc : c < 2) : (progC S).setIfInBounds (35 + c) (.int .u32 (x : Nat)) = progC { S with lets := updN S.lets c x } := by
  unfold progC
  rw [rowC_set]
  apply rowC_congr
  intro j hj
  show (if j = (35 + c) then _ else progF S j) = progF { S with lets := updN S.lets c x } j
  split
  · rename_i e
    subst e
    unfold progF
    rw [if_neg (by omega), if_neg (by omega), if_neg (by omega), if_neg (by omega), if_pos (by omega)]
    simp [updN]
  · rename_i e
    unfold progF
    dsimp only
    by_cases h : j < 32
    · simp [h]
    · by_cases h2 : j < 35
      · have : j = 32 ∨ j = 33 ∨ j = 34 := by omega
        rcases this with rfl | rfl | rfl <;> simp
      · simp only [h, show ¬ j = 32 from by omega, show ¬ j = 33 from by omega, show ¬ j = 34 from by omega, if_false]
        by_cases h3 : j < 37
        · rw [if_pos h3, if_pos h3, updN, if_neg (by omega)]
        · rw [if_neg h3, if_neg h3]
theorem progC_least (S : St) (c x : Nat) (hc : c < 2) : (progC S).setIfInBounds (37 + c) (.int .u32 (x : Nat)) = progC { S with least := updN S.least c x } := by
  unfold progC
  rw [rowC_set]
  apply rowC_congr
  intro j hj
  show (if j = (37 + c) then _ else progF S j) = progF { S with least := updN S.least c x } j
  split
  · rename_i e
    subst e
    unfold progF
    rw [if_neg (by omega), if_neg (by omega), if_neg (by omega), if_neg (by omega), if_neg (by omega)]
    simp [updN]
  · rename_i e
    unfold progF
    dsimp only
    by_cases h : j < 32
    · simp [h]
    · by_cases h2 : j < 35
      · have : j = 32 ∨ j = 33 ∨ j = 34 := by omega
        rcases this with rfl | rfl | rfl <;> simp
      · simp only [h, show ¬ j = 32 from by omega, show ¬ j = 33 from by omega, show ¬ j = 34 from by omega, if_false]
        by_cases h3 : j < 37
        · rw [if_pos h3, if_pos h3]
        · rw [if_neg h3, if_neg h3, updN, if_neg (by omega)]
theorem docC_high (S : St) (i : Nat) (b : Bool) (hi : i < 32) : (docC S).setIfInBounds (32 + i) (.bool b) = docC { S with high := setB S.high i b } := by
  unfold docC
  rw [rowC_set]
  apply rowC_congr
  intro j hj
  show (if j = (32 + i) then _ else docF S j) = docF { S with high := setB S.high i b } j
  unfold docF
  dsimp only
  by_cases h1 : j < 32
  · simp only [h1, if_true]; rw [if_neg (by omega)]
  by_cases h2 : j < 64
  · simp only [h1, h2, if_true, if_false]
    rw [testBit_setB]
    by_cases e : j = 32 + i
    · rw [if_pos e, if_pos (by omega)]
    · rw [if_neg e, if_neg (by omega)]
  by_cases h3 : j < 96
  · simp only [h1, h2, h3, if_true, if_false]
    rw [if_neg (by omega)]
  by_cases h4 : j < 128
  · simp only [h1, h2, h3, h4, if_true, if_false]
    rw [if_neg (by omega)]
  simp only [h1, h2, h3, h4, if_false]
  rw [if_neg (by omega)]
theorem docC_waits (S : St) (i : Nat) (b : Bool) (hi : i < 32) : (docC S).setIfInBounds (64 + i) (.bool b) = docC { S with waits := setB S.waits i b } := by
  unfold docC
  rw [rowC_set]
  apply rowC_congr
  intro j hj
  show (if j = (64 + i) then _ else docF S j) = docF { S with waits := setB S.waits i b } j
  unfold docF
  dsimp only
  by_cases h1 : j < 32
  · simp only [h1, if_true]; rw [if_neg (by omega)]
  by_cases h2 : j < 64
  · simp only [h1, h2, if_true, if_false]
    rw [if_neg (by omega)]
  by_cases h3 : j < 96
  · simp only [h1, h2, h3, if_true, if_false]
    rw [testBit_setB]
    by_cases e : j = 64 + i
    · rw [if_pos e, if_pos (by omega)]
    · rw [if_neg e, if_neg (by omega)]
  by_cases h4 : j < 128
  · simp only [h1, h2, h3, h4, if_true, if_false]
    rw [if_neg (by omega)]
  simp only [h1, h2, h3, h4, if_false]
  rw [if_neg (by omega)]
theorem docC_serv (S : St) (i : Nat) (b : Bool) (hi : i < 32) : (docC S).setIfInBounds (96 + i) (.bool b) = docC { S with serv := setB S.serv i b } := by
  unfold docC
  rw [rowC_set]
  apply rowC_congr
  intro j hj
  show (if j = (96 + i) then _ else docF S j) = docF { S with serv := setB S.serv i b } j
  unfold docF
  dsimp only
  by_cases h1 : j < 32
  · simp only [h1, if_true]; rw [if_neg (by omega)]
  by_cases h2 : j < 64
  · simp only [h1, h2, if_true, if_false]
    rw [if_neg (by omega)]
  by_cases h3 : j < 96
  · simp only [h1, h2, h3, if_true, if_false]
    rw [if_neg (by omega)]
  by_cases h4 : j < 128
  · simp only [h1, h2, h3, h4, if_true, if_false]
    rw [testBit_setB]
    by_cases e : j = 96 + i
    · rw [if_pos e, if_pos (by omega)]
    · rw [if_neg e, if_neg (by omega)]
  simp only [h1, h2, h3, h4, if_false]
  rw [if_neg (by omega)]
theorem docC_prio (S : St) (i x : Nat) (hi : i < 32) : (docC S).setIfInBounds i (.int .i64 (x : Nat)) = docC { S with prio := updN S.prio i x } := by
  unfold docC
  rw [rowC_set]
  apply rowC_congr
  intro j hj
  show (if j = i then _ else docF S j) = docF { S with prio := updN S.prio i x } j
  unfold docF
  dsimp only
  by_cases h1 : j < 32
  · simp only [h1, if_true, updN]
    by_cases e : j = i
    · rw [if_pos e, if_pos e]
    · rw [if_neg e, if_neg e]
  simp only [h1, if_false]
  rw [if_neg (by omega)]
theorem docC_least (S : St) (c x : Nat) (hc : c < 2) : (docC S).setIfInBounds (192 + c) (.int .i64 (x : Nat)) = docC { S with least := updN S.least c x } := by
  unfold docC
  rw [rowC_set]
  apply rowC_congr
  intro j hj
  show (if j = (192 + c) then _ else docF S j) = docF { S with least := updN S.least c x } j
  unfold docF
  dsimp only
  by_cases h : j < 192
  · rw [if_neg (by omega)]
    by_cases h1 : j < 32
    · simp only [h1, if_true]
    by_cases h2 : j < 64
    · simp only [h1, h2, if_true, if_false]
    by_cases h3 : j < 96
    · simp only [h1, h2, h3, if_true, if_false]
    by_cases h4 : j < 128
    · simp only [h1, h2, h3, h4, if_true, if_false]
    simp only [h1, h2, h3, h4, h, if_true, if_false]
  · simp only [show ¬ j < 32 from by omega, show ¬ j < 64 from by omega, show ¬ j < 96 from by omega, show ¬ j < 128 from by omega, h, if_false, updN]
    by_cases e : j = 192 + c
    · rw [if_pos e, if_pos (by omega)]
    · rw [if_neg e, if_neg (by omega)]
theorem docC_lets (S : St) (c x : Nat) (hc : c < 2) : rowC (fun j => if 128 + c * 32 ≤ j ∧ j < 128 + c * 32 + 32 then .bool (x.testBit (j - (128 + c * 32))) else docF S j) 194 = docC { S with lets := updN S.lets c x } := by
  unfold docC
  apply rowC_congr
  intro j hj
  unfold docF
  dsimp only
  by_cases h : j < 128
  · rw [if_neg (by omega)]
    by_cases h1 : j < 32
    · simp only [h1, if_true]
    by_cases h2 : j < 64
    · simp only [h1, h2, if_true, if_false]
    by_cases h3 : j < 96
    · simp only [h1, h2, h3, if_true, if_false]
    simp only [h1, h2, h3, h, if_true, if_false]
  · simp only [show ¬ j < 32 from by omega, show ¬ j < 64 from by omega, show ¬ j < 96 from by omega, h, if_false, updN]
    by_cases h5 : j < 192
    · rw [if_pos h5, if_pos h5]
      by_cases e : (j - 128) / 32 = c
      · rw [if_pos (by omega), if_pos e, show j - (128 + c * 32) = (j - 128) % 32 from by omega]
      · rw [if_neg (by omega), if_neg e]
    · rw [if_neg h5, if_neg h5, if_neg (by omega)]
end Go.Proofs.YtpedollliahldaaDoor
