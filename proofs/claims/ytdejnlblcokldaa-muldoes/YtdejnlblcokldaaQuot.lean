/- The document's quotient and rest, bit by bit, are the quotient and the rest; with signs likewise. -/
import Derived.Test.YtdejnlblcokldaaSigned
namespace Go.Proofs.Ytdejnlblcokldaa
open Go.RowKit
set_option linter.unusedVariables false
set_option linter.unusedSimpArgs false
theorem bits_sl (x : Nat) (hx : x < 18446744073709551616) (w : World) :
    Calls Try.prog 23 #[.int .u64 (x : Int)] w fun e w' => ∃ g cap, e = .returned (.slice (some ⟨g, 0, none⟩) 64 cap) ∧ w'.ownsRow w.heap.size 3 1 (.slice (some ⟨g, 0, none⟩) 64 cap) 64 (rowOf (bitAt x) 64) ∧ Below w.heap.size w w' ∧ w.heap.size ≤ g ∧ 64 ≤ cap ∧ (∀ j, j < 64 → w'.cell? ⟨g, j, none⟩ = some (.int .i64 (bitAt x j : Nat))) ∧ g < w'.heap.size := by
  refine (bits_any x hx w).mono ?_
  rintro e w1 ⟨v1, rfl, hv1, hb1⟩
  have hv2 := hv1.2
  rcases hv2 with ⟨_, h64⟩ | ⟨g, cap, cur, rfl, hg, hbl, hnc, hcm, _, _⟩
  · omega
  exact ⟨g, cap, rfl, hv1, hb1, hg, hnc, fun j hj => by rw [hv1.cellAt j (by omega)]; exact rowOf_get _ 64 j hj, by have := hv1.lt g rfl; omega⟩
/-- the quotient's bits from k on, as far as they are laid -/
def quoF (a b k : Nat) (j : Nat) : Nat := if k ≤ j then bitAt (a / b) j else 0
theorem quoF_le (a b k j : Nat) : quoF a b k j ≤ 1 := by
  unfold quoF; split
  · exact bitAt_le _ _
  · omega
theorem rowOf_congr (f g : Nat → Nat) (n : Nat) (h : ∀ j, j < n → f j = g j) : rowOf f n = rowOf g n := by
  unfold rowOf
  apply List.map_congr_left
  intro j hj
  rw [h j (List.mem_range.1 hj)]
theorem quo_start (a b : Nat) : (madeCells #[Value.int .i64 0] 64).toList = rowOf (quoF a b 64) 64 := by
  rw [rowOf_congr (quoF a b 64) (fun _ => 0) 64 (fun j hj => by unfold quoF; rw [if_neg (by omega)])]
  rw [toList_madeCells_one]
  rfl
theorem quo_end (a b : Nat) (ha : a < 18446744073709551616) : hiOf (quoF a b 0) 64 0 = a / b := by
  apply hiOf_eq _ _ _ (fun _ _ => quoF_le _ _ _ _)
  intro j
  unfold quoF
  rw [if_pos (by omega), bitAt_one]
  by_cases h : j < 64
  · simp [h]
  · have : a / b < 18446744073709551616 := Nat.lt_of_le_of_lt (Nat.div_le_self _ _) ha
    rw [high_bit _ _ this (Nat.le_of_not_lt h)]; simp [h]
theorem half_div (a j : Nat) : a / 2 ^ j = 2 * (a / 2 ^ (j + 1)) + bitAt a j := by
  unfold bitAt
  rw [Nat.pow_succ, ← Nat.div_div_eq_div_mul]
  omega
theorem quo_bit (a b j : Nat) : bitAt (a / b) j = a / 2 ^ j / b % 2 := by
  unfold bitAt
  rw [Nat.div_div_eq_div_mul, Nat.div_div_eq_div_mul, Nat.mul_comm]
theorem quo_ge (a b j : Nat) (hb : 0 < b) (h : b ≤ a / 2 ^ (j + 1) % b * 2 + bitAt a j) : a / 2 ^ j % b = a / 2 ^ (j + 1) % b * 2 + bitAt a j - b ∧ bitAt (a / b) j = 1 := by
  rw [quo_bit, half_div a j]
  have hA := Nat.div_add_mod (a / 2 ^ (j + 1)) b
  have hlt := Nat.mod_lt (a / 2 ^ (j + 1)) hb
  have ht := bitAt_le a j
  generalize a / 2 ^ (j + 1) = X at *
  generalize bitAt a j = t at *
  generalize X % b = r at *
  generalize X / b = q at *
  have e : 2 * X + t = (r * 2 + t - b) + b * (2 * q + 1) := by
    rw [← hA, Nat.mul_add b, Nat.mul_left_comm b 2 q]; omega
  rw [e, Nat.add_mul_mod_self_left, Nat.add_mul_div_left _ _ hb, Nat.mod_eq_of_lt (by omega), Nat.div_eq_of_lt (by omega)]
  omega
theorem quo_lt (a b j : Nat) (hb : 0 < b) (h : a / 2 ^ (j + 1) % b * 2 + bitAt a j < b) : a / 2 ^ j % b = a / 2 ^ (j + 1) % b * 2 + bitAt a j ∧ bitAt (a / b) j = 0 := by
  rw [quo_bit, half_div a j]
  have hA := Nat.div_add_mod (a / 2 ^ (j + 1)) b
  have ht := bitAt_le a j
  generalize a / 2 ^ (j + 1) = X at *
  generalize bitAt a j = t at *
  generalize X % b = r at *
  generalize X / b = q at *
  have e : 2 * X + t = (r * 2 + t) + b * (2 * q) := by
    rw [← hA, Nat.mul_left_comm b 2 q]; omega
  rw [e, Nat.add_mul_mod_self_left, Nat.add_mul_div_left _ _ hb, Nat.mod_eq_of_lt h, Nat.div_eq_of_lt h]
  omega
theorem quoF_one (a b j : Nat) (h : bitAt (a / b) j = 1) : (fun i => if i = j then 1 else quoF a b (j + 1) i) = quoF a b j := by
  funext i
  unfold quoF
  by_cases e : i = j
  · subst e; simp [h]
  · rw [if_neg e]
    by_cases g : j + 1 ≤ i
    · rw [if_pos g, if_pos (by omega)]
    · rw [if_neg g, if_neg (by omega)]
theorem quoF_zero (a b j : Nat) (h : bitAt (a / b) j = 0) : quoF a b (j + 1) = quoF a b j := by
  funext i
  unfold quoF
  by_cases e : i = j
  · subst e; simp [h]
  · by_cases g : j + 1 ≤ i
    · rw [if_pos g, if_pos (by omega)]
    · rw [if_neg g, if_neg (by omega)]
set_option maxHeartbeats 1000000 in
theorem quotient_any (a b : Nat) (ha : a < 18446744073709551616) (hb : b < 18446744073709551616) (h0 : 0 < b) (w : World) : Calls Try.prog 38 #[.int .u64 (a : Int), .int .u64 (b : Int)] w fun e w' => e = .returned (.tuple #[.int .u64 ((a / b : Nat) : Int), .int .u64 ((a % b : Nat) : Int)]) ∧ Below w.heap.size w w' := by
  obtain ⟨i0, hi, hz0, hz1, hz2⟩ := info_parts Try.info3
  go_enter Try.func38, Try.ntmps38
  go_wp2_with fail
  refine (bits_sl a ha _).mono ?_
  rintro e w1 ⟨g, cap, rfl, _, hb1, hg, hnc, hcs, hgs⟩
  go_wp2_with (first | (at_make; refine wpList_make_full _ rfl _ _ 35 rfl w1.heap.size 3 i0 (.int .i64 0) 1 Try.underlying35 hi hz0 hz1 _ _ _ _ 64 rfl rfl ?m1 ?m2 ?m3 ?m4 ?m5 ?_))
  case m1 => rfl
  case m2 => rfl
  case m3 => rw [hz2]; decide
  case m4 => unfold maxLen; omega
  case m5 => exact Nat.le_refl _
  intro w2 hown hgrow
  rw [quo_start a b] at hown
  have hb2 : Below w1.heap.size w1 w2 := Below.grown (Below.refl _ _) hgrow (Nat.le_refl _) (fun _ h => by simp at h)
  have HC : Hid (∀ j, j < 64 → w1.cell? ⟨g, j, none⟩ = some (.int .i64 (bitAt a j : Nat))) := hcs
  have HB1 : Hid (Below w.heap.size w w1) := hb1
  have HOwn : Hid (w2.ownsRow w1.heap.size 3 1 (.slice (some ⟨w1.heap.size, 0, none⟩) 64 64) 64 (rowOf (quoF a b 64) 64) ∧ Below w1.heap.size w1 w2) := ⟨hown, hb2⟩
  have hne : w1.heap.size ≠ g := by omega
  clear hcs hb1 hgrow hown hb2 hg hnc
  generalize hgq : w1.heap.size = gq at *
  go_wp2_with fail
  go_loopw [8, 9, 10] (fun r i o wr => ∃ k : Nat, k ≤ 64 ∧ i = .int .i64 ((k : Int) - 1) ∧ r = .int .u64 ((a / 2 ^ k % b : Nat) : Int) ∧ wr.ownsRow gq 3 1 (.slice (some ⟨gq, 0, none⟩) 64 64) 64 (rowOf (quoF a b k) 64) ∧ Below gq w1 wr) (fun _ i _ _ => (intOf i + 1).toNat)
  case atStart => exact ⟨64, by omega, rfl, by rw [Nat.div_eq_of_lt (by omega)]; simp, HOwn.out.1, HOwn.out.2⟩
  case round =>
    obtain ⟨k, hk, rfl, rfl, hown, hb2⟩ := hrel
    clear HOwn
    by_cases hlt : 0 < k
    · obtain ⟨j, rfl⟩ : ∃ j, k = j + 1 := ⟨k - 1, by omega⟩
      have e : ((j + 1 : Nat) : Int) - 1 = (j : Int) := by omega
      rw [e]
      have hc : wr.cell? ⟨g, j, none⟩ = some (.int .i64 (bitAt a j : Nat)) := by rw [hb2.cell (p := ⟨g, j, none⟩) hgs]; exact HC.out j (by omega)
      have hcq : wr.cell? ⟨gq, j, none⟩ = some (.int .i64 (quoF a b (j + 1) j : Nat)) := by rw [hown.cellAt j (by omega)]; exact rowOf_get _ 64 j (by omega)
      have hfz := hown.frozenAt j
      have hown2 := hown.stored j (.int .i64 ((1 : Nat) : Int))
      rw [rowOf_set] at hown2
      have hb3 := hb2.setCell (p := ⟨gq, j, none⟩) (Nat.le_refl _) (.int .i64 ((1 : Nat) : Int))
      have G1 : Hid (b ≤ a / 2 ^ (j + 1) % b * 2 + bitAt a j → a / 2 ^ j % b = a / 2 ^ (j + 1) % b * 2 + bitAt a j - b ∧ bitAt (a / b) j = 1) := quo_ge a b j h0
      have G2 : Hid (a / 2 ^ (j + 1) % b * 2 + bitAt a j < b → a / 2 ^ j % b = a / 2 ^ (j + 1) % b * 2 + bitAt a j ∧ bitAt (a / b) j = 0) := quo_lt a b j h0
      have hrb : a / 2 ^ (j + 1) % b < b := Nat.mod_lt _ h0
      have ht := bitAt_le a j
      have hj1 : (j : Int) < 64 := by omega
      have HK : Hid (_ ∧ _ ∧ _ ∧ _) := ⟨hown, hb2, hown2, hb3⟩
      clear hown hb2 hown2 hb3 e
      generalize quoF a b (j + 1) j = qj at *
      generalize a / 2 ^ (j + 1) % b = r at *
      generalize bitAt a j = t at *
      by_cases hge : b ≤ r * 2 + t
      · obtain ⟨g1, g2⟩ := G1.out hge
        have GE : Hid _ := g1
        have HG : Hid (bitAt (a / b) j = 1) := g2
        clear G1 G2 g1 g2
        by_cases hov : 9223372036854775808 ≤ r
        · have hov1 : (9223372036854775808 : Int) ≤ r := by omega
          go_wp2_with fail
          go_roundw
          case rel => exact ⟨j, by omega, by go_num, congrArg (Value.int .u64) (by rw [GE.out]; first | omega | (rw [wrap_u64]; omega) | (simp only [wrap_u64]; omega)), by have h := HK.out.2.2.1.1; rw [quoF_one a b j HG.out] at h; exact h, HK.out.2.2.2⟩
          case measure => simp [intOf]
        · have hov1 : ¬ (9223372036854775808 : Int) ≤ r := by omega
          have hr2 : (r : Int) * 2 + t < 18446744073709551616 := by omega
          have hr3 : (b : Int) ≤ (r : Int) * 2 + t := by omega
          go_wp2_with fail
          go_roundw
          case rel => exact ⟨j, by omega, by go_num, congrArg (Value.int .u64) (by rw [GE.out]; first | omega | (rw [wrap_u64]; omega) | (simp only [wrap_u64]; omega)), by have h := HK.out.2.2.1.1; rw [quoF_one a b j HG.out] at h; exact h, HK.out.2.2.2⟩
          case measure => simp [intOf]
      · obtain ⟨g1, g2⟩ := G2.out (by omega)
        have GE : Hid _ := g1
        have HG : Hid (bitAt (a / b) j = 0) := g2
        clear G1 G2 g1 g2
        have hov1 : ¬ (9223372036854775808 : Int) ≤ r := by omega
        have hr2 : (r : Int) * 2 + t < 18446744073709551616 := by omega
        have hr3 : ¬ (b : Int) ≤ (r : Int) * 2 + t := by omega
        go_wp2_with fail
        go_roundw
        case rel => exact ⟨j, by omega, by go_num, congrArg (Value.int .u64) (by rw [GE.out]; first | omega | (rw [wrap_u64]; omega) | (simp only [wrap_u64]; omega)), by have h := HK.out.1; rw [quoF_zero a b j HG.out] at h; exact h, HK.out.2.1⟩
        case measure => simp [intOf]
    · obtain rfl : k = 0 := by omega
      have HB : Hid (Below gq w1 wr) := hb2
      clear hb2
      go_wp2_with fail
      refine (word_any (quoF a b 0) 64 gq _ (by decide) (fun _ _ => quoF_le _ _ _ _) _ hown).mono ?_
      rintro e w3 ⟨rfl, hx⟩; rw [hx]; clear hx
      go_wp2_with fail
      go_ret2
      refine ⟨?_, ?_⟩
      · rw [quo_end a b ha]; simp
      · subst hgq; exact HB1.out.trans (HB.out.mono HB1.out.size)
/-- what the document's Unsigned and SignedQuotient come to -/
theorem unsigned_any (a b : Nat) (ha : a < 18446744073709551616) (hb : b < 18446744073709551616) (w : World) : Calls Try.prog 21 #[.int .u64 (a : Int), .int .u64 (b : Int)] w fun e w' => e = .returned (.tuple #[.int .u64 ((divuV a b : Nat) : Int), .int .u64 ((remuV a b : Nat) : Int)]) ∧ Below w.heap.size w w' := by
  by_cases h0 : b = 0
  · have z3 : divuV a b = 18446744073709551615 := by unfold divuV; rw [if_pos h0]
    have z4 : remuV a b = a := by unfold remuV; rw [if_pos h0]
    rw [z3, z4]
    subst h0
    go_enter Try.func21, Try.ntmps21
    go_wp2
    go_ret2
    exact ⟨rfl, Below.refl _ _⟩
  · have z3 : divuV a b = a / b := by unfold divuV; rw [if_neg h0]
    have z4 : remuV a b = a % b := by unfold remuV; rw [if_neg h0]
    rw [z3, z4]
    have hq := fun w => quotient_any a b ha hb (by omega) w
    have h1 : ¬ (b : Int) = 0 := by omega
    generalize a / b = q at *
    generalize a % b = r at *
    go_enter Try.func21, Try.ntmps21
    go_wp2_with fail
    refine (hq _).mono ?_
    rintro e w1 ⟨rfl, hb1⟩
    go_wp2_with fail
    go_ret2
    exact ⟨rfl, hb1⟩
theorem choose_any (c : Bool) (x y : Nat) (w : World) : Calls Try.prog 20 #[.bool c, .int .u64 (x : Int), .int .u64 (y : Int)] w fun e w' => e = .returned (.int .u64 (((if c then x else y) : Nat) : Int)) ∧ w' = w := by
  cases c
  · go_enter Try.func20, Try.ntmps20
    go_wp2
    go_ret
    exact ⟨rfl, rfl⟩
  · go_enter Try.func20, Try.ntmps20
    go_wp2
    go_ret
    exact ⟨rfl, rfl⟩
def sgn (c : Bool) (q : Nat) : Nat := if c then (18446744073709551616 - q) % 18446744073709551616 else q
def sdivN (a b : Nat) : Nat := if b = 0 then 18446744073709551615 else sgn (decide (9223372036854775808 ≤ a) != decide (9223372036854775808 ≤ b)) (sizeN a / sizeN b)
def sremN (a b : Nat) : Nat := if b = 0 then a else sgn (decide (9223372036854775808 ≤ a)) (sizeN a % sizeN b)
theorem sizeN_pos (b : Nat) (h : ¬ b = 0) (hb : b < 18446744073709551616) : 0 < sizeN b := by unfold sizeN; split <;> omega
theorem sgn_wrap (q : Nat) (hq : q < 18446744073709551616) : IntKind.u64.wrap (((18446744073709551615 - q : Nat) : Int) + 1) = ((sgn true q : Nat) : Int) := by
  unfold sgn; rw [if_pos rfl, wrap_u64]; omega
set_option maxHeartbeats 600000 in
theorem squot_any (a b : Nat) (ha : a < 18446744073709551616) (hb : b < 18446744073709551616) (w : World) : Calls Try.prog 19 #[.int .u64 (a : Int), .int .u64 (b : Int)] w fun e w' => e = .returned (.tuple #[.int .u64 ((sdivN a b : Nat) : Int), .int .u64 ((sremN a b : Nat) : Int)]) ∧ Below w.heap.size w w' := by
  by_cases h0 : b = 0
  · have z3 : sdivN a b = 18446744073709551615 := by unfold sdivN; rw [if_pos h0]
    have z4 : sremN a b = a := by unfold sremN; rw [if_pos h0]
    rw [z3, z4]
    subst h0
    go_enter Try.func19, Try.ntmps19
    go_wp2
    go_ret2
    exact ⟨rfl, Below.refl _ _⟩
  · have z3 : sdivN a b = sgn (decide (9223372036854775808 ≤ a) != decide (9223372036854775808 ≤ b)) (sizeN a / sizeN b) := by unfold sdivN; rw [if_neg h0]
    have z4 : sremN a b = sgn (decide (9223372036854775808 ≤ a)) (sizeN a % sizeN b) := by unfold sremN; rw [if_neg h0]
    rw [z3, z4]
    clear z3 z4
    have hxs := sizeN_lt a ha
    have hys := sizeN_lt b hb
    have hq := fun w => quotient_any (sizeN a) (sizeN b) hxs hys (sizeN_pos b h0 hb) w
    have lq : sizeN a / sizeN b < 18446744073709551616 := Nat.lt_of_le_of_lt (Nat.div_le_self _ _) hxs
    have lr : sizeN a % sizeN b < 18446744073709551616 := Nat.lt_of_le_of_lt (Nat.mod_le _ _) hxs
    have s1 := size_any a ha
    have s2 := size_any b hb
    have b1 := below_any a ha
    have b2 := below_any b hb
    have h1 : ¬ (b : Int) = 0 := by omega
    have HS : IntKind.u64.signed = false := rfl
    generalize decide (9223372036854775808 ≤ a) = ba at *
    generalize decide (9223372036854775808 ≤ b) = bb at *
    generalize sizeN a / sizeN b = q at *
    generalize sizeN a % sizeN b = r at *
    have n1 := not_u64 q lq
    have n2 := not_u64 r lr
    have t1 := sgn_wrap q lq
    have t2 := sgn_wrap r lr
    generalize ((18446744073709551615 - q : Nat) : Int) = nq at *
    generalize ((18446744073709551615 - r : Nat) : Int) = nr at *
    generalize sizeN a = sa at *
    generalize sizeN b = sb at *
    have f1 : sgn false q = q := rfl
    have f2 : sgn false r = r := rfl
    have F : Hid (_ ∧ _) := ⟨f1, f2⟩
    clear f1 f2
    generalize hz1 : sgn true q = zq at *
    generalize hz2 : sgn true r = zr at *
    cases ba <;> cases bb
    all_goals
      go_enter Try.func19, Try.ntmps19
      go_wp2_with fail
      refine (s1 _).mono ?_
      rintro e w2 ⟨rfl, hx⟩; rw [hx]; clear hx
      go_wp2_with fail
      refine (s2 _).mono ?_
      rintro e w2 ⟨rfl, hx⟩; rw [hx]; clear hx
      go_wp2_with fail
      refine (hq _).mono ?_
      rintro e w1 ⟨rfl, hb1⟩
      go_wp2_with fail
      refine (b1 _).mono ?_
      rintro e w2 ⟨rfl, hx⟩; rw [hx]; clear hx
      go_wp2_with fail
      refine (b2 _).mono ?_
      rintro e w2 ⟨rfl, hx⟩; rw [hx]; clear hx
      go_wp2_with fail
      refine (b1 _).mono ?_
      rintro e w2 ⟨rfl, hx⟩; rw [hx]; clear hx
      go_wp2_with fail
      go_ret2
      refine ⟨?_, hb1⟩
      first | (show _ = Ending.returned (.tuple #[.int .u64 ((sgn true q : Nat) : Int), .int .u64 ((sgn true r : Nat) : Int)]); rw [hz1, hz2]; (try rfl); done) | (show _ = Ending.returned (.tuple #[.int .u64 ((sgn true q : Nat) : Int), .int .u64 ((sgn false r : Nat) : Int)]); rw [hz1, F.out.2]; (try rfl); done) | (show _ = Ending.returned (.tuple #[.int .u64 ((sgn false q : Nat) : Int), .int .u64 ((sgn true r : Nat) : Int)]); rw [F.out.1, hz2]; (try rfl); done) | (show _ = Ending.returned (.tuple #[.int .u64 ((sgn false q : Nat) : Int), .int .u64 ((sgn false r : Nat) : Int)]); rw [F.out.1, F.out.2]; (try rfl); done)
end Go.Proofs.Ytdejnlblcokldaa
