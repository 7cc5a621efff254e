/- The statement on Bits, Lowest and Any of layer 1 returns true for every input. -/
import Derived.Test.YtflpfgbebjamfaaDoorSetB
namespace Go.Proofs.YtflpfgbebjamfaaDoor
open Go.RowKit
theorem readsV_some {w : World} {v : Value} {n : Nat} {f : Nat → Value} (h : ReadsV w v n f) (hn : 0 < n) : ∃ b off cap, v = .slice (some ⟨b, off, none⟩) n cap ∧ ∀ i, i < n → w.cell? ⟨b, off + i, none⟩ = some (f i) := by
  rcases h with ⟨h, _⟩ | h
  · omega
  · exact h
theorem tab_below {w w' : World} (h : TabLies w) (hb : Below w.heap.size w w') : TabLies w' := by
  intro i hi
  rw [hb.cell (p := ⟨0, i, none⟩) (block_lt_of_cell (h i hi))]
  exact h i hi
theorem set_in (z : Nat → Int) (k a : Nat) (e : z k = a) : rowOf (fun i => if i = a then 1 else setF z k i) 64 = rowOf (setF z (k + 1)) 64 := by
  apply rowOf_congr
  intro i _
  rw [setF, e]
  by_cases h : i = a
  · rw [if_pos h, if_pos (by omega)]
  · rw [if_neg h, if_neg (by omega)]
theorem set_out (z : Nat → Int) (k : Nat) (h : z k < 0 ∨ 63 < z k) : rowOf (setF z k) 64 = rowOf (setF z (k + 1)) 64 := by
  apply rowOf_congr
  intro i hi
  rw [setF, if_neg (by omega)]
theorem set_none (z : Nat → Int) : rowOf (bitAt 0) 64 = rowOf (setF z 0) 64 := by
  apply rowOf_congr
  intro i _
  simp [bitAt, setF]
theorem low_step (x j : Nat) (h : j < 64) : lowM x (64 - j) = if bitAt x j = 1 then (j : Int) else lowM x (64 - (j + 1)) := by
  rw [show 64 - j = (64 - (j + 1)) + 1 from by omega, lowM, show 63 - (64 - (j + 1)) = j from by omega]
set_option maxHeartbeats 2000000 in
theorem sets_core (al am : Option Addr) (n capl m capm : Nat) (z : Nat → Int) (B : Nat → Bool) (x : Nat) (hx : x < 18446744073709551616) (hn : n ≤ 100) (hm : m ≤ 100) (w : World) (ht : TabLies w)
    (hl : ReadsV w (.slice al n capl) n (fun i => .int .i64 (z i))) (hk : ReadsV w (.slice am m capm) m (fun i => .bool (B i))) :
    Calls Tryd.prog 3 #[.slice al n capl, .int .u64 (x : Int), .slice am m capm] w fun e w' => e = .returned (.bool true) ∧ Below w.heap.size w w' := by
  obtain ⟨w0, hw0⟩ : ∃ w0, w0 = w := ⟨_, rfl⟩
  have hb0 : Below w0.heap.size w0 w := by rw [hw0]; exact Below.refl _ _
  rw [← hw0] at ht hl hk
  suffices h : Calls Tryd.prog 3 #[.slice al n capl, .int .u64 (x : Int), .slice am m capm] w fun e w' => e = .returned (.bool true) ∧ Below w0.heap.size w0 w' by
    rw [hw0] at h; exact h
  clear hw0
  go_enter Tryd.func3, Tryd.ntmps3
  go_wp2_with (first | (go_at_call 4; refine (awake_any _).mono ?_; rintro e w' ⟨rfl, rfl⟩) | (go_at_call 5; refine (bits_any 0 (by decide) _).mono ?_; rintro e w1 ⟨v1, rfl, hv1, hb1⟩))
  have hv1' := hv1.2
  rcases hv1' with ⟨_, h64⟩ | ⟨g, cap, cur, rfl, hg, hbl, hnc, hcm, _, _⟩
  · omega
  have hbA := hb0.trans (hb1.mono hb0.size)
  have hB0 := hb0.size
  rw [set_none z] at hv1
  clear hbl hb1
  go_loopw [8] (fun i wr => ∃ k : Nat, k ≤ n ∧ i = .int .i64 k ∧ wr.ownsRow w'.heap.size 3 1 (.slice (some ⟨g, 0, none⟩) 64 cap) 64 (rowOf (setF z k) 64) ∧ Below w0.heap.size w0 wr)
    (fun i _ => n - (intOf i).toNat)
  case atStart => exact ⟨0, by omega, rfl, hv1, hbA⟩
  case round =>
    clear hv1 hbA
    obtain ⟨k, hk1, rfl, hown, hb⟩ := hrel
    by_cases hlt : k < n
    · obtain ⟨bl, ol, cl, e, hc0⟩ := readsV_some hl (by omega)
      simp only [Value.slice.injEq] at e
      obtain ⟨rfl, -, rfl⟩ := e
      have hc : wr.cell? ⟨bl, ol + k, none⟩ = some (.int .i64 (z k)) := by rw [hb.cell (p := ⟨bl, ol + k, none⟩) (block_lt_of_cell (hc0 k hlt))]; exact hc0 k hlt
      have hkn : (k : Int) < n := by omega
      clear hc0
      by_cases hz : z k < 0 ∨ 63 < z k
      · have hown2 := hown
        rw [set_out z k hz] at hown2
        have hA : Hid (_ ∧ _) := ⟨hown2, hb⟩
        clear hown2 hown hb hl hk ht
        generalize z k = zk at *
        rcases hz with hz | hz
        · go_wp2
          go_roundw
          case rel => exact ⟨k + 1, by omega, by go_num, hA.out.1, hA.out.2⟩
          case measure => simp [intOf]; omega
        · go_wp2
          go_roundw
          case rel => exact ⟨k + 1, by omega, by go_num, hA.out.1, hA.out.2⟩
          case measure => simp [intOf]; omega
      · obtain ⟨a, ha, ez⟩ := place_nat (z k) hz
        rw [ez] at hc
        have hc2 : wr.cell? ⟨g, a, none⟩ = some (.int .i64 (setF z k a : Nat)) := by rw [hown.cellAt a (by omega), rowOf_get _ _ _ (by omega)]
        have hfz := hown.frozenAt a
        have hown2 := hown.stored a (.int .i64 1)
        have e1 : (Value.int .i64 1) = Value.int .i64 ((1 : Nat) : Int) := rfl
        rw [e1, rowOf_set, set_in z k a ez, ← e1] at hown2
        have hb2 := hb.setCell (p := ⟨g, a, none⟩) (by show w0.heap.size ≤ g; omega) (.int .i64 1)
        have hA : Hid (_ ∧ _) := ⟨hown2.1, hb2⟩
        clear hown2 hb2 hown hb hl hk ht ez hz e1
        go_wp2
        go_roundw
        case rel => exact ⟨k + 1, by omega, by go_num, hA.out.1, hA.out.2⟩
        case measure => simp [intOf]; omega
    · obtain rfl : k = n := by omega
      go_wp2_with (go_at_call 5; refine (bits_any x hx _).mono ?_; rintro e w2 ⟨v2, rfl, hv2, hb2⟩)
      have hv2' := hv2.2
      rcases hv2' with ⟨_, h64⟩ | ⟨g2, cap2, cur2, rfl, hg2, hbl2, hnc2, hcm2, _, _⟩
      · omega
      have hown := hown.kept (below_grownBy hb2 none) (.inr (by simp [Value.ownBlock]))
      have hb := hb.trans (hb2.mono hb.size)
      have hcell2 : ∀ j, j < 64 → w2.cell? ⟨g2, j, none⟩ = some (.int .i64 (bitAt x j : Nat)) := fun j hj => by rw [hv2.cellAt j (by omega)]; exact rowOf_get _ 64 j hj
      have HC : Hid (∀ j, j < 64 → w2.cell? ⟨g2, j, none⟩ = some (.int .i64 (bitAt x j : Nat))) := hcell2
      clear hbl2 hb2 hv2 hcell2
      go_loop [9, 11] (fun l i => ∃ j : Nat, j ≤ 64 ∧ i = .int .i64 ((j : Int) - 1) ∧ l = .int .i64 (lowM x (64 - j))) (fun _ i => (intOf i + 1).toNat)
      case atStart => exact ⟨64, by omega, rfl, rfl⟩
      case round =>
        obtain ⟨j1, hj1, rfl, rfl⟩ := hrel
        by_cases hjp : 0 < j1
        · obtain ⟨j, rfl⟩ : ∃ j, j1 = j + 1 := ⟨j1 - 1, by omega⟩
          have e : ((j + 1 : Nat) : Int) - 1 = (j : Int) := by omega
          rw [e]
          have hc := HC.out j (by omega)
          have hst := low_step x j (by omega)
          have hj64 : (j : Int) < 64 := by omega
          clear hown hb hl hk ht e
          generalize lowM x (64 - (j + 1)) = lo at *
          by_cases hbit : bitAt x j = 1
          · rw [hbit] at hc
            rw [if_pos hbit] at hst
            have HST : Hid (lowM x (64 - j) = (j : Int)) := hst
            clear hst hbit
            go_wp2
            go_round
            case rel => exact ⟨j, by omega, by go_num, by rw [HST.out]⟩
            case measure => simp [intOf]
          · have h0 : bitAt x j = 0 := by have := bitAt_le x j; omega
            rw [h0] at hc
            rw [if_neg hbit] at hst
            have HST : Hid (lowM x (64 - j) = lo) := hst
            clear hst hbit h0
            go_wp2
            go_round
            case rel => exact ⟨j, by omega, by go_num, by rw [HST.out]⟩
            case measure => simp [intOf]
        · obtain rfl : j1 = 0 := by omega
          clear HC
          go_wp2
          have hl2 := readsV_below hl hb
          have hk2 := readsV_below hk hb
          have ht2 := tab_below ht hb
          go_loop [12, 13] (fun a i => ∃ j : Nat, j ≤ m ∧ i = .int .i64 j ∧ a = .bool (anyF B j)) (fun _ i => m - (intOf i).toNat)
          case atStart => exact ⟨0, by omega, rfl, rfl⟩
          case round =>
            obtain ⟨j, hjm, rfl, rfl⟩ := hrel
            by_cases hlt2 : j < m
            · obtain ⟨bm, om, cm, e, hc0⟩ := readsV_some hk2 (by omega)
              simp only [Value.slice.injEq] at e
              obtain ⟨rfl, -, rfl⟩ := e
              have hc := hc0 j hlt2
              have hjn : (j : Int) < m := by omega
              have HS : Hid (anyF B (j + 1) = (anyF B j || B j)) := rfl
              clear hc0 hl2 hk2 ht2 hl hk ht hown hb
              generalize anyF B j = aj at *
              generalize B j = bj at *
              cases aj
              · go_wp2
                go_round
                case rel => exact ⟨j + 1, by omega, by go_num, by rw [HS.out]; simp⟩
                case measure => simp [intOf]; omega
              · go_wp2
                go_round
                case rel => exact ⟨j + 1, by omega, by go_num, by rw [HS.out]; simp⟩
                case measure => simp [intOf]; omega
            · obtain rfl : j = m := by omega
              have c6 := fun w h => wbits_any z k (.slice al k capl) hn w h
              have c7 := fun w h => word_any (setF z k) 64 w'.heap.size (.slice (some ⟨g, 0, none⟩) 64 cap) (Nat.le_refl _) (fun i _ => setF_le z k i) w h
              have c8 := fun w h => lowest_any x hx w h
              have c9 := fun w h => any_any B j (.slice am j capm) hm w h
              generalize lowM x 64 = lo at *
              generalize anyF B j = aj at *
              generalize hiOf (setF z k) 64 0 = hw at *
              go_wp2_with (first | (go_at_call 6; refine (c6 _ hl2).mono ?_; rintro e w3 ⟨rfl, rfl⟩) | (go_at_call 7; refine (c7 _ hown).mono ?_; rintro e w3 ⟨rfl, rfl⟩) | (go_at_call 8; refine (c8 _ ht2).mono ?_; rintro e w3 ⟨rfl, rfl⟩) | (go_at_call 9; refine (c9 _ hk2).mono ?_; rintro e w3 ⟨rfl, rfl⟩))
              go_ret
              exact ⟨by simp, hb⟩
set_option maxHeartbeats 400000 in
theorem sets_long (al am : Option Addr) (n capl m capm : Nat) (x : Int) (hlen : 100 < n ∨ 100 < m) (hn : n ≤ 9223372036854775807) (hm : m ≤ 9223372036854775807) (w : World) :
    Calls Tryd.prog 3 #[.slice al n capl, .int .u64 x, .slice am m capm] w fun e w' => e = .returned (.bool true) ∧ Below w.heap.size w w' := by
  by_cases h1 : 100 < n
  · go_enter Tryd.func3, Tryd.ntmps3
    go_wp2_with (first | (go_at_call 4; refine (awake_any _).mono ?_; rintro e w' ⟨rfl, rfl⟩))
    go_ret
    exact ⟨rfl, Below.refl _ _⟩
  · have h2 : 100 < m := by omega
    clear hlen
    go_enter Tryd.func3, Tryd.ntmps3
    go_wp2_with (first | (go_at_call 4; refine (awake_any _).mono ?_; rintro e w' ⟨rfl, rfl⟩))
    go_ret
    exact ⟨rfl, Below.refl _ _⟩
end Go.Proofs.YtflpfgbebjamfaaDoor
