/- May of layer 8 on both sides, of any register; the law CsrMay. -/
import Derived.Test.YtebdlefdkadhnaaDoorMw
import Derived.Test.YtebdlefdkadhnaaDoorMr
import Derived.Test.YtebdlefdkadhnaaDoorMd
import Derived.Test.YtebdlefdkadhnaaDoorMe
namespace Go.Proofs.YtebdlefdkadhnaaDoor
open Go.RowKit Go.Maps
set_option linter.unusedVariables false
set_option linter.unusedSimpArgs false
set_option maxRecDepth 100000
theorem num_bound : ∀ i, i < 31 → 0 ≤ dN i ∧ dN i ≤ 3860 := by decide +kernel
theorem known_bound (n : Int) (h : knownB n = true) : 0 ≤ n ∧ n ≤ 3860 := by
  unfold knownB at h
  have hi : ix n < 31 := by simpa using h
  have := num_bound (ix n) hi
  rw [ix_dN n hi] at this
  exact this
/-- may a program read a register, or write it? -/
def mayB (m : Int) (K : Nat → Nat) (n : Int) (wr : Bool) : Bool := knownB n && askB m K n (n.toNat / 1024 % 4) (n.toNat / 256 % 4) wr
theorem getN_10 (x : Nat) : getN x 10 2 = x / 1024 % 4 := by
  have := getN_in x 10 2 (by omega)
  rw [show (min (2 : Int) 64).toNat = 2 from by decide] at this
  exact this
theorem getN_8 (x : Nat) : getN x 8 2 = x / 256 % 4 := by
  have := getN_in x 8 2 (by omega)
  rw [show (min (2 : Int) 64).toNat = 2 from by decide] at this
  exact this
set_option maxHeartbeats 2000000 in
theorem may_none (m : Int) (K : Nat → Nat) (n : Int) (b : Nat) (wr : Bool) (hk : knownB n = false) (w : World) (hR : Regs w) : Calls Tryd.prog 18 #[.pointer (some ⟨b, 0, none⟩), .int .i64 n, .bool wr] w fun e w' => e = .returned (.bool false) ∧ Below w.heap.size w w' := by
  have h := known_any n w hR
  rw [hk] at h
  clear hk hR
  go_enter Tryd.func18, Tryd.ntmps18
  go_wp2_with fail
  refine h.mono ?_
  rintro e w1 ⟨rfl, hb1⟩
  go_wp2_with fail
  go_ret
  exact ⟨rfl, hb1⟩
theorem may_any (m : Int) (K : Nat → Nat) (n : Int) (b : Nat) (wr : Bool) (hm : m = 0 ∨ m = 1 ∨ m = 3) (hK : Ok K) (w : World) (hR : Regs w) (hB : Box 29 w b (fileC m K)) : Calls Tryd.prog 18 #[.pointer (some ⟨b, 0, none⟩), .int .i64 n, .bool wr] w fun e w' => e = .returned (.bool (mayB m K n wr)) ∧ Below w.heap.size w w' := by
  unfold mayB
  cases hk : knownB n
  · exact may_none m K n b wr hk w hR
  · obtain ⟨h0, h1⟩ := known_bound n hk
    have ga := getN_10 n.toNat
    have gb := getN_8 n.toNat
    have gl : n.toNat / 256 % 4 < 4 := Nat.mod_lt _ (by decide)
    simp only [Bool.true_and]
    by_cases hn : n = 384
    · by_cases h1m : m = 1
      · have e : askB m K n (n.toNat / 1024 % 4) (n.toNat / 256 % 4) wr = !((wr && decide (n.toNat / 1024 % 4 = 3)) || decide (m < (n.toNat / 256 % 4 : Nat)) || bitB (K 0) 20 || false) := by
          unfold askB
          subst hn h1m
          simp
        rw [e]
        cases wr
        · simpa using may_r_satp1 m K n _ _ b hm hK hk h0 h1 ga gb gl hn h1m w hR hB
        · simpa using may_w_satp1 m K n _ _ b hm hK hk h0 h1 ga gb gl hn h1m w hR hB
      · have e : askB m K n (n.toNat / 1024 % 4) (n.toNat / 256 % 4) wr = !((wr && decide (n.toNat / 1024 % 4 = 3)) || decide (m < (n.toNat / 256 % 4 : Nat)) || false || false) := by
          unfold askB
          subst hn
          simp [h1m]
        rw [e]
        cases wr
        · simpa using may_r_satp0 m K n _ _ b hm hK hk h0 h1 ga gb gl hn (by simp [h1m]) w hR hB
        · simpa using may_w_satp0 m K n _ _ b hm hK hk h0 h1 ga gb gl hn (by simp [h1m]) w hR hB
    · by_cases hl : 3072 ≤ n
      · by_cases hh : n ≤ 3074
        · have e : askB m K n (n.toNat / 1024 % 4) (n.toNat / 256 % 4) wr = !((wr && decide (n.toNat / 1024 % 4 = 3)) || decide (m < (n.toNat / 256 % 4 : Nat)) || false || hidesB m K (Int.tmod n 4)) := by
            unfold askB
            simp [hn, hl, hh]
          rw [e]
          cases wr
          · simpa using may_r_ctr m K n _ _ b hm hK hk h0 h1 ga gb gl (by simp [hn]) (by simp [hl]) (by simp [hh]) w hR hB
          · simpa using may_w_ctr m K n _ _ b hm hK hk h0 h1 ga gb gl (by simp [hn]) (by simp [hl]) (by simp [hh]) w hR hB
        · have e : askB m K n (n.toNat / 1024 % 4) (n.toNat / 256 % 4) wr = !((wr && decide (n.toNat / 1024 % 4 = 3)) || decide (m < (n.toNat / 256 % 4 : Nat)) || false || false) := by
            unfold askB
            simp [hn, hl, hh]
          rw [e]
          cases wr
          · simpa using may_r_hi m K n _ _ b hm hK hk h0 h1 ga gb gl (by simp [hn]) (by simp [hl]) (by simp [hh]) w hR hB
          · simpa using may_w_hi m K n _ _ b hm hK hk h0 h1 ga gb gl (by simp [hn]) (by simp [hl]) (by simp [hh]) w hR hB
      · have e : askB m K n (n.toNat / 1024 % 4) (n.toNat / 256 % 4) wr = !((wr && decide (n.toNat / 1024 % 4 = 3)) || decide (m < (n.toNat / 256 % 4 : Nat)) || false || false) := by
          unfold askB
          simp [hn, hl]
        rw [e]
        cases wr
        · simpa using may_r_lo m K n _ _ b hm hK hk h0 h1 ga gb gl (by simp [hn]) (by simp [hl]) w hR hB
        · simpa using may_w_lo m K n _ _ b hm hK hk h0 h1 ga gb gl (by simp [hn]) (by simp [hl]) w hR hB
theorem dmay_any (m : Int) (K : Nat → Nat) (n : Int) (wr : Bool) (hm : m = 0 ∨ m = 1 ∨ m = 3) (hK : Ok K) (w : World) : Calls Tryd.prog 19 #[.agg (docC m K), .int .i64 n, .bool wr] w fun e w' => e = .returned (.bool (mayB m K n wr)) ∧ Below w.heap.size w w' := by
  unfold mayB
  cases hk : knownB n
  · exact dm_none m K n wr hk w
  · obtain ⟨h0, h1⟩ := known_bound n hk
    have ga : Int.tmod (Int.tdiv n 1024) 4 = (n.toNat / 1024 % 4 : Nat) := by
      rw [Int.tdiv_eq_ediv_of_nonneg h0, Int.tmod_eq_emod_of_nonneg (by omega)]; omega
    have gb : Int.tmod (Int.tdiv n 256) 4 = (n.toNat / 256 % 4 : Nat) := by
      rw [Int.tdiv_eq_ediv_of_nonneg h0, Int.tmod_eq_emod_of_nonneg (by omega)]; omega
    have hcond : ∀ x : Bool, (x = askB m K n (n.toNat / 1024 % 4) (n.toNat / 256 % 4) wr) → Calls Tryd.prog 19 #[.agg (docC m K), .int .i64 n, .bool wr] w (fun e w' => e = .returned (.bool x) ∧ Below w.heap.size w w') → Calls Tryd.prog 19 #[.agg (docC m K), .int .i64 n, .bool wr] w (fun e w' => e = .returned (.bool (true && askB m K n (n.toNat / 1024 % 4) (n.toNat / 256 % 4) wr)) ∧ Below w.heap.size w w') := fun x hx h => by
      rw [Bool.true_and, ← hx]; exact h
    generalize n.toNat / 1024 % 4 = pa at *
    generalize n.toNat / 256 % 4 = pb at *
    cases h : (wr && decide (pa = 3))
    · by_cases hb : m < (pb : Int)
      · refine hcond false ?_ (dm_below m K n pa pb wr hK h0 h1 hk ga gb h hb w)
        unfold askB
        simp [hb]
      · by_cases hn : n = 384
        · by_cases h1m : m = 1
          · refine hcond (!bitB (K 0) 20) ?_ (dm_satp m K n pa pb wr hK h0 h1 hk ga gb h hb hn h1m w)
            unfold askB
            subst hn h1m
            rw [h]
            simp [hb]
          · refine hcond true ?_ (dm_lo m K n pa pb wr hK h0 h1 hk ga gb h hb (.inr ⟨hn, by simp [h1m]⟩) (by omega) w)
            unfold askB
            subst hn
            rw [h]
            simp [hb, h1m]
        · by_cases hl : n < 3072
          · refine hcond true ?_ (dm_lo m K n pa pb wr hK h0 h1 hk ga gb h hb (.inl (by simp [hn])) hl w)
            unfold askB
            rw [h]
            have : ¬ 3072 ≤ n := by omega
            simp [hb, hn, this]
          · by_cases hh : 3074 < n
            · refine hcond true ?_ (dm_hi m K n pa pb wr hK h0 h1 hk ga gb h hb (by simp [hn]) hl hh w)
              unfold askB
              rw [h]
              have : ¬ n ≤ 3074 := by omega
              simp [hb, hn, this]
            · have l1 : 3072 ≤ n := by omega
              have l2 : n ≤ 3074 := by omega
              rcases hm with h1m | h1m | h1m
              · refine hcond (bitB (K 7) (Int.tmod n 4) && bitB (K 13) (Int.tmod n 4)) ?_ (dm_ctr0 m K n pa pb wr hK h0 h1 hk ga gb h hb (by simp [hn]) hl hh h1m w)
                unfold askB hidesB
                rw [h]
                subst h1m
                have hz : pb = 0 := by omega
                simp [hz, hn, l1, l2]
              · refine hcond (bitB (K 7) (Int.tmod n 4)) ?_ (dm_ctr1 m K n pa pb wr hK h0 h1 hk ga gb h hb (by simp [hn]) hl hh h1m w)
                unfold askB hidesB
                rw [h]
                subst h1m
                simp [hb, hn, l1, l2]
              · refine hcond true ?_ (dm_ctr3 m K n pa pb wr hK h0 h1 hk ga gb h hb (by simp [hn]) hl hh h1m w)
                unfold askB hidesB
                rw [h]
                subst h1m
                simp [hb, hn, l1, l2]
    · refine hcond false ?_ (dm_only m K n pa pb wr hK h0 h1 hk ga gb h w)
      unfold askB
      rw [h]
      rfl
end Go.Proofs.YtebdlefdkadhnaaDoor
