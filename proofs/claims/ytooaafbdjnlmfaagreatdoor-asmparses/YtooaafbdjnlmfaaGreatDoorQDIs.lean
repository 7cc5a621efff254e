/- The document's is: does an instruction take these parts? -/
import Derived.Test.YtooaafbdjnlmfaaGreatDoorQDInt
import Derived.Deep.CutRange
import Derived.Deep.CutBlock
import Derived.Test.YtooaafbdjnlmfaaGreatDoorQTakes0
import Derived.Deep.DeepCutAuto
namespace Go.Proofs.YtooaafbdjnlmfaaGreatDoor
open Go.RowKit
set_option linter.unusedVariables false
set_option linter.unusedSimpArgs false
/-- texts that lie behind a slice -/
def StrsAt (w : World) (a : Option Addr) (L : List (List UInt8)) : Prop := L.length = 0 ∨ ∃ b off, a = some ⟨b, off, none⟩ ∧ ∀ i (h : i < L.length), w.cell? ⟨b, off + i, none⟩ = some (.string (mk L[i]))
theorem maps_eq {A B : List (List UInt8)} (hl : A.length = B.length) (h : ∀ i (h1 : i < A.length) (h2 : i < B.length), plainL A[i] = plainL B[i]) : A.map plainL = B.map plainL := by
  apply List.ext_getElem (by simpa using hl)
  intro i h1 h2
  rw [List.getElem_map, List.getElem_map]
  exact h i (by simpa using h1) (by simpa using h2)
theorem maps_ne {A B : List (List UInt8)} (i : Nat) (h1 : i < A.length) (h2 : i < B.length) (h : plainL A[i] ≠ plainL B[i]) : A.map plainL ≠ B.map plainL := by
  intro e
  have := List.getElem_of_eq e (i := i) (by simpa using h1)
  rw [List.getElem_map, List.getElem_map] at this
  exact h this
theorem maps_len {A B : List (List UInt8)} (h : A.length ≠ B.length) : A.map plainL ≠ B.map plainL := by
  intro e
  have := congrArg List.length e
  simp at this
  exact h this
theorem mk_ne {a b : List UInt8} (h : a ≠ b) : mk a ≠ mk b := fun e => h (mk_inj e)
set_option maxRecDepth 100000 in
set_option maxHeartbeats 2000000 in
theorem dis_any (op rd rs1 rs2 imm csr : Int) (aq rl : Bool) (TL PL : List (List UInt8)) (hTl : ∀ p ∈ TL, p.length ≤ 1000000) (hPl : ∀ p ∈ PL, p.length ≤ 1000000) (hPn : PL.length ≤ 1000)
    (hT : ∀ V, Calls Tryz.prog 32 #[.agg (instrC op rd rs1 rs2 imm csr aq rl)] V fun e w' => (∃ v, e = .returned v ∧ RowAt w' v TL) ∧ Below V.heap.size V w')
    (a : Option Addr) (cap : Nat) (w : World) (hP : StrsAt w a PL) :
    Calls Tryz.prog 87 #[.agg (instrC op rd rs1 rs2 imm csr aq rl), .slice a PL.length cap] w fun e w' => e = .returned (.bool (decide (TL.map plainL = PL.map plainL))) ∧ Below w.heap.size w w' := by
  have B : Hid (Below w.heap.size w (w.alloc (.cells (instrC op rd rs1 rs2 imm csr aq rl) 23))) := (Below.refl _ _).alloc (Nat.le_refl _) _
  have X : Hid ((w.alloc (.cells (instrC op rd rs1 rs2 imm csr aq rl) 23)).heap[w.heap.size]? = some (.cells (instrC op rd rs1 rs2 imm csr aq rl) 23 (0, 0))) := heap_alloc_new w _
  have HT : Hid _ := hT
  have HP : Hid _ := hP
  have HTl : Hid _ := hTl
  have HPl : Hid _ := hPl
  clear hT hP hTl hPl
  obtain ⟨p0, p1, p2, p3, p4, p5, p6, p7⟩ := box8_facts X.out
  go_enter Tryz.func87, Tryz.ntmps87
  go_wp2_with fail
  refine (HT.out _).mono ?_
  rintro e w1 ⟨⟨v, rfl, hrow⟩, hb1⟩
  have B1 : Hid (Below w.heap.size w w1) := below_call B.out hb1
  clear hb1 p0 p1 p2 p3 p4 p5 p6 p7 X B
  have HPQ : Hid (StrsAt w1 a PL) := by
    rcases HP.out with h | ⟨b, off, rfl, h⟩
    · exact .inl h
    · refine .inr ⟨b, off, rfl, fun i hi => ?_⟩
      rw [B1.out.cell (p := ⟨b, off + i, none⟩) (block_lt_of_cell (h i hi))]; exact h i hi
  clear HP
  by_cases hlen : TL.length = PL.length
  · by_cases hz : PL.length = 0
    · have hTL : TL = [] := List.length_eq_zero_iff.1 (by omega)
      have hPL : PL = [] := List.length_eq_zero_iff.1 hz
      subst hTL hPL
      rcases hrow with ⟨_, rfl⟩ | ⟨h, _⟩
      · go_wp2_with fail
        go_loop [6] (fun i => i = .int .i64 0) (fun _ => 0)
        case atStart => rfl
        case round =>
          obtain rfl := hrel
          go_wp2_with fail
          go_ret
          exact ⟨rfl, B1.out⟩
      · exact absurd rfl h
    · have HR : Hid _ := hrow
      obtain ⟨b2, off, rfl, hc2⟩ : ∃ b off, a = some ⟨b, off, none⟩ ∧ ∀ i (h : i < PL.length), w1.cell? ⟨b, off + i, none⟩ = some (.string (mk PL[i])) := by
        rcases HPQ.out with h | h
        · exact absurd h hz
        · exact h
      obtain ⟨b1, rfl, hc1⟩ : ∃ b, v = .slice (some ⟨b, 0, none⟩) TL.length TL.length ∧ ∀ i (h : i < TL.length), w1.cell? ⟨b, i, none⟩ = some (.string (mk TL[i])) := by
        rcases HR.out with ⟨h, _⟩ | ⟨_, h⟩
        · exact absurd (by rw [← hlen, h]; rfl) hz
        · exact h
      have C1 : Hid _ := hc1
      have C2 : Hid _ := hc2
      clear hrow hc1 hc2 HR HPQ
      have hl1 : (TL.length : Int) = PL.length := by omega
      go_wp2_with fail
      go_loopw [6] (fun iv wr => ∃ (k : Nat), k ≤ PL.length ∧ iv = .int .i64 k ∧ Below w1.heap.size w1 wr ∧ ∀ i (h1 : i < TL.length) (h2 : i < PL.length), i < k → plainL TL[i] = plainL PL[i]) (fun iv _ => PL.length - (intOf iv).toNat)
      case atStart => exact ⟨0, by omega, rfl, Below.refl _ _, fun i _ _ h => absurd h (by omega)⟩
      case round =>
        obtain ⟨k, hk, rfl, hbw, hal⟩ := hrel
        have HA : Hid _ := hal
        have BW : Hid _ := hbw
        clear hal hbw
        by_cases hlt : k < PL.length
        · have hlt1 : (k : Int) < PL.length := by omega
          have hlt2 : (k : Int) < TL.length := by omega
          have hk1 : k < TL.length := by omega
          have q1 : wr.cell? ⟨b1, k, none⟩ = some (.string (mk TL[k])) := by
            rw [BW.out.cell (p := ⟨b1, k, none⟩) (block_lt_of_cell (C1.out k hk1))]; exact C1.out k hk1
          have q2 : wr.cell? ⟨b2, off + k, none⟩ = some (.string (mk PL[k])) := by
            rw [BW.out.cell (p := ⟨b2, off + k, none⟩) (block_lt_of_cell (C2.out k hlt))]; exact C2.out k hlt
          have T1 : Hid (∀ V, Calls Tryz.prog 113 #[.string (mk TL[k])] V fun e w' => e = .returned (.string (mk (plainL TL[k]))) ∧ ∃ m, w' = V.drewN m) := fun V => plain_any _ (HTl.out _ (List.getElem_mem hk1)) V
          have T2 : Hid (∀ V, Calls Tryz.prog 113 #[.string (mk PL[k])] V fun e w' => e = .returned (.string (mk (plainL PL[k]))) ∧ ∃ m, w' = V.drewN m) := fun V => plain_any _ (HPl.out _ (List.getElem_mem hlt)) V
          by_cases he : plainL TL[k] = plainL PL[k]
          · have HNX : Hid (∀ i (h1 : i < TL.length) (h2 : i < PL.length), i < k + 1 → plainL TL[i] = plainL PL[i]) := by
              intro i h1 h2 h3
              by_cases e : i = k
              · subst e; exact he
              · exact HA.out i h1 h2 (by omega)
            rw [he] at T1
            generalize mk (plainL PL[k]) = t at *
            generalize mk TL[k] = x1 at *
            generalize mk PL[k] = x2 at *
            clear he
            go_upto_region 7 with fail
            go_quiet (first | (go_at_call 113; with_reducible exact Calls.quiet_of (T1.out _)) | (go_at_call 113; with_reducible exact Calls.quiet_of (T2.out _)))
            go_wp2_with fail
            go_roundw
            case rel => exact ⟨k + 1, by omega, by go_num, below_call BW.out (drewN_b wr _), HNX.out⟩
            case measure => (simp [intOf]) <;> omega
          · have HD : Hid (decide (TL.map plainL = PL.map plainL) = false) := by
              show _ = _
              rw [decide_eq_false_iff_not]
              exact maps_ne k hk1 hlt he
            have hne : ((mk (plainL PL[k])).toList == (mk (plainL TL[k])).toList) = false := by
              rw [Lib.toList_data, Lib.toList_data, beq_eq_false_iff_ne]
              intro e
              exact he e.symm
            generalize mk (plainL PL[k]) = t2 at *
            generalize mk (plainL TL[k]) = t1 at *
            generalize mk TL[k] = x1 at *
            generalize mk PL[k] = x2 at *
            clear he
            go_upto_region 7 with fail
            go_quiet (first | (go_at_call 113; with_reducible exact Calls.quiet_of (T1.out _)) | (go_at_call 113; with_reducible exact Calls.quiet_of (T2.out _)))
            go_wp2_with fail
            go_ret
            exact ⟨by rw [HD.out]; rfl, below_call B1.out (below_call BW.out (drewN_b wr _))⟩
        · obtain rfl : k = PL.length := by omega
          have HD : Hid (decide (TL.map plainL = PL.map plainL) = true) := by
            show _ = _
            rw [decide_eq_true_iff]
            exact maps_eq hlen (fun i h1 h2 => HA.out i h1 h2 h2)
          go_wp2_with fail
          go_ret
          exact ⟨by rw [HD.out]; rfl, below_call B1.out BW.out⟩
  · have HD : Hid (decide (TL.map plainL = PL.map plainL) = false) := by
      show _ = _
      rw [decide_eq_false_iff_not]
      exact maps_len hlen
    have hl1 : ((TL.length : Int) != PL.length) = true := by simp; omega
    rcases hrow with ⟨rfl, rfl⟩ | ⟨_, b1, rfl, _⟩
    · have hl0 : ((0 : Int) != PL.length) = true := by simp at hlen; simp; intro e; exact hlen (by omega)
      go_wp2_with fail
      go_ret
      exact ⟨by rw [HD.out]; rfl, B1.out⟩
    · go_wp2_with fail
      go_ret
      exact ⟨by rw [HD.out]; rfl, B1.out⟩
end Go.Proofs.YtooaafbdjnlmfaaGreatDoor

namespace Go.Proofs.YtooaafbdjnlmfaaGreatDoor
open Go.RowKit
set_option linter.unusedVariables false
set_option linter.unusedSimpArgs false
/-- a part's register, perhaps in brackets -/
def bracketL (p : List UInt8) : List UInt8 := if p.contains 40 = true ∧ p.getLast? = some 41 then Lib.trimS (insideL p) [32, 9] else p
/-- the registers below n with this name -/
def regsUp (q : List UInt8) (n : Nat) : List Nat := (List.range n).filter fun (i : Nat) => decide (q = regL (i : Int))
theorem regsUp_succ (q : List UInt8) (n : Nat) : regsUp q (n + 1) = regsUp q n ++ (if q = regL (n : Int) then [n] else []) := by
  unfold regsUp
  rw [List.range_succ, List.filter_append, List.filter_cons, List.filter_nil]
  by_cases h : q = regL (n : Int)
  · rw [if_pos (decide_eq_true h), if_pos h]
  · rw [if_neg (by simpa using h), if_neg h]
theorem regsUp_len (q : List UInt8) (n : Nat) : (regsUp q n).length ≤ n := by
  unfold regsUp
  have := (List.filter_sublist (p := fun (i : Nat) => decide (q = regL (i : Int))) (l := List.range n)).length_le
  rw [List.length_range] at this
  exact this
/-- the registers that parts name -/
def regsL (PL : List (List UInt8)) : List Nat := PL.flatMap fun p => regsUp (bracketL p) 32
theorem regsL_succ (PL : List (List UInt8)) (k : Nat) (h : k < PL.length) : regsL (PL.take (k + 1)) = regsL (PL.take k) ++ regsUp (bracketL PL[k]) 32 := by
  unfold regsL
  rw [List.take_succ_eq_append_getElem h, List.flatMap_append]
  simp
theorem regsL_len (PL : List (List UInt8)) : (regsL PL).length ≤ 32 * PL.length := by
  induction PL with
  | nil => simp [regsL]
  | cons p PL ih =>
    have e : regsL (p :: PL) = regsUp (bracketL p) 32 ++ regsL PL := by simp [regsL]
    have := regsUp_len (bracketL p) 32
    rw [e, List.length_append, List.length_cons]
    omega
def natRow (L : List Nat) : List Value := L.map fun (n : Nat) => Value.int .i64 ((n : Nat) : Int)
theorem natRow_app (A B : List Nat) : natRow (A ++ B) = natRow A ++ natRow B := by simp [natRow]
theorem brack_spec (p : List UInt8) (hp : p.length ≤ 1000000) : ∃ s t : ByteArray, mk p = s ∧ mk (bracketL p) = t ∧ s.size ≤ 1000000 ∧
    (∀ c (hc : c + 1 = s.size), s[c]'(by omega) = 41 → ∀ k (h : k < s.size), s[k] = 40 → (∀ i (h : i < s.size), i < k → s[i] ≠ 40) → ∀ V, Calls Tryz.prog 15 #[.string (s.extract (k + 1) c)] V fun e w' => e = .returned (.string t) ∧ w' = V) ∧
    ((∀ i (h : i < s.size), s[i] ≠ 40) ∨ (∀ c (hc : c + 1 = s.size), s[c]'(by omega) ≠ 41) → t = s) := by
  refine ⟨mk p, mk (bracketL p), rfl, rfl, by rw [mk_size]; exact hp, ?_, ?_⟩
  · intro c hc h41 k h h40 hn V
    have hkl : k < p.length := by rw [← mk_size]; exact h
    have hcl : c + 1 = p.length := by rw [← mk_size]; exact hc
    have h1' : p[k] = 40 := h40
    have h2' : ∀ i (h : i < p.length), i < k → p[i] ≠ 40 := fun i hi hik => hn i (by rw [mk_size]; exact hi) hik
    have hcc : p.contains 40 = true := by rw [List.contains_iff_mem, ← h1']; exact List.getElem_mem hkl
    have hgl : p.getLast? = some 41 := by
      rw [List.getLast?_eq_getElem?, ← hcl, Nat.add_sub_cancel, List.getElem?_eq_getElem (by omega)]
      exact congrArg some h41
    have ha : aheadL p = p.take k := ahead_at p k hkl h1' h2'
    have hlen : (aheadL p).length = k := by rw [ha, List.length_take]; omega
    unfold bracketL
    rw [if_pos ⟨hcc, hgl⟩, ext_mid]
    unfold insideL
    rw [hlen, ← hcl, Nat.add_sub_cancel]
    exact dtrim_any _ (by rw [List.length_drop, List.length_take]; omega) V
  · intro h
    unfold bracketL
    rw [if_neg]
    rintro ⟨h1, h2⟩
    rcases h with h | h
    · have := has_not p (fun i hi => h i (by rw [mk_size]; exact hi))
      rw [this] at h1
      exact absurd h1 (by decide)
    · have hpos : 0 < p.length := by
        cases p with
        | nil => simp at h2
        | cons => simp
      have := h (p.length - 1) (by rw [mk_size]; omega)
      rw [List.getLast?_eq_getElem?, List.getElem?_eq_getElem (by omega)] at h2
      exact this (Option.some.inj h2)
set_option maxRecDepth 100000 in
set_option maxHeartbeats 4000000 in
theorem dregs_any (PL : List (List UInt8)) (hPl : ∀ p ∈ PL, p.length ≤ 1000000) (hPn : PL.length ≤ 1000) (a : Option Addr) (cap : Nat) (w : World) (hP : StrsAt w a PL) :
    Calls Tryz.prog 40 #[.slice a PL.length cap] w fun e w' => ∃ v, e = .returned v ∧ w'.ownsRow w.heap.size 3 1 v (regsL PL).length (natRow (regsL PL)) ∧ Below w.heap.size w w' := by
  obtain ⟨i0, hi, hz0, hz1, hz2⟩ := info_parts Tryz.info3
  have HP : Hid _ := hP
  have HPl : Hid _ := hPl
  clear hP hPl
  go_enter Tryz.func40, Tryz.ntmps40
  go_wp2_with fail
  go_loopw [3, 4, 5, 6, 7] (fun v iv sv kv nv wr => ∃ (k : Nat), k ≤ PL.length ∧ iv = .int .i64 k ∧ wr.ownsRow w.heap.size 3 1 v (regsL (PL.take k)).length (natRow (regsL (PL.take k))) ∧ Below w.heap.size w wr) (fun _ iv _ _ _ _ => PL.length - (intOf iv).toNat)
  case atStart => exact ⟨0, by omega, rfl, World.ownsRow_nil _ _ _ _, Below.refl _ _⟩
  case round =>
    obtain ⟨k, hk, rfl, hown, hb⟩ := hrel
    have HO : Hid (_ ∧ _) := ⟨hown, hb⟩
    clear hown hb
    by_cases hlt : k < PL.length
    · have hlt1 : (k : Int) < PL.length := by omega
      obtain ⟨b, off, rfl, hc⟩ : ∃ b off, a = some ⟨b, off, none⟩ ∧ ∀ i (h : i < PL.length), w.cell? ⟨b, off + i, none⟩ = some (.string (mk PL[i])) := by
        rcases HP.out with h | h
        · exact absurd h (by omega)
        · exact h
      have q1 : wr.cell? ⟨b, off + k, none⟩ = some (.string (mk PL[k])) := by
        rw [HO.out.2.cell (p := ⟨b, off + k, none⟩) (block_lt_of_cell (hc k hlt))]; exact hc k hlt
      have HK : Hid (regsL (PL.take (k + 1)) = regsL (PL.take k) ++ regsUp (bracketL PL[k]) 32) := regsL_succ PL k hlt
      have hAl : (regsL (PL.take k)).length ≤ 32 * k := by have := regsL_len (PL.take k); rw [List.length_take] at this; omega
      obtain ⟨s, t, hs, ht, hs6, h1, h2⟩ := brack_spec PL[k] (HPl.out _ (List.getElem_mem hlt))
      rw [hs] at q1
      have HB : Hid (mk (bracketL PL[k]) = t) := ht
      have S1 : Hid _ := h1
      have S2 : Hid _ := h2
      generalize bracketL PL[k] = q at *
      clear hs ht h1 h2 hc
      go_upto_block 2 with fail
      go_cut [5, 6] from 18 to 43 (fun sv kv wx => sv = .string t ∧ wx = wr)
      case first =>
        go_wp2_with fail
        go_loop [5, 6] (fun sv kv => ∃ (j : Nat), j ≤ s.size ∧ sv = .string s ∧ kv = .int .i64 j ∧ Hid ((∀ i (h : i < s.size), i < j → s[i] ≠ 40) ∨ (∀ c (hc : c + 1 = s.size), s[c]'(by omega) ≠ 41))) (fun _ kv => s.size - (intOf kv).toNat)
        case atStart => exact ⟨0, by omega, rfl, rfl, .inl fun i h h2 => absurd h2 (by omega)⟩
        case round =>
          obtain ⟨j, hj, rfl, rfl, HJ⟩ := hrel
          by_cases hjl : j < s.size
          · obtain ⟨c, hcs⟩ : ∃ c, c + 1 = s.size := ⟨s.size - 1, by omega⟩
            have hlt0 : c < s.size := by omega
            have hjl1 : (j : Int) < s.size := by omega
            have hj0 : (0 : Int) ≤ j := by omega
            have hc1 : (s.size : Int) - 1 = c := by omega
            have hcc : (c : Int) < s.size := by omega
            have hc0 : (0 : Int) ≤ c := by omega
            have hb40 := u8_40 s[j]
            have hb41 := u8_41 (s[c]'hlt0)
            cases hB : (s[j] == 40)
            · rw [hB] at hb40
              have HB2 : Hid (s[j] ≠ 40) := by show _ ≠ _; simpa using hB
              clear hB hb41
              go_wp2_with fail
              go_round
              case rel =>
                refine ⟨j + 1, by omega, rfl, by go_num, ?_⟩
                rcases HJ.out with h | h
                · refine .inl fun i hi h2 => ?_
                  by_cases he : i = j
                  · subst he; exact HB2.out
                  · exact h i hi (by omega)
                · exact .inr h
              case measure => (simp [intOf]) <;> omega
            · rw [hB] at hb40
              have HB2 : Hid (s[j] = 40) := by show _ = _; simpa using hB
              clear hB
              cases hC : (s[c]'hlt0 == 41)
              · rw [hC] at hb41
                have HC : Hid (∀ c (hc : c + 1 = s.size), s[c]'(by omega) ≠ 41) := by
                  intro c' hc'
                  obtain rfl : c' = c := by omega
                  simpa using hC
                clear hC
                go_wp2_with fail
                go_round
                case rel => exact ⟨j + 1, by omega, rfl, by go_num, .inr HC.out⟩
                case measure => (simp [intOf]) <;> omega
              · rw [hC] at hb41
                have hC1 : s[c]'hlt0 = 41 := by simpa using hC
                have hjc : j ≠ c := bracket_ne HB2.out hC1
                have T1 : Hid (∀ V, Calls Tryz.prog 15 #[.string (s.extract (j + 1) c)] V fun e w' => e = .returned (.string t) ∧ w' = V) := by
                  rcases HJ.out with h | h
                  · exact S1.out c hcs hC1 j hjl HB2.out h
                  · exact absurd hC1 (h c hcs)
                have hj1 : (j : Int) + 1 ≤ c := by omega
                have hcs2 : (c : Int) ≤ s.size := by omega
                clear hC hC1
                go_wp2_with (go_at_call 15; (with_reducible refine Calls.mono (T1.out _) ?_); rintro e w' ⟨rfl, rfl⟩)
                go_meet
                case rel => exact ⟨rfl, rfl⟩
          · obtain rfl : j = s.size := by omega
            have hts : t = s := S2.out (by
              rcases HJ.out with h | h
              · exact .inl fun i hi => h i hi hi
              · exact .inr h)
            have HTS : Hid (t = s) := hts
            clear hts
            go_wp2_with fail
            go_meet
            case rel => exact ⟨by rw [HTS.out], rfl⟩
      case rest =>
        obtain ⟨rfl, rfl⟩ := hcut
        clear S1 S2 q1
        generalize regsL (PL.take k) = A at *
        go_wp2_with fail
        go_loopw [3, 7] (fun v nv wq => ∃ n : Nat, n ≤ 32 ∧ nv = .int .i64 n ∧ wq.ownsRow w.heap.size 3 1 v (A ++ regsUp q n).length (natRow (A ++ regsUp q n)) ∧ Below w.heap.size w wq) (fun _ nv _ => 32 - (intOf nv).toNat)
        case atStart =>
          refine ⟨0, by omega, rfl, ?_, HO.out.2⟩
          rw [show regsUp q 0 = [] from rfl, List.append_nil]
          exact HO.out.1
        case round =>
          obtain ⟨n, hn, rfl, hown, hbq⟩ := hrel
          clear HO
          have HO : Hid (_ ∧ _) := ⟨hown, hbq⟩
          clear hown hbq
          by_cases hnl : n < 32
          · have hnl1 : (n : Int) < 32 := by omega
            have HR : Hid (∀ V, Calls Tryz.prog 12 #[.int .i64 (n : Int)] V fun e w' => e = .returned (.string (mk (regL (n : Int)))) ∧ Below V.heap.size V w') := fun V => dreg_any n (by omega) (by omega) V
            have HSU : Hid (regsUp q (n + 1) = regsUp q n ++ (if q = regL (n : Int) then [n] else [])) := regsUp_succ q n
            have hul := regsUp_len q n
            by_cases hq : q = regL (n : Int)
            · have he : (t.toList == (mk (regL (n : Int))).toList) = true := by rw [← HB.out, hq]; simp
              have HSV : Hid (A ++ regsUp q (n + 1) = (A ++ regsUp q n) ++ [n]) := by show _ = _; rw [HSU.out, if_pos hq, List.append_assoc]
              clear HSU hq
              generalize mk (regL (n : Int)) = rn at *
              have hall : (A ++ regsUp q n).length ≤ 40000 := by rw [List.length_append]; omega
              generalize A ++ regsUp q n = C at *
              go_wp2_with fail
              refine (HR.out _).mono ?_
              rintro e w3 ⟨rfl, hb3⟩
              have hown3 := HO.out.1.kept (below_grownBy hb3 none) (Classical.em _)
              have hb4 : Below w.heap.size w w3 := below_call HO.out.2 hb3
              clear hb3
              go_wp2_with (first | (at_builtin; refine wpList_append_own _ rfl _ _ 64 rfl w.heap.size 3 i0 (.int .i64 0) 1 8 Tryz.underlying64 hi hz0 hz1 hz2 rfl (by decide) _ _ _ rfl (hown3.alloc _) ⟨w3.heap.size, 0, none⟩ 1 1 _ rfl rfl (cell_one_new _ _ _) ?c2 ?c3 ?c4 ?c5 ?_))
              case c2 => intro u hu; simp at hu; subst hu; rfl
              case c3 => unfold maxLen; omega
              case c4 => omega
              case c5 => have := hb4.size; simp; omega
              · intro v' w5 hown' hgrow _
                have hb5 := grow_step hb4 hb4.size hown3 hgrow
                have hown5 : w5.ownsRow w.heap.size 3 1 v' (A ++ regsUp q (n + 1)).length (natRow (A ++ regsUp q (n + 1))) := by rw [HSV.out, natRow_app, List.length_append]; exact hown'
                clear hown' hgrow hown3 hb4
                go_wp2_with fail
                go_roundw
                case rel => exact ⟨n + 1, by omega, by go_num, hown5, hb5⟩
                case measure => (simp [intOf]) <;> omega
            · have he : (t.toList == (mk (regL (n : Int))).toList) = false := by
                rw [← HB.out, Lib.toList_data, Lib.toList_data, beq_eq_false_iff_ne]
                exact hq
              have HSV : Hid (A ++ regsUp q (n + 1) = A ++ regsUp q n) := by show _ = _; rw [HSU.out, if_neg hq, List.append_nil]
              clear HSU hq
              generalize mk (regL (n : Int)) = rn at *
              go_wp2_with fail
              refine (HR.out _).mono ?_
              rintro e w3 ⟨rfl, hb3⟩
              have hown3 := HO.out.1.kept (below_grownBy hb3 none) (Classical.em _)
              have hb4 : Below w.heap.size w w3 := below_call HO.out.2 hb3
              rw [← HSV.out] at hown3
              clear hb3
              go_wp2_with fail
              go_roundw
              case rel => exact ⟨n + 1, by omega, by go_num, hown3, hb4⟩
              case measure => (simp [intOf]) <;> omega
          · obtain rfl : n = 32 := by omega
            rw [← HK.out] at HO
            go_wp2_with fail
            go_roundw
            case rel => exact ⟨k + 1, by omega, by go_num, HO.out.1, HO.out.2⟩
            case measure => (simp [intOf]) <;> omega
    · obtain rfl : k = PL.length := by omega
      have e : PL.take PL.length = PL := List.take_length
      rw [e] at HO
      go_wp2_with fail
      go_ret
      exact ⟨_, rfl, HO.out.1, HO.out.2⟩
end Go.Proofs.YtooaafbdjnlmfaaGreatDoor

namespace Go.Proofs.YtooaafbdjnlmfaaGreatDoor
open Go.RowKit
set_option linter.unusedVariables false
set_option linter.unusedSimpArgs false
/-- a row of numbers lies in the world -/
def IntsAt (w : World) (a : Option Addr) (L : List Int) : Prop := ∃ b off, a = some ⟨b, off, none⟩ ∧ ∀ i (h : i < L.length), w.cell? ⟨b, off + i, none⟩ = some (.int .i64 L[i])
/-- the candidate at four places -/
def candY (k : Int) (g : Nat) (fD fA fB fI : Bool) (aq rl : Bool) (R NM : List Int) (a b c i : Nat) : Option Ins :=
  if fI = true ∧ g = 1 ∧ ¬ (-524288 ≤ NM.getD (i % NM.length) 0 ∧ NM.getD (i % NM.length) 0 ≤ 524287) then none
  else some ⟨k, if fD then R.getD a 0 else 0, if fA then R.getD b 0 else 0, if fB then R.getD c 0 else 0, if fI then (if g = 1 then NM.getD (i % NM.length) 0 * 4096 else NM.getD (i % NM.length) 0) else 0, if (g = 12 ∨ g = 13) ∧ 0 ≤ NM.getD (i / NM.length) 0 ∧ NM.getD (i / NM.length) 0 < 4096 then NM.getD (i / NM.length) 0 else 0, aq, rl⟩
/-- it is right, and its text has these parts -/
def goodY (y : Ins) (g : Nat) (PL : List (List UInt8)) : Prop := y.right = true ∧ (takesL y.rd y.rs1 y.rs2 y.imm y.csr.toNat g).map plainL = PL.map plainL
abbrev inR (f : Bool) (n a : Nat) : Prop := a < n ∧ (a = 0 ∨ f = true)
/-- none of the candidates with these first places is good -/
def NoneUpto (P : Nat → Prop) (k : Nat) : Prop := ∀ i, i < k → ¬ P i
theorem NoneUpto.zero (P : Nat → Prop) : NoneUpto P 0 := fun i h => absurd h (Nat.not_lt_zero _)
theorem NoneUpto.succ {P : Nat → Prop} {k : Nat} (h : NoneUpto P k) (hk : ¬ P k) : NoneUpto P (k + 1) := fun i hi => by
  by_cases e : i = k
  · subst e; exact hk
  · exact h i (by omega)
def PI (cand : Nat → Nat → Nat → Nat → Option Ins) (g : Nat) (PL : List (List UInt8)) (a b c : Nat) (i : Nat) : Prop := ∃ y, cand a b c i = some y ∧ goodY y g PL
def PC (cand : Nat → Nat → Nat → Nat → Option Ins) (g : Nat) (PL : List (List UInt8)) (fB : Bool) (n m : Nat) (a b : Nat) (c : Nat) : Prop := inR fB n c ∧ ∃ i, i < m ∧ PI cand g PL a b c i
def PB (cand : Nat → Nat → Nat → Nat → Option Ins) (g : Nat) (PL : List (List UInt8)) (fA fB : Bool) (n m : Nat) (a : Nat) (b : Nat) : Prop := inR fA n b ∧ ∃ c, PC cand g PL fB n m a b c
def PA (cand : Nat → Nat → Nat → Nat → Option Ins) (g : Nat) (PL : List (List UInt8)) (fD fA fB : Bool) (n m : Nat) (a : Nat) : Prop := inR fD n a ∧ ∃ b, PB cand g PL fA fB n m a b
theorem none_end {f : Bool} {n k : Nat} {Q : Nat → Prop} (h : NoneUpto (fun i => inR f n i ∧ Q i) k) (hk : ¬ inR f n k) (hk1 : k ≤ n) : ∀ i, ¬ (inR f n i ∧ Q i) := fun i hi => by
  by_cases e : i < k
  · exact h i e hi
  · unfold inR at hk hi
    rcases hi with ⟨⟨h1, h2⟩, _⟩
    rcases h2 with h2 | h2
    · exact hk ⟨by omega, .inl (by omega)⟩
    · exact hk ⟨by omega, .inr h2⟩
/-- the boxes of x, of what is told and of y -/
def Three (w w' : World) (yb : Nat) (X Z Y : Array Value) : Prop := Two w w' X Z ∧ w'.heap[yb]? = some (.cells Y 23 (0, 0)) ∧ w.heap.size + 1 < yb
theorem Three.step {w w1 w2 : World} {yb : Nat} {X Z Y : Array Value} (h : Three w w1 yb X Z Y) (hb : Below w1.heap.size w1 w2) : Three w w2 yb X Z Y := ⟨h.1.step hb, below_box8 h.2.1 hb, h.2.2⟩
theorem Three.set {w w1 : World} {yb : Nat} {X Z Y : Array Value} (h : Three w w1 yb X Z Y) (i : Nat) (v : Value) : Three w (w1.setCell ⟨yb, i, none⟩ v) yb X Z (Y.setIfInBounds i v) := by
  have h2 := h.2.2
  refine ⟨⟨?_, ?_, ?_⟩, heap_setCell_same w1 yb i Y 23 v h.2.1, h2⟩
  · exact (heap_setCell_other w1 ⟨yb, i, none⟩ w.heap.size v (by show w.heap.size ≠ yb; omega)).trans h.1.1
  · exact (heap_setCell_other w1 ⟨yb, i, none⟩ (w.heap.size + 1) v (by show w.heap.size + 1 ≠ yb; omega)).trans h.1.2.1
  · exact h.1.2.2.setCell (p := ⟨yb, i, none⟩) (by show w.heap.size ≤ yb; omega) v
theorem Three.new {w w1 : World} {X Z : Array Value} (h : Two w w1 X Z) (Y : Array Value) : Three w (w1.alloc (.cells Y 23)) w1.heap.size X Z Y :=
  ⟨h.step ((Below.refl _ _).alloc (Nat.le_refl _) _), heap_alloc_new w1 (.cells Y 23), (Array.getElem?_eq_some_iff.1 h.2.1).1⟩
theorem Three.old {w w1 : World} {yb : Nat} {X Z Y : Array Value} (h : Three w w1 yb X Z Y) {b o : Nat} {v : Value} (hc : w.cell? ⟨b, o, none⟩ = some v) : w1.cell? ⟨b, o, none⟩ = some v := (h.1.2.2.cell (p := ⟨b, o, none⟩) (block_lt_of_cell hc)).trans hc
theorem StrsAt.below {w w' : World} {a : Option Addr} {L : List (List UInt8)} (h : StrsAt w a L) (hb : Below w.heap.size w w') : StrsAt w' a L := by
  rcases h with h | ⟨b, off, rfl, hc⟩
  · exact .inl h
  · exact .inr ⟨b, off, rfl, fun i hi => (hb.cell (p := ⟨b, off + i, none⟩) (block_lt_of_cell (hc i hi))).trans (hc i hi)⟩
theorem his_any (k : Nat) (rd rs1 rs2 imm csr : Int) (aq rl : Bool) (hr : rightB (k : Nat) rd rs1 rs2 imm csr aq rl = true) (s : ByteArray) (g : Nat) (cc f3 f7 : Int) (h0 : 1 ≤ g) (h1 : g ≤ 16) (hO : OfIs k s (g : Nat) cc f3 f7) (PL : List (List UInt8)) (hPl : ∀ p ∈ PL, p.length ≤ 1000000) (hPn : PL.length ≤ 1000) (pa : Option Addr) (pc : Nat) (V : World) (hP : StrsAt V pa PL) :
    Calls Tryz.prog 87 #[.agg (instrC (k : Nat) rd rs1 rs2 imm csr aq rl), .slice pa PL.length pc] V fun e w' => e = .returned (.bool (decide ((takesL rd rs1 rs2 imm csr.toNat g).map plainL = PL.map plainL))) ∧ Below V.heap.size V w' := by
  obtain ⟨hf, _, _⟩ := fits_of _ rd rs1 rs2 imm csr aq rl hr
  obtain ⟨x, rfl⟩ : ∃ x : Nat, csr = x := ⟨csr.toNat, by have := hf.c; omega⟩
  rw [Int.toNat_natCast]
  exact dis_any (k : Nat) rd rs1 rs2 imm (x : Int) aq rl (takesL rd rs1 rs2 imm x g) PL (fun p hp => by have := (takes_len rd rs1 rs2 imm x g hf).2 p hp; omega) hPl hPn (fun V => takes_all k rd rs1 rs2 imm x aq rl hf s g cc f3 f7 h0 h1 hO V) pa pc V hP
end Go.Proofs.YtooaafbdjnlmfaaGreatDoor
