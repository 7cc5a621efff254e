/- The document's call Parse of layer 4: either it tells an instruction whose name and parts these are, or none of those that it looks through is one. -/
import Derived.Test.YtooaafbdjnlmfaaGreatDoorQDIs
import Derived.Test.YtooaafbdjnlmfaaGreatDoorQTok
import Derived.Test.YtooaafbdjnlmfaaGreatDoorQPartsU
import Derived.Laws.OwnMore
import Derived.BigQuiet
namespace Go.Proofs.YtooaafbdjnlmfaaGreatDoor
open Go.RowKit
set_option linter.unusedVariables false
set_option linter.unusedSimpArgs false
theorem Tryz.info2 : (Tryz.prog.info? 2).map (fun i => (i.zero, i.size, i.bytes)) = some (some (.int .i64 0), 1, 8) := by kernel_rfl
def intRow (L : List Int) : List Value := L.map fun n => Value.int .i64 n
theorem intRow_app (A B : List Int) : intRow (A ++ B) = intRow A ++ intRow B := by simp [intRow]
theorem own_ints {w : World} {B : Nat} {e : TypeId} {v : Value} {L : List Int} (h : w.ownsRow B e 1 v L.length (intRow L)) (hL : L ≠ []) : ∃ g cap, v = .slice (some ⟨g, 0, none⟩) L.length cap ∧ IntsAt w (some ⟨g, 0, none⟩) L := by
  have h2 := h.2
  rcases h2 with ⟨_, h0⟩ | ⟨g, cap, cur, rfl, hg, hbl, hnc, hcm, _, _⟩
  · exact absurd (List.length_eq_zero_iff.1 h0) hL
  · refine ⟨g, cap, rfl, g, 0, rfl, fun i hi => ?_⟩
    rw [Nat.zero_add, h.cellAt i (by omega)]
    simp [intRow, hi]
theorem IntsAt.below {w w' : World} {a : Option Addr} {L : List Int} (h : IntsAt w a L) (hb : Below w.heap.size w w') : IntsAt w' a L := by
  obtain ⟨b, off, rfl, hc⟩ := h
  exact ⟨b, off, rfl, fun i hi => (hb.cell (p := ⟨b, off + i, none⟩) (block_lt_of_cell (hc i hi))).trans (hc i hi)⟩
theorem own_strs {w : World} {B n : Nat} {v : Value} {D : List (List UInt8)} (hn : n = D.length) (h : w.ownsRow B 9 1 v n (trimRow D)) : ∃ a cap, v = .slice a (D.map fun p => Lib.trimS p [32, 9]).length cap ∧ StrsAt w a (D.map fun p => Lib.trimS p [32, 9]) := by
  have h2 := h.2
  rcases h2 with ⟨rfl, h0⟩ | ⟨g, cap, cur, rfl, hg, hbl, hnc, hcm, _, _⟩
  · have e : D = [] := List.length_eq_zero_iff.1 (by omega)
    subst e
    exact ⟨none, 0, rfl, .inl rfl⟩
  · refine ⟨some ⟨g, 0, none⟩, cap, by rw [List.length_map, hn], .inr ⟨g, 0, rfl, fun i hi => ?_⟩⟩
    rw [List.length_map] at hi
    rw [Nat.zero_add, h.cellAt i (by omega)]
    simp [trimRow, hi]
theorem below_mid {w a b : World} (h : Below w.heap.size w a) (g : Below a.heap.size a b) : Below w.heap.size w b := h.trans (g.mono h.size)
theorem cuts_len : ∀ (l : List UInt8) (p : List UInt8), p ∈ cutsL l → p.length ≤ l.length
  | [], p, h => by simp [cutsL] at h; simp [h]
  | c :: l, p, h => by
    rw [cutsL] at h
    split at h
    · rcases List.mem_cons.1 h with rfl | h
      · simp
      · have := cuts_len l p h; simp; omega
    · cases hc : cutsL l with
      | nil => rw [hc] at h; simp at h; simp [h]
      | cons q qs =>
        rw [hc] at h
        rcases List.mem_cons.1 h with rfl | h
        · have := cuts_len l q (by rw [hc]; simp); simp; exact this
        · have := cuts_len l p (by rw [hc]; simp [h]); simp; omega
theorem trim_le (l : List UInt8) : (Lib.trimS l [32, 9]).length ≤ l.length := by
  obtain ⟨b1, b2, h, _, _⟩ := trim_parts l
  have := congrArg List.length h
  simp at this
  omega
theorem pl_len (l : List UInt8) : ∀ p ∈ PLof l, p.length ≤ l.length := fun p hp => by
  unfold PLof at hp
  obtain ⟨q, hq, rfl⟩ := List.mem_map.1 hp
  unfold partsD at hq
  split at hq
  · simp at hq
  · have h1 := cuts_len _ q hq
    have h2 := trim_le (tailW [32, 9] (Lib.trimS l [32, 9]))
    have h3 : (tailW [32, 9] (Lib.trimS l [32, 9])).length ≤ (Lib.trimS l [32, 9]).length := (List.dropWhile_sublist _).length_le
    have h4 := trim_le l
    have h5 := trim_le q
    omega
def numsL (PL : List (List UInt8)) : List Int := PL.filterMap fun p => if (numberL p).2 = true then some (numberL p).1 else none
theorem numsL_len (PL : List (List UInt8)) : (numsL PL).length ≤ PL.length := List.length_filterMap_le _ _
theorem numsL_succ (PL : List (List UInt8)) (k : Nat) (h : k < PL.length) : numsL (PL.take (k + 1)) = numsL (PL.take k) ++ (if (numberL PL[k]).2 = true then [(numberL PL[k]).1] else []) := by
  unfold numsL
  rw [List.take_succ_eq_append_getElem h, List.filterMap_append]
  congr 1
  rw [List.filterMap_cons]
  by_cases hb : (numberL PL[k]).2 = true
  · rw [if_pos hb, if_pos hb]; rfl
  · rw [if_neg hb, if_neg hb]; rfl
def RofL (PL : List (List UInt8)) : List Int := (regsL PL).map (fun (n : Nat) => (n : Int)) ++ [0]
def NofL (PL : List (List UInt8)) : List Int := 0 :: numsL PL
/-- what the document's with tells -/
def WithTells (k : Nat) (aq rl : Bool) (R NM : List Int) (PL : List (List UInt8)) : Prop := ∀ (ra na pa : Option Addr) (rc nc pc : Nat) (w : World), IntsAt w ra R → IntsAt w na NM → StrsAt w pa PL →
    Calls Tryz.prog 43 #[.agg (instrC k 0 0 0 0 0 aq rl), .slice ra R.length rc, .slice na NM.length nc, .slice pa PL.length pc] w fun e w' => Below w.heap.size w w' ∧ ((∃ y : Ins, e = .returned (.tuple #[.agg y.c, .bool true]) ∧ goodY y (dForm k) PL ∧ y.op = k ∧ y.aq = aq ∧ y.rl = rl) ∨ (e = .returned (.tuple #[.agg (instrC k 0 0 0 0 0 aq rl), .bool false]) ∧ ∀ a, ¬ PA (candY k (dForm k) (hasD (dForm k : Nat)) (hasA (dForm k : Nat)) (hasB (dForm k : Nat)) (docSpan (dForm k)).2 aq rl R NM) (dForm k) PL (hasD (dForm k : Nat)) (hasA (dForm k : Nat)) (hasB (dForm k : Nat)) R.length (NM.length * NM.length) a))
def nameL (k : Nat) (aq rl : Bool) : List UInt8 := dNames.getD (k - 1) [] ++ markL aq rl
/-- what is looked for at an operation and an order -/
def PO (hd : List UInt8) (PL : List (List UInt8)) (R NM : List Int) (k o : Nat) : Prop := hd = nameL k (decide (o % 2 = 1)) (decide (o / 2 = 1)) ∧ ∃ a, PA (candY k (dForm k) (hasD (dForm k : Nat)) (hasA (dForm k : Nat)) (hasB (dForm k : Nat)) (docSpan (dForm k)).2 (decide (o % 2 = 1)) (decide (o / 2 = 1)) R NM) (dForm k) PL (hasD (dForm k : Nat)) (hasA (dForm k : Nat)) (hasB (dForm k : Nat)) R.length (NM.length * NM.length) a
theorem dname_mk (k : Nat) (h1 : 1 ≤ k) (h2 : k ≤ 98) (aq rl : Bool) : dName (k - 1) ++ mk (markL aq rl) = mk (nameL k aq rl) := by
  have hl : k - 1 < dNames.length := by rw [dNames_len]; omega
  rw [dname_get (k - 1) hl]
  unfold nameL
  rw [List.getD_eq_getElem?_getD, List.getElem?_eq_getElem hl]
  apply ByteArray.ext
  simp [mk]
theorem dname_len (k : Nat) (h1 : 1 ≤ k) (h2 : k ≤ 98) : (dName (k - 1)).size = (dNames.getD (k - 1) []).length := by
  have hl : k - 1 < dNames.length := by rw [dNames_len]; omega
  rw [dname_get (k - 1) hl, mk_size, List.getD_eq_getElem?_getD, List.getElem?_eq_getElem hl]
  rfl
theorem dname_small (k : Nat) (h1 : 1 ≤ k) (h2 : k ≤ 98) : (dName (k - 1)).size ≤ 20 := by
  rw [dname_len k h1 h2]
  have : ((List.range 98).all fun i => decide ((dNames.getD i []).length ≤ 20)) = true := by decide +kernel
  have := List.all_eq_true.1 this (k - 1) (List.mem_range.2 (by omega))
  exact of_decide_eq_true this
set_option maxRecDepth 100000 in
set_option maxHeartbeats 8000000 in
theorem dparse_any (l : List UInt8) (hl : l.length ≤ 1000) (hW : ∀ k aq rl, 1 ≤ k → k ≤ 98 → (PLof l).length ≤ 3 → WithTells k aq rl (RofL (PLof l)) (NofL (PLof l)) (PLof l)) (w : World) :
    Calls Tryz.prog 14 #[.string (mk l)] w fun e w' => Below w.heap.size w w' ∧ ((∃ (y : Ins) (k : Nat), e = .returned (.tuple #[.agg y.c, .bool true]) ∧ 1 ≤ k ∧ k ≤ 98 ∧ y.op = k ∧ headW [32, 9] (Lib.trimS l [32, 9]) = nameL k y.aq y.rl ∧ goodY y (dForm k) (PLof l)) ∨ (e = .returned (.tuple #[.agg Ins.zero.c, .bool false]) ∧ (3 < (PLof l).length ∨ ∀ k, 1 ≤ k → k ≤ 98 → ∀ o, o < 4 → ¬ PO (headW [32, 9] (Lib.trimS l [32, 9])) (PLof l) (RofL (PLof l)) (NofL (PLof l)) k o))) := by
  obtain ⟨i0, hi, hz0, hz1, hz2⟩ := info_parts Tryz.info3
  obtain ⟨i2, hi2, hy0, hy1, hy2⟩ := info_parts Tryz.info2
  have HS : Hid _ := dsplit_any l hl
  have hdl : (headW [32, 9] (Lib.trimS l [32, 9])).length ≤ 1000 := by
    have h1 := (trim_ok_u l hl trivial).1
    exact Nat.le_trans (List.takeWhile_sublist _).length_le h1
  have HW : Hid _ := hW
  have HPLen : Hid (∀ p ∈ PLof l, p.length ≤ 1000000) := fun p hp => by
    have := pl_len l p hp
    omega
  clear hl hW
  have B0 : Hid (Below w.heap.size w (w.alloc (.cells #[.int .i64 0, .int .i64 0, .int .i64 0, .int .i64 0, .int .i64 0, .int .i64 0, .bool false, .bool false] 23)) ∧ (w.alloc (.cells #[.int .i64 0, .int .i64 0, .int .i64 0, .int .i64 0, .int .i64 0, .int .i64 0, .bool false, .bool false] 23)).heap[w.heap.size]? = some (.cells #[.int .i64 0, .int .i64 0, .int .i64 0, .int .i64 0, .int .i64 0, .int .i64 0, .bool false, .bool false] 23 (0, 0))) := ⟨(Below.refl _ _).alloc (Nat.le_refl _) _, heap_alloc_new w _⟩
  generalize headW [32, 9] (Lib.trimS l [32, 9]) = hd at *
  obtain ⟨PL, ePL⟩ : ∃ PL, PLof l = PL := ⟨_, rfl⟩
  have EPL : Hid (PLof l = PL) := ePL
  rw [ePL] at HPLen HW ⊢
  clear ePL
  go_enter Tryz.func14, Tryz.ntmps14
  go_wp2_with fail
  refine Calls.mono (HS.out _) ?_
  rintro e w1 ⟨v, rfl, hown, hb1⟩
  obtain ⟨pa, pc, rfl, hsa⟩ := own_strs rfl hown
  have e0 : (partsD l).map (fun p => Lib.trimS p [32, 9]) = PL := EPL.out
  rw [e0] at hsa ⊢
  have B1 : Hid (Below w.heap.size w w1 ∧ w1.heap[w.heap.size]? = some (.cells #[.int .i64 0, .int .i64 0, .int .i64 0, .int .i64 0, .int .i64 0, .int .i64 0, .bool false, .bool false] 23 (0, 0))) := ⟨B0.out.1.trans (hb1.mono B0.out.1.size), (hb1.block _ (Array.getElem?_eq_some_iff.1 B0.out.2).1).trans B0.out.2⟩
  have SA : Hid (StrsAt w1 pa PL) := hsa
  clear hown hb1 e0 hsa HS B0
  by_cases h3 : 3 < PL.length
  · have h3i : (3 : Int) < PL.length := by omega
    obtain ⟨p0, p1, p2, p3, p4, p5, p6, p7⟩ := box8_facts B1.out.2
    have z0 := box8_frozen B1.out.2 0
    have z1 := box8_frozen B1.out.2 1
    have z2 := box8_frozen B1.out.2 2
    have z3 := box8_frozen B1.out.2 3
    have z4 := box8_frozen B1.out.2 4
    have z5 := box8_frozen B1.out.2 5
    have z6 := box8_frozen B1.out.2 6
    have z7 := box8_frozen B1.out.2 7
    go_wp2_with fail
    have hput := box8_put B1.out.2 (.int .i64 0) (.int .i64 0) (.int .i64 0) (.int .i64 0) (.int .i64 0) (.int .i64 0) (.bool false) (.bool false)
    obtain ⟨r0, r1, r2, r3, r4, r5, r6, r7⟩ := box8_facts hput
    refine bodyPost_ret (v := .tuple #[.agg Ins.zero.c, .bool false]) (by simp [results, Tryz.results14, go_sem, r0, r1, r2, r3, r4, r5, r6, r7, Ins.zero, Ins.c, instrC]) rfl ?_
    exact ⟨set8_below B1.out.1 (Nat.le_refl _) _ _ _ _ _ _ _ _, .inr ⟨rfl, .inl h3⟩⟩
  · have h3i : ¬ (3 : Int) < PL.length := by omega
    have hpl3 : PL.length ≤ 3 := by omega
    have HR : Hid _ := dregs_any PL HPLen.out (by omega) pa pc
    go_wp2_with fail
    refine Calls.mono (HR.out _ SA.out) ?_
    rintro e w2 ⟨v2, rfl, hown2, hb2⟩
    have hrl : (regsL PL).length ≤ 32 * 3 := by have := regsL_len PL; omega
    have hown2r : w2.ownsRow w1.heap.size 3 1 v2 (regsL PL).length (intRow ((regsL PL).map (fun (n : Nat) => (n : Int)))) := by
      have e : natRow (regsL PL) = intRow ((regsL PL).map (fun (n : Nat) => (n : Int))) := by simp [natRow, intRow]
      rw [← e]; exact hown2
    clear hown2 HR
    go_wp2_with (first | (at_builtin; refine wpList_append_own _ rfl _ _ 64 rfl w1.heap.size 3 i0 (.int .i64 0) 1 8 Tryz.underlying64 hi hz0 hz1 hz2 rfl (by decide) _ _ _ rfl (hown2r.alloc _) ⟨w2.heap.size, 0, none⟩ 1 1 _ rfl rfl (cell_one_new _ _ _) ?c2 ?c3 ?c4 ?c5 ?_))
    case c2 => intro u hu; simp at hu; subst hu; rfl
    case c3 => unfold maxLen; omega
    case c4 => omega
    case c5 => have := hb2.size; simp; omega
    · intro v3 w3 hown' hgrow _
      have hb3 := grow_step hb2 hb2.size hown2r hgrow
      have hown3 : w3.ownsRow w1.heap.size 3 1 v3 (RofL PL).length (intRow (RofL PL)) := by
        unfold RofL
        rw [intRow_app, List.length_append, List.length_map]
        exact hown'
      obtain ⟨rg, rc, rfl, hra⟩ := own_ints hown3 (by unfold RofL; simp)
      have RA : Hid (IntsAt w3 (some ⟨rg, 0, none⟩) (RofL PL)) := hra
      have SA3 : Hid (StrsAt w3 pa PL) := StrsAt.below SA.out hb3
      have B3 : Hid (Below w.heap.size w w3 ∧ w3.heap[w.heap.size]? = some (.cells #[.int .i64 0, .int .i64 0, .int .i64 0, .int .i64 0, .int .i64 0, .int .i64 0, .bool false, .bool false] 23 (0, 0))) := ⟨B1.out.1.trans (hb3.mono B1.out.1.size), (hb3.block _ (Array.getElem?_eq_some_iff.1 B1.out.2).1).trans B1.out.2⟩
      clear hown' hgrow hown2r hb2 hown3 hra hb3 SA B1
      go_wp2_with fail
      have hlit : (w3.alloc (.cells #[Value.int .i64 0] 2)).ownsRow w3.heap.size 2 1 (.slice (some ⟨w3.heap.size, 0, none⟩) 1 1) 1 (intRow (NofL (PL.take 0))) := World.ownsRow_lit w3 #[Value.int .i64 0] 1 (Nat.le_refl _) (by unfold maxLen; omega) rfl
      have HLIT : Hid _ := hlit
      clear hlit
      go_loopw [7, 8, 9, 10] (fun nv iv av bv wr => ∃ k : Nat, k ≤ PL.length ∧ iv = .int .i64 k ∧ wr.ownsRow w3.heap.size 2 1 nv (NofL (PL.take k)).length (intRow (NofL (PL.take k))) ∧ Below w3.heap.size w3 wr) (fun _ iv _ _ _ => PL.length - (intOf iv).toNat)
      case atStart => exact ⟨0, by omega, rfl, HLIT.out, (Below.refl _ _).alloc (Nat.le_refl _) _⟩
      case round =>
        obtain ⟨k, hk, rfl, hown, hb⟩ := hrel
        by_cases hlt : k < PL.length
        · have hlt1 : (k : Int) < PL.length := by omega
          have hnl : (NofL (PL.take k)).length ≤ 4 := by
            have := numsL_len (PL.take k)
            rw [List.length_take] at this
            simp only [NofL, List.length_cons]; omega
          obtain ⟨b, off, rfl, hc⟩ : ∃ b off, pa = some ⟨b, off, none⟩ ∧ ∀ i (h : i < PL.length), w3.cell? ⟨b, off + i, none⟩ = some (.string (mk PL[i])) := by
            rcases SA3.out with h | h
            · exact absurd h (by omega)
            · exact h
          have q1 : wr.cell? ⟨b, off + k, none⟩ = some (.string (mk PL[k])) := (hb.cell (p := ⟨b, off + k, none⟩) (block_lt_of_cell (hc k hlt))).trans (hc k hlt)
          have HN : Hid (∀ V, Calls Tryz.prog 41 #[.string (mk PL[k])] V fun e w' => e = .returned (.tuple #[.int .i64 (numberL PL[k]).1, .bool (numberL PL[k]).2]) ∧ w' = V) := fun V => number_any _ (HPLen.out _ (List.getElem_mem hlt)) V
          have HNS : Hid _ := numsL_succ PL k hlt
          clear hc
          generalize mk PL[k] = s at *
          obtain ⟨n, en⟩ : ∃ n, (numberL PL[k]).1 = n := ⟨_, rfl⟩
          obtain ⟨ok, eok⟩ : ∃ ok, (numberL PL[k]).2 = ok := ⟨_, rfl⟩
          rw [en, eok] at HN HNS
          clear en eok
          have HO : Hid (_ ∧ _) := ⟨hown, hb⟩
          cases ok
          · go_wp2_with (go_at_call 41; (with_reducible refine Calls.mono (HN.out _) ?_); rintro e w9 ⟨rfl, rfl⟩)
            go_roundw
            case rel =>
              refine ⟨k + 1, by omega, by go_num, ?_, HO.out.2⟩
              have e : NofL (PL.take (k + 1)) = NofL (PL.take k) := by
                unfold NofL; rw [HNS.out]; simp
              rw [e]; exact HO.out.1
            case measure => (simp [intOf]) <;> omega
          · go_wp2_with (first | (go_at_call 41; (with_reducible refine Calls.mono (HN.out _) ?_); rintro e w9 ⟨rfl, rfl⟩) | (at_builtin; refine wpList_append_own _ rfl _ _ 66 rfl w3.heap.size 2 i2 (.int .i64 0) 1 8 Tryz.underlying66 hi2 hy0 hy1 hy2 rfl (by decide) _ _ _ rfl (hown.alloc _) ⟨w9.heap.size, 0, none⟩ 1 1 _ rfl rfl (cell_one_new _ _ _) ?c2 ?c3 ?c4 ?c5 ?_))
            case c2 => intro u hu; simp at hu; subst hu; rfl
            case c3 => unfold maxLen; omega
            case c4 => omega
            case c5 => have := hb.size; simp; omega
            · intro v4 w4 hown' hgrow _
              have hb4 := grow_step hb hb.size hown hgrow
              have hown4 : w4.ownsRow w3.heap.size 2 1 v4 (NofL (PL.take (k + 1))).length (intRow (NofL (PL.take (k + 1)))) := by
                have e : NofL (PL.take (k + 1)) = NofL (PL.take k) ++ [n] := by
                  unfold NofL; rw [HNS.out]; simp
                rw [e, intRow_app, List.length_append]; exact hown'
              have H4 : Hid (_ ∧ _) := ⟨hown4, hb4⟩
              clear hown' hgrow hown hb hown4 hb4 HO
              go_wp2_with fail
              go_roundw
              case rel => exact ⟨k + 1, by omega, by go_num, H4.out.1, H4.out.2⟩
              case measure => (simp [intOf]) <;> omega
        · obtain rfl : k = PL.length := by omega
          have hlt1 : ¬ ((PL.length : Nat) : Int) < PL.length := by omega
          rw [List.take_length] at hown
          obtain ⟨ng, nc, rfl, hna⟩ := own_ints hown (by unfold NofL; simp)
          have NA : Hid (IntsAt wr (some ⟨ng, 0, none⟩) (NofL PL)) := hna
          have HB4 : Hid (Below w3.heap.size w3 wr) := hb
          clear hown hna hb
          have HRW : Hid _ := rows_any
          go_wp2_with fail
          refine Calls.mono (HRW.out _) ?_
          rintro e w5 ⟨rfl, hw5⟩
          have R5 : Hid (RowsAt w5 wr.heap.size) := by rw [hw5]; exact rows_new wr
          have B5 : Hid (Below wr.heap.size wr w5) := by rw [hw5]; exact (Below.refl _ _).alloc (Nat.le_refl _) _
          have HRB : Hid (wr.heap.size < w5.heap.size) := by rw [hw5]; exact (Array.getElem?_eq_some_iff.1 (heap_alloc_new wr (.cells dCells.toArray 72))).1
          clear hw5 HRW
          have NA5 : Hid (IntsAt w5 (some ⟨ng, 0, none⟩) (NofL PL)) := NA.out.below B5.out
          have RA5 : Hid (IntsAt w5 (some ⟨rg, 0, none⟩) (RofL PL)) := RA.out.below (HB4.out.trans (B5.out.mono HB4.out.size))
          have SA5 : Hid (StrsAt w5 pa PL) := StrsAt.below SA3.out (HB4.out.trans (B5.out.mono HB4.out.size))
          have BX5 : Hid (Below w.heap.size w w5 ∧ w5.heap[w.heap.size]? = some (.cells #[.int .i64 0, .int .i64 0, .int .i64 0, .int .i64 0, .int .i64 0, .int .i64 0, .bool false, .bool false] 23 (0, 0))) := by
            have hbb : Below w3.heap.size w3 w5 := HB4.out.trans (B5.out.mono HB4.out.size)
            exact ⟨B3.out.1.trans (hbb.mono B3.out.1.size), (hbb.block _ (Array.getElem?_eq_some_iff.1 B3.out.2).1).trans B3.out.2⟩
          clear NA RA SA3 B3 HB4 B5
          generalize wr.heap.size = rb at *
          go_wp2_with fail
          go_loopw [12, 13, 14, 15, 16] (fun ov dv xv yv bv wq => ∃ k : Nat, 1 ≤ k ∧ k ≤ 99 ∧ ov = .int .i64 k ∧ Below w5.heap.size w5 wq ∧ ∀ k', 1 ≤ k' → k' < k → ∀ o, o < 4 → ¬ PO hd PL (RofL PL) (NofL PL) k' o) (fun ov _ _ _ _ _ => 99 - (intOf ov).toNat)
          case atStart => exact ⟨1, by omega, by omega, rfl, Below.refl _ _, fun k' h1 h2 => absurd h2 (by omega)⟩
          case round =>
            obtain ⟨k, hk1, hk2, rfl, hbk, hnok⟩ := hrel
            have NOK : Hid _ := hnok
            have BK : Hid _ := hbk
            clear hnok hbk
            by_cases hk98 : k ≤ 98
            · have hki : (k : Int) ≤ 98 := by omega
              obtain ⟨i, hik⟩ : ∃ i, k = i + 1 := ⟨k - 1, by omega⟩
              have hi98 : i < 98 := by omega
              have HIK : Hid (k = i + 1) := hik
              have hki1 : (k : Int) - 1 = (i : Int) := by omega
              clear hik
              go_wp2_with fail
              go_loopw [13, 14, 15, 16] (fun dv xv yv bv wq => ∃ o : Nat, o ≤ 4 ∧ dv = .int .i64 o ∧ Below w5.heap.size w5 wq ∧ NoneUpto (PO hd PL (RofL PL) (NofL PL) k) o) (fun dv _ _ _ _ => 4 - (intOf dv).toNat)
              case atStart => exact ⟨0, by omega, rfl, BK.out, NoneUpto.zero _⟩
              case round =>
                obtain ⟨o, ho, rfl, hbo, hnoo⟩ := hrel
                have NOO : Hid _ := hnoo
                have BO : Hid _ := hbo
                clear hnoo hbo BK
                by_cases ho4 : o < 4
                · have hoi : (o : Int) < 4 := by omega
                  obtain ⟨aq, eaq⟩ : ∃ aq, decide (o % 2 = 1) = aq := ⟨_, rfl⟩
                  obtain ⟨rl, erl⟩ : ∃ rl, decide (o / 2 = 1) = rl := ⟨_, rfl⟩
                  go_upto_region 19 with fail
                  go_cut [14] (fun pv wx => ∃ xb, pv = .pointer (some ⟨xb, 0, none⟩) ∧ Below w5.heap.size w5 wx ∧ w5.heap.size ≤ xb ∧ wx.heap[xb]? = some (.cells (instrC ((k : Nat) : Int) 0 0 0 0 0 aq rl) 23 (0, 0)))
                  case first =>
                    have hcase : o = 0 ∨ o = 1 ∨ o = 2 ∨ o = 3 := by omega
                    have HN0 : Hid _ := BO.out.size
                    rcases hcase with h | h | h | h
                    · have t1 : (o : Int) % 2 = 0 := by omega
                      have t2 : (o : Int) / 2 = 0 := by omega
                      have t3 : Int.tmod (o : Int) 2 = 0 := by rw [Int.tmod_eq_emod_of_nonneg (by omega)]; exact t1
                      have t4 : Int.tdiv (o : Int) 2 = 0 := by rw [Int.tdiv_eq_ediv_of_nonneg (by omega)]; exact t2
                      obtain rfl : aq = false := by rw [← eaq, h]; rfl
                      obtain rfl : rl = false := by rw [← erl, h]; rfl
                      clear h eaq erl
                      go_wp2_with fail
                      go_meet
                      exact ⟨_, rfl, BO.out.alloc HN0.out _, HN0.out, heap_alloc_new _ _⟩
                    · have t1 : (o : Int) % 2 = 1 := by omega
                      have t2 : (o : Int) / 2 = 0 := by omega
                      have t3 : Int.tmod (o : Int) 2 = 1 := by rw [Int.tmod_eq_emod_of_nonneg (by omega)]; exact t1
                      have t4 : Int.tdiv (o : Int) 2 = 0 := by rw [Int.tdiv_eq_ediv_of_nonneg (by omega)]; exact t2
                      obtain rfl : aq = true := by rw [← eaq, h]; rfl
                      obtain rfl : rl = false := by rw [← erl, h]; rfl
                      clear h eaq erl
                      go_wp2_with fail
                      go_meet
                      exact ⟨_, rfl, BO.out.alloc HN0.out _, HN0.out, heap_alloc_new _ _⟩
                    · have t1 : (o : Int) % 2 = 0 := by omega
                      have t2 : (o : Int) / 2 = 1 := by omega
                      have t3 : Int.tmod (o : Int) 2 = 0 := by rw [Int.tmod_eq_emod_of_nonneg (by omega)]; exact t1
                      have t4 : Int.tdiv (o : Int) 2 = 1 := by rw [Int.tdiv_eq_ediv_of_nonneg (by omega)]; exact t2
                      obtain rfl : aq = false := by rw [← eaq, h]; rfl
                      obtain rfl : rl = true := by rw [← erl, h]; rfl
                      clear h eaq erl
                      go_wp2_with fail
                      go_meet
                      exact ⟨_, rfl, BO.out.alloc HN0.out _, HN0.out, heap_alloc_new _ _⟩
                    · have t1 : (o : Int) % 2 = 1 := by omega
                      have t2 : (o : Int) / 2 = 1 := by omega
                      have t3 : Int.tmod (o : Int) 2 = 1 := by rw [Int.tmod_eq_emod_of_nonneg (by omega)]; exact t1
                      have t4 : Int.tdiv (o : Int) 2 = 1 := by rw [Int.tdiv_eq_ediv_of_nonneg (by omega)]; exact t2
                      obtain rfl : aq = true := by rw [← eaq, h]; rfl
                      obtain rfl : rl = true := by rw [← erl, h]; rfl
                      clear h eaq erl
                      go_wp2_with fail
                      go_meet
                      exact ⟨_, rfl, BO.out.alloc HN0.out _, HN0.out, heap_alloc_new _ _⟩
                  case rest =>
                    obtain ⟨xb, rfl, hbc, hxb, hbox⟩ := hcut
                    have XB : Hid (Below w5.heap.size w5 wc ∧ w5.heap.size ≤ xb ∧ wc.heap[xb]? = some (.cells (instrC ((k : Nat) : Int) 0 0 0 0 0 aq rl) 23 (0, 0))) := ⟨hbc, hxb, hbox⟩
                    clear hbc hxb hbox BO
                    have hrow := (RowsAt.below R5.out XB.out.1 HRB.out).at5 i hi98
                    have q1 := hrow.1
                    clear hrow
                    have HNM : Hid (∀ V, Calls Tryz.prog 31 #[.agg (instrC ((k : Nat) : Int) 0 0 0 0 0 aq rl)] V fun e w' => e = .returned (.string (mk (nameL k aq rl))) ∧ Below V.heap.size V w') := fun V => by
                      have h := dname_any k 0 0 0 0 0 aq rl (dName i) _ _ _ _ (by have := dname_small k hk1 hk98; rw [HIK.out] at this; exact this) (fun w => by have := of_op k hk1 (by omega) w; rw [show k - 1 = i from by have := HIK.out; omega] at this; exact this) V
                      rw [show dName i ++ mk (markL aq rl) = mk (nameL k aq rl) from by have := dname_mk k hk1 hk98 aq rl; rw [show k - 1 = i from by have := HIK.out; omega] at this; exact this] at h
                      exact h
                    have hds : (dName i).size = (dNames.getD i []).length := by have := dname_len k hk1 hk98; rw [show k - 1 = i from by have := HIK.out; omega] at this; exact this
                    have hdz : (dName i).size ≤ 20 := by have := dname_small k hk1 hk98; rw [show k - 1 = i from by have := HIK.out; omega] at this; exact this
                    have hms : (mk hd).size = hd.length := mk_size hd
                    have hnle : (dNames.getD i []).length ≤ (nameL k aq rl).length := by unfold nameL; rw [show k - 1 = i from by have := HIK.out; omega]; simp
                    obtain ⟨eqn, heqn⟩ : ∃ eqn, decide (hd = nameL k aq rl) = eqn := ⟨_, rfl⟩
                    have hcmp : ((mk (nameL k aq rl)).toList == (mk hd).toList) = eqn := by
                      rw [← heqn, list_mk, list_mk, Bool.eq_iff_iff]
                      simp only [beq_iff_eq, decide_eq_true_eq]
                      exact ⟨fun h => h.symm, fun h => h.symm⟩
                    have hcmp2 : ((mk (nameL k aq rl)).toList != (mk hd).toList) = !eqn := by rw [bne, hcmp]
                    have hlong : hd.length < (dName i).size → eqn = false := fun h => by
                      rw [← heqn]
                      apply decide_eq_false
                      intro e
                      rw [← e] at hnle
                      omega
                    have HEQ : Hid (decide (hd = nameL k aq rl) = eqn) := heqn
                    have HLG : Hid (hd.length < (dName i).size → eqn = false) := hlong
                    clear heqn hlong hnle hds
                    have hki1 : (k : Int) - 1 = (i : Int) := hki1
                    have hi98i : (i : Int) < 98 := by omega
                    go_upto_region 20 with fail
                    go_cut [84] (fun cv wx => cv = .bool (!eqn) ∧ Below w5.heap.size w5 wx ∧ w5.heap.size ≤ xb ∧ wx.heap[xb]? = some (.cells (instrC ((k : Nat) : Int) 0 0 0 0 0 aq rl) 23 (0, 0)))
                    case first =>
                      obtain ⟨v0, v1, v2, v3, v4, v5, v6, v7⟩ := box8_facts XB.out.2.2
                      generalize mk (nameL k aq rl) = s1 at *
                      by_cases hlen : hd.length < (dName i).size
                      · have hli : ((mk hd).size : Int) < ((dName i).size : Int) := by rw [hms]; omega
                        have hef : eqn = false := HLG.out hlen
                        have HEF : Hid (eqn = false) := hef
                        clear hef hlen hms
                        generalize mk hd = hs at *
                        generalize dName i = dn at *
                        go_wp2_with fail
                        go_meet
                        exact ⟨by rw [HEF.out]; rfl, XB.out⟩
                      · have hli : ¬ ((mk hd).size : Int) < ((dName i).size : Int) := by rw [hms]; omega
                        clear hlen hms
                        generalize mk hd = hs at *
                        generalize dName i = dn at *
                        go_wp2_with (go_at_call 31; (with_reducible refine Calls.mono (HNM.out _) ?_); rintro e w9 ⟨rfl, hb9⟩)
                        go_meet
                        exact ⟨by first | rfl | simp, XB.out.1.trans (hb9.mono XB.out.1.size), XB.out.2.1, below_box8 XB.out.2.2 hb9⟩
                    case rest =>
                      obtain ⟨rfl, hbc, hxb, hbox⟩ := hcut
                      have XC : Hid (Below w5.heap.size w5 wc ∧ w5.heap.size ≤ xb ∧ wc.heap[xb]? = some (.cells (instrC ((k : Nat) : Int) 0 0 0 0 0 aq rl) 23 (0, 0))) := ⟨hbc, hxb, hbox⟩
                      clear hbc hxb hbox XB q1 hcmp hcmp2 HNM HLG
                      cases eqn
                      · go_wp2_with fail
                        go_roundw
                        case rel => exact ⟨o + 1, by omega, by go_num, XC.out.1, NoneUpto.succ NOO.out fun h => by
                          have h1 := h.1
                          rw [eaq, erl] at h1
                          exact absurd h1 (of_decide_eq_false HEQ.out)⟩
                        case measure => (simp [intOf]) <;> omega
                      · obtain ⟨v0, v1, v2, v3, v4, v5, v6, v7⟩ := box8_facts XC.out.2.2
                        go_wp2_with fail
                        refine Calls.mono (HW.out k aq rl hk1 hk98 hpl3 _ _ _ _ _ _ _ (RA5.out.below XC.out.1) (NA5.out.below XC.out.1) (StrsAt.below SA5.out XC.out.1)) ?_
                        rintro e w7 ⟨hb7, ⟨y, rfl, hg, hop, haq, hrl⟩ | ⟨rfl, hno⟩⟩
                        · obtain ⟨yo, y1, y2, y3, y4, y5, y6, y7⟩ := y
                          have B7 : Hid (Below w5.heap.size w5 w7) := XC.out.1.trans (hb7.mono XC.out.1.size)
                          have HGY : Hid (_ ∧ _ ∧ _ ∧ _) := ⟨hg, hop, haq, hrl⟩
                          clear hb7 hg hop haq hrl v0 v1 v2 v3 v4 v5 v6 v7
                          have hyc : Ins.c ⟨yo, y1, y2, y3, y4, y5, y6, y7⟩ = #[.int .i64 yo, .int .i64 y1, .int .i64 y2, .int .i64 y3, .int .i64 y4, .int .i64 y5, .bool y6, .bool y7] := rfl
                          rw [hyc]
                          clear hyc
                          have HA7 : Hid (Below w5.heap.size w5 (w7.alloc (.cells #[.int .i64 yo, .int .i64 y1, .int .i64 y2, .int .i64 y3, .int .i64 y4, .int .i64 y5, .bool y6, .bool y7] 23)) ∧ (w7.alloc (.cells #[.int .i64 yo, .int .i64 y1, .int .i64 y2, .int .i64 y3, .int .i64 y4, .int .i64 y5, .bool y6, .bool y7] 23)).heap[w.heap.size]? = some (.cells #[.int .i64 0, .int .i64 0, .int .i64 0, .int .i64 0, .int .i64 0, .int .i64 0, .bool false, .bool false] 23 (0, 0))) := by
                            have hb := B7.out.alloc B7.out.size (.cells #[.int .i64 yo, .int .i64 y1, .int .i64 y2, .int .i64 y3, .int .i64 y4, .int .i64 y5, .bool y6, .bool y7] 23)
                            exact ⟨hb, below_box8 BX5.out.2 hb⟩
                          obtain ⟨p0, p1, p2, p3, p4, p5, p6, p7⟩ := box8_facts HA7.out.2
                          have z0 := box8_frozen HA7.out.2 0
                          have z1 := box8_frozen HA7.out.2 1
                          have z2 := box8_frozen HA7.out.2 2
                          have z3 := box8_frozen HA7.out.2 3
                          have z4 := box8_frozen HA7.out.2 4
                          have z5 := box8_frozen HA7.out.2 5
                          have z6 := box8_frozen HA7.out.2 6
                          have z7 := box8_frozen HA7.out.2 7
                          go_wp2_with fail
                          have hput := box8_put HA7.out.2 (.int .i64 yo) (.int .i64 y1) (.int .i64 y2) (.int .i64 y3) (.int .i64 y4) (.int .i64 y5) (.bool y6) (.bool y7)
                          obtain ⟨r0, r1, r2, r3, r4, r5, r6, r7⟩ := box8_facts hput
                          refine bodyPost_ret (v := .tuple #[.agg #[.int .i64 yo, .int .i64 y1, .int .i64 y2, .int .i64 y3, .int .i64 y4, .int .i64 y5, .bool y6, .bool y7], .bool true]) (by simp [results, Tryz.results14, go_sem, r0, r1, r2, r3, r4, r5, r6, r7]) rfl ?_
                          refine ⟨set8_below (below_mid BX5.out.1 HA7.out.1) (Nat.le_refl _) _ _ _ _ _ _ _ _, .inl ⟨⟨yo, y1, y2, y3, y4, y5, y6, y7⟩, k, rfl, hk1, hk98, HGY.out.2.1, ?_, HGY.out.1⟩⟩
                          have e1 := HGY.out.2.2.1
                          have e2 := HGY.out.2.2.2
                          show hd = nameL k y6 y7
                          rw [show y6 = aq from e1, show y7 = rl from e2]
                          exact of_decide_eq_true HEQ.out
                        · have B7 : Hid (Below w5.heap.size w5 w7) := XC.out.1.trans (hb7.mono XC.out.1.size)
                          have NO7 : Hid _ := hno
                          clear hb7 hno v0 v1 v2 v3 v4 v5 v6 v7
                          go_wp2_with fail
                          go_roundw
                          case rel => exact ⟨o + 1, by omega, by go_num, B7.out.alloc B7.out.size _, NoneUpto.succ NOO.out fun h => by
                            obtain ⟨h1, a, ha⟩ := h
                            rw [eaq, erl] at ha
                            exact NO7.out a ha⟩
                          case measure => (simp [intOf]) <;> omega
                · obtain rfl : o = 4 := by omega
                  go_wp2_with fail
                  go_roundw
                  case rel => exact ⟨k + 1, by omega, by omega, by go_num, BO.out, fun k' h1 h2 o' ho' => by
                    by_cases e : k' = k
                    · subst e; exact NOO.out o' ho'
                    · exact NOK.out k' h1 (by omega) o' ho'⟩
                  case measure => (simp [intOf]) <;> omega
            · have hki : ¬ (k : Int) ≤ 98 := by omega
              obtain ⟨p0, p1, p2, p3, p4, p5, p6, p7⟩ := box8_facts (below_box8 BX5.out.2 BK.out)
              have z0 := box8_frozen (below_box8 BX5.out.2 BK.out) 0
              have z1 := box8_frozen (below_box8 BX5.out.2 BK.out) 1
              have z2 := box8_frozen (below_box8 BX5.out.2 BK.out) 2
              have z3 := box8_frozen (below_box8 BX5.out.2 BK.out) 3
              have z4 := box8_frozen (below_box8 BX5.out.2 BK.out) 4
              have z5 := box8_frozen (below_box8 BX5.out.2 BK.out) 5
              have z6 := box8_frozen (below_box8 BX5.out.2 BK.out) 6
              have z7 := box8_frozen (below_box8 BX5.out.2 BK.out) 7
              go_wp2_with fail
              have hput := box8_put (below_box8 BX5.out.2 BK.out) (.int .i64 0) (.int .i64 0) (.int .i64 0) (.int .i64 0) (.int .i64 0) (.int .i64 0) (.bool false) (.bool false)
              obtain ⟨r0, r1, r2, r3, r4, r5, r6, r7⟩ := box8_facts hput
              refine bodyPost_ret (v := .tuple #[.agg Ins.zero.c, .bool false]) (by simp [results, Tryz.results14, go_sem, r0, r1, r2, r3, r4, r5, r6, r7, Ins.zero, Ins.c, instrC]) rfl ?_
              exact ⟨set8_below (below_mid BX5.out.1 BK.out) (Nat.le_refl _) _ _ _ _ _ _ _ _, .inr ⟨rfl, by first | exact .inr fun k' h1 h2 o ho => NOK.out k' h1 (by omega) o ho | exact fun k' h1 h2 o ho => NOK.out k' h1 (by omega) o ho⟩⟩
end Go.Proofs.YtooaafbdjnlmfaaGreatDoor
