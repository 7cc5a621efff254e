/- The call Differ of layer 2, walked. -/
import Derived.Test.YthnmoalomodbpaaDiffW
namespace Go.Proofs.Ythnmoalomodbpaa
open Go.RowKit Go.Maps
set_option linter.unusedVariables false
set_option linter.unusedSimpArgs false
/-- what the scan has found so far -/
structure Scan (w wr : World) (v : Value) (A : List Nat) (most : Int) : Prop where
  span : SpanIn w.heap.size wr v (spans A)
  below : Below w.heap.size w wr
  few : ((spans A).length : Int) ≤ most
theorem Scan.later {w wr w' : World} {v : Value} {A : List Nat} {most : Int} (h : Scan w wr v A most) (hb : Below wr.heap.size wr w') : Scan w w' v A most :=
  ⟨h.span.kept (fun g hg => hb.block g (h.span.lt g hg).2), h.below.trans (hb.mono h.below.size), h.few⟩
theorem no_own (w wr : World) (v : Value) (l : List (Nat × Nat)) (h : SpanIn w.heap.size wr v l) (b : Nat) (hb : b < w.heap.size ∨ wr.heap.size ≤ b) : v.ownBlock ≠ some b := fun e => by
  have := h.lt b e
  omega
theorem page_cell {w : World} {b : Nat} {f : Nat → Nat} (h : w.heap[b]? = some (.cells (pageRow f) 98 (0, 0))) (i : Nat) (hi : i < 4096) : w.cell? ⟨b, i, none⟩ = some (.int .u8 (f i : Nat)) := by
  simp only [World.cell?, h]
  exact pageRow_get f i hi
theorem diffsIn_split (Ma Mb : Nat → Nat) (k i : Nat) : ∀ d, ∃ C, diffsIn Ma Mb k (i + d) = diffsIn Ma Mb k i ++ C
  | 0 => ⟨[], by simp⟩
  | d + 1 => by
    obtain ⟨C, h⟩ := diffsIn_split Ma Mb k i d
    by_cases he : Ma (k * 4096 + (i + d)) = Mb (k * 4096 + (i + d))
    · exact ⟨C, by rw [← Nat.add_assoc, diffsIn_same _ _ _ _ he, h]⟩
    · exact ⟨C ++ [k * 4096 + (i + d)], by rw [← Nat.add_assoc, diffsIn_new _ _ _ _ he, h, List.append_assoc]⟩
theorem all_split (Ma Mb : Nat → Nat) (ks : List Nat) (j i k : Nat) (h : ks.take (j + 1) = ks.take j ++ [k]) (hi : i ≤ 4096) : ∃ C, diffs Ma Mb ks = diffs Ma Mb (ks.take j) ++ diffsIn Ma Mb k i ++ C := by
  obtain ⟨C, hC⟩ := diffsIn_split Ma Mb k i (4096 - i)
  rw [show i + (4096 - i) = 4096 from by omega] at hC
  refine ⟨C ++ diffs Ma Mb (ks.drop (j + 1)), ?_⟩
  have e : ks = ks.take (j + 1) ++ ks.drop (j + 1) := (List.take_append_drop _ _).symm
  have e2 : diffs Ma Mb ks = diffs Ma Mb (ks.take (j + 1)) ++ diffs Ma Mb (ks.drop (j + 1)) := by
    unfold diffs
    rw [← List.flatMap_append, ← e]
  rw [e2, h, diffs_snoc, hC]
  simp only [List.append_assoc]
theorem SpanIn.room {B : Nat} {w : World} {g n c : Nat} {l : List (Nat × Nat)} (h : SpanIn B w (.slice (some ⟨g, 0, none⟩) n c) l) : n ≤ c := by
  rcases h.2 with ⟨h', _⟩ | ⟨g', cap', cur, h', hb, hg, hnc, hcm, hcs, htake⟩
  · simp at h'
  · simp only [Value.slice.injEq, Option.some.injEq, Addr.mk.injEq, and_true, true_and] at h'
    obtain ⟨rfl, h2, rfl⟩ := h'
    omega
set_option maxRecDepth 100000 in
set_option maxHeartbeats 4000000 in
theorem differ_some {w : World} {Fa Fb : Nat → Prop} {ra rb size na nb : Nat} {lga lgb : Value} {Ma Mb : Nat → Nat} (ha : RamAt w Fa ra size na lga Ma) (hb : RamAt w Fb rb size nb lgb Mb) (hs : 0 < size) (hna : na ≤ 1000000) (hnb : nb ≤ 1000000) (p1 p2 : Nat) (hp1 : p1 < 1000000) (hp2 : p2 < 1000000) (hS : ∀ k, Apart Ma Mb k → k = p1 ∨ k = p2) (most : Int) (hm : 1 ≤ most) :
    Calls Try.prog 38 #[.pointer (some ⟨ra, 0, none⟩), .pointer (some ⟨rb, 0, none⟩), .int .i64 most] w fun e w' => ∃ v A, e = .returned v ∧ A.Pairwise (· < ·) ∧ (∀ x, x ∈ A ↔ Ma x ≠ Mb x) ∧ SpanIn w.heap.size w' v ((spans A).take most.toNat) ∧ Below w.heap.size w w' := by
  have A0 : Hid (RamAt w Fa ra size na lga Ma) := ha
  have B0 : Hid (RamAt w Fb rb size nb lgb Mb) := hb
  have U : Hid _ := unlike_any ha hb hs hna hnb p1 p2 hS
  have HS : Hid _ := hS
  clear ha hb hS
  have hmb : decide (most < 1) = false := by simp; omega
  go_enter Try.func38, Try.ntmps38
  go_wp2_with fail
  refine (size_any A0.out).mono ?_
  rintro e w' ⟨rfl, hw⟩
  rw [hw]
  clear hw
  go_wp2_with fail
  refine (size_any B0.out).mono ?_
  rintro e w' ⟨rfl, hw⟩
  rw [hw]
  clear hw
  go_wp2_with fail
  refine Calls.mono (by exact U.out) ?_
  rintro e w1 ⟨v, ks, rfl, hn, hpw, hk, hl, hb1⟩
  obtain ⟨av, cv, rfl⟩ := hn.form
  have hk2 : ks.length ≤ 2 := two_of (hpw.imp (fun h => Nat.ne_of_lt h)) (fun k h => HS.out k ((hk k).1 h))
  have hks : ∀ k ∈ ks, k < 1000000 := fun k h => by rcases HS.out k ((hk k).1 h) with h | h <;> omega
  have E : Hid (Nums w.heap.size w1 (.slice av ks.length cv) ks ∧ ks.Pairwise (· < ·) ∧ (∀ k, k ∈ ks ↔ Apart Ma Mb k) ∧ Below w.heap.size w w1 ∧ (∀ k ∈ ks, k < 1000000)) := ⟨hn, hpw, hk, hb1, hks⟩
  clear hn hpw hk hl hb1 hks U
  have S0 : Hid (Scan w w1 (.slice none 0 0) (diffs Ma Mb (ks.take 0)) most) := ⟨⟨rfl, .inl ⟨rfl, rfl⟩⟩, E.out.2.2.2.1, by simp [diffs, spans]; omega⟩
  have HM : Hid (∀ x, x ∈ diffs Ma Mb ks ↔ Ma x ≠ Mb x) := fun x => by
    rw [diffs_mem, E.out.2.2.1]
    refine ⟨fun h => h.2, fun h => ⟨⟨x % 4096, Nat.mod_lt _ (by decide), ?_⟩, h⟩⟩
    rw [show x / 4096 * 4096 + x % 4096 = x from by omega]; exact h
  go_wp2
  go_loopw [7, 26] (fun v jv wr => ∃ j : Nat, j ≤ ks.length ∧ jv = .int .i64 j ∧ Scan w wr v (diffs Ma Mb (ks.take j)) most ∧ ∀ g o, w1.heap[g]? = some o → av = some ⟨g, 0, none⟩ → Kept wr v g o) (fun _ jv _ => ks.length - (intOf jv).toNat)
  case atStart => exact ⟨0, by omega, rfl, S0.out, fun g o h1 h2 => ⟨h1, by simp [Value.ownBlock]⟩⟩
  case round =>
    obtain ⟨j, hj, rfl, hsc, hkp⟩ := hrel
    clear S0
    by_cases hjl : j < ks.length
    · obtain ⟨gk, cur, rfl, hgk, hcur⟩ := nums_block E.out.1 (by omega)
      have K0 : Hid (Kept wr _ gk (.cells cur 22 (0, 0))) := hkp gk _ hgk rfl
      obtain ⟨ao, co, rfl⟩ := hsc.span.form
      have hcj : wr.cell? ⟨gk, j, none⟩ = some (.int .u64 (ks.getD j 0 : Nat)) := by
        simp only [World.cell?, K0.out.1]; exact hcur j hjl
      have hmem : ks.getD j 0 ∈ ks := by rw [List.getD_eq_getElem?_getD, List.getElem?_eq_getElem hjl]; exact List.getElem_mem hjl
      have htk : ks.take (j + 1) = ks.take j ++ [ks.getD j 0] := by
        rw [List.take_succ_eq_append_getElem hjl, List.getD_eq_getElem?_getD, List.getElem?_eq_getElem hjl]; rfl
      have hkb := E.out.2.2.2.2 _ hmem
      have HTK : Hid _ := htk
      have HGK : Hid (w1.heap[gk]? = some (.cells cur 22 (0, 0))) := hgk
      have SC : Hid (Scan w wr _ (diffs Ma Mb (ks.take j)) most) := hsc
      have hji : (j : Int) < ks.length := by omega
      have hlA := diffs_len Ma Mb (ks.take j)
      have hlT : (ks.take j).length ≤ 1 := by rw [List.length_take]; omega
      have HTop : Hid (∀ i, i ≤ 4096 → (∀ a ∈ diffs Ma Mb (ks.take j) ++ diffsIn Ma Mb (ks.getD j 0) i, a < 4096004096) ∧ (spans (diffs Ma Mb (ks.take j) ++ diffsIn Ma Mb (ks.getD j 0) i)).length < 10000) := fun i hi => by
        constructor
        · intro a ha
          rcases List.mem_append.1 ha with ha | ha
          · have h1 := ((diffs_mem Ma Mb _ a).1 ha).1
            have h2 := E.out.2.2.2.2 _ (List.mem_of_mem_take h1)
            omega
          · obtain ⟨q, hq, _, rfl⟩ := (diffsIn_mem Ma Mb _ _ a).1 ha
            omega
        · have h1 := spans_len (diffs Ma Mb (ks.take j) ++ diffsIn Ma Mb (ks.getD j 0) i)
          have h2 := diffsIn_len Ma Mb (ks.getD j 0) i
          rw [List.length_append] at h1
          omega
      have HAll : Hid (∀ i, i ≤ 4096 → ∃ C, diffs Ma Mb ks = diffs Ma Mb (ks.take j) ++ diffsIn Ma Mb (ks.getD j 0) i ++ C) := fun i hi => all_split Ma Mb ks j i _ htk hi
      clear htk hsc hkp hgk hcur hmem
      generalize ks.getD j 0 = k at *
      have hki : (k : Int) < 1000000 := by omega
      go_wp2_with fail
      refine (look_far (A0.out.below SC.out.below) k (by omega)).mono ?_
      rintro e w2 ⟨pb, rfl, hpp, hb2, hfar⟩
      have S2 : Hid (Scan w w2 _ (diffs Ma Mb (ks.take j)) most) := SC.out.later hb2
      have G2 : Hid (Kept w2 _ gk (.cells cur 22 (0, 0))) := K0.out.below hb2
      have P2 : Hid (Kept w2 (.slice ao (spans (diffs Ma Mb (ks.take j))).length co) pb (.cells (pageRow (fun i => Ma (k * 4096 + i))) 98 (0, 0))) := ⟨hpp, no_own w wr _ _ SC.out.span pb (hfar.imp (fun h => A0.out.lt pb h) id)⟩
      clear hpp hb2 hfar
      go_wp2_with fail
      refine (look_far (B0.out.below S2.out.below) k (by omega)).mono ?_
      rintro e w3 ⟨qb, rfl, hqq, hb3, hfar⟩
      have S3 : Hid (Scan w w3 _ (diffs Ma Mb (ks.take j)) most) := S2.out.later hb3
      have G3 : Hid (Kept w3 _ gk (.cells cur 22 (0, 0))) := G2.out.below hb3
      have P3 : Hid (Kept w3 _ pb (.cells (pageRow (fun i => Ma (k * 4096 + i))) 98 (0, 0))) := P2.out.below hb3
      have Q3 : Hid (Kept w3 (.slice ao (spans (diffs Ma Mb (ks.take j))).length co) qb (.cells (pageRow (fun i => Mb (k * 4096 + i))) 98 (0, 0))) := ⟨hqq, no_own w w2 _ _ S2.out.span qb (hfar.imp (fun h => B0.out.lt qb h) id)⟩
      clear hqq hb3 hfar S2 G2 P2 SC K0 hcj
      go_wp2
      go_loopw [7, 36] (fun v iv wq => ∃ i : Nat, i ≤ 4096 ∧ iv = .int .i64 i ∧ Scan w wq v (diffs Ma Mb (ks.take j) ++ diffsIn Ma Mb k i) most ∧ Kept wq v gk (.cells cur 22 (0, 0)) ∧ Kept wq v pb (.cells (pageRow (fun i => Ma (k * 4096 + i))) 98 (0, 0)) ∧ Kept wq v qb (.cells (pageRow (fun i => Mb (k * 4096 + i))) 98 (0, 0))) (fun _ iv _ => 4096 - (intOf iv).toNat)
      case atStart => exact ⟨0, by omega, rfl, by rw [diffsIn_zero, List.append_nil]; exact S3.out, G3.out, P3.out, Q3.out⟩
      case round =>
        obtain ⟨i, hi, rfl, hsc, hg, hp, hq⟩ := hrel
        clear S3 G3 P3 Q3
        obtain ⟨ao, co, rfl⟩ := hsc.span.form
        have X : Hid (_ ∧ _ ∧ _ ∧ _) := ⟨hsc, hg, hp, hq⟩
        clear hsc hg hp hq
        by_cases hi4 : i < 4096
        · have hii : (i : Int) < 4096 := by omega
          have cp := page_cell X.out.2.2.1.1 i hi4
          have cq := page_cell X.out.2.2.2.1 i hi4
          by_cases heq : Ma (k * 4096 + i) = Mb (k * 4096 + i)
          · have hbe : (((Ma (k * 4096 + i) : Nat) : Int) == ((Mb (k * 4096 + i) : Nat) : Int)) = true := by rw [heq]; simp
            have HQ : Hid _ := heq
            clear heq
            generalize ((Ma (k * 4096 + i) : Nat) : Int) = xa at *
            generalize ((Mb (k * 4096 + i) : Nat) : Int) = xb at *
            go_wp2
            go_quiet (fail)
            go_wp2
            go_roundw
            case rel => exact ⟨i + 1, by omega, by go_num, by rw [diffsIn_same _ _ _ _ HQ.out]; exact X.out.1.later (below_drewN (Below.refl _ _) _), X.out.2.1.drewN _, X.out.2.2.1.drewN _, X.out.2.2.2.drewN _⟩
            case measure => simp [intOf]; omega
          · have hbe : (((Ma (k * 4096 + i) : Nat) : Int) == ((Mb (k * 4096 + i) : Nat) : Int)) = false := by simp; omega
            have HQ : Hid _ := heq
            clear heq
            generalize ((Ma (k * 4096 + i) : Nat) : Int) = xa at *
            generalize ((Mb (k * 4096 + i) : Nat) : Int) = xb at *
            go_wp2
            go_quiet (fail)
            go_wp2_with fail
            have Y : Hid (Scan w (wr.drewN nq) (.slice ao (spans (diffs Ma Mb (ks.take j) ++ diffsIn Ma Mb k i)).length co) (diffs Ma Mb (ks.take j) ++ diffsIn Ma Mb k i) most) := X.out.1.later (below_drewN (Below.refl _ _) _)
            refine (stretch_i Y.out.span _ (k * 4096 + i) (by omega) (by omega) (HTop.out i hi).2 Y.out.below.size (fun p hp => by have := spans_top _ 4096004096 (HTop.out i hi).1 p hp; omega)).mono ?_
            rintro e w4 ⟨v', rfl, hst⟩
            have hsp : SpanIn w.heap.size w4 v' (spans (diffs Ma Mb (ks.take j) ++ diffsIn Ma Mb k (i + 1))) := by
              rw [diffsIn_new _ _ _ _ HQ.out, ← List.append_assoc, spans_snoc]; exact hst.1
            have hbl : Below w.heap.size w w4 := Below.grown Y.out.below hst.2.1 Y.out.below.size (fun g hg => (Y.out.span.lt g hg).1)
            have hk3 := (X.out.2.1.drewN nq).stretched hst
            have hk4 := (X.out.2.2.1.drewN nq).stretched hst
            have hk5 := (X.out.2.2.2.drewN nq).stretched hst
            have hln := (stretchL_len (spans (diffs Ma Mb (ks.take j) ++ diffsIn Ma Mb k i)) (k * 4096 + i))
            have hle : (stretchL (spans (diffs Ma Mb (ks.take j) ++ diffsIn Ma Mb k i)) (k * 4096 + i)).length = (spans (diffs Ma Mb (ks.take j) ++ diffsIn Ma Mb k (i + 1))).length := by
              rw [diffsIn_new _ _ _ _ HQ.out, ← List.append_assoc, spans_snoc]
            clear hki hkb hp1 hp2 hna hnb hlA hlT
            by_cases hmo : ((spans (diffs Ma Mb (ks.take j) ++ diffsIn Ma Mb k (i + 1))).length : Int) ≤ most
            · obtain ⟨ao', co', rfl⟩ := hsp.form
              have Z : Hid (_ ∧ _ ∧ _ ∧ _) := ⟨(⟨hsp, hbl, hmo⟩ : Scan w w4 _ _ most), hk3, hk4, hk5⟩
              clear hst hsp hbl hk3 hk4 hk5 hln hle
              go_wp2
              go_roundw
              case rel => exact ⟨i + 1, by omega, by go_num, Z.out⟩
              case measure => simp [intOf]; omega
            · obtain ⟨g', c', rfl, _⟩ := hsp.cells (by omega)
              have hroom := hsp.room
              obtain ⟨m, rfl⟩ : ∃ m : Nat, most = m := ⟨most.toNat, by omega⟩
              have Z : Hid (_ ∧ _) := ⟨hsp, hbl⟩
              have HL : Hid (m < (spans (diffs Ma Mb (ks.take j) ++ diffsIn Ma Mb k (i + 1))).length) := by
                show m < _
                omega
              have hm1 : (m : Int) ≤ (c' : Int) := by omega
              have hm2 : (m : Int) ≤ ((spans (diffs Ma Mb (ks.take j) ++ diffsIn Ma Mb k (i + 1))).length : Int) := by omega
              clear hst hsp hbl hk3 hk4 hk5 hln hle hmo
              generalize hSL : (spans (diffs Ma Mb (ks.take j) ++ diffsIn Ma Mb k (i + 1))).length = sl at *
              have HSL : Hid _ := hSL
              clear hSL
              have hmd : decide ((m : Int) < (sl : Int)) = true := by have := HL.out; simp; omega
              go_wp2
              go_ret
              obtain ⟨C, hC⟩ := HAll.out (i + 1) (by omega)
              refine ⟨_, diffs Ma Mb ks, rfl, diffs_rise Ma Mb ks E.out.2.1, HM.out, ?_, Z.out.2⟩
              rw [Int.toNat_natCast, hC, spans_take _ C m (by rw [HSL.out]; exact HL.out)]
              exact Z.out.1.cut m (by rw [HSL.out]; exact Nat.le_of_lt HL.out)
        · obtain rfl : i = 4096 := by omega
          go_wp2
          go_roundw
          case rel => exact ⟨j + 1, by omega, by go_num, by rw [HTK.out, diffs_snoc]; exact X.out.1, fun g o h1 h2 => by cases h2; rw [HGK.out] at h1; cases h1; exact X.out.2.1⟩
          case measure => simp [intOf]; omega
    · obtain rfl : j = ks.length := by omega
      obtain ⟨ao, co, rfl⟩ := hsc.span.form
      have X : Hid _ := hsc
      clear hsc hkp
      go_wp2
      go_ret
      refine ⟨_, diffs Ma Mb ks, rfl, diffs_rise Ma Mb ks E.out.2.1, HM.out, ?_, X.out.below⟩
      have h1 := X.out.span
      have h2 := X.out.few
      rw [List.take_length] at h1 h2
      rw [show (spans (diffs Ma Mb ks)).take most.toNat = spans (diffs Ma Mb ks) from List.take_of_length_le (by omega), List.take_length]
      exact h1
/-- the numbers of the pages that differ, rising -/
theorem pages_rise {Ma Mb : Nat → Nat} (p1 p2 : Nat) (hS : ∀ k, Apart Ma Mb k → k = p1 ∨ k = p2) : ∃ ks : List Nat, ks.Pairwise (· < ·) ∧ ∀ k, k ∈ ks ↔ Apart Ma Mb k := by
  by_cases h1 : Apart Ma Mb p1 <;> by_cases h2 : Apart Ma Mb p2
  · rcases Nat.lt_trichotomy p1 p2 with h | h | h
    · exact ⟨[p1, p2], by simp [h], fun k => by simp; exact ⟨fun e => by rcases e with rfl | rfl <;> assumption, hS k⟩⟩
    · subst h; exact ⟨[p1], by simp, fun k => by simp; exact ⟨fun e => by subst e; exact h1, fun e => by have := hS k e; omega⟩⟩
    · exact ⟨[p2, p1], by simp [h], fun k => by simp; exact ⟨fun e => by rcases e with rfl | rfl <;> assumption, fun e => (hS k e).symm⟩⟩
  · exact ⟨[p1], by simp, fun k => by simp; exact ⟨fun e => by subst e; exact h1, fun e => by rcases hS k e with rfl | rfl; rfl; exact absurd e h2⟩⟩
  · exact ⟨[p2], by simp, fun k => by simp; exact ⟨fun e => by subst e; exact h2, fun e => by rcases hS k e with rfl | rfl; exact absurd e h1; rfl⟩⟩
  · exact ⟨[], by simp, fun k => by simp; exact fun e => by rcases hS k e with rfl | rfl; exact h1 e; exact h2 e⟩
theorem addresses_rise {Ma Mb : Nat → Nat} (p1 p2 : Nat) (hS : ∀ k, Apart Ma Mb k → k = p1 ∨ k = p2) : ∃ A : List Nat, A.Pairwise (· < ·) ∧ ∀ x, x ∈ A ↔ Ma x ≠ Mb x := by
  obtain ⟨ks, h1, h2⟩ := pages_rise p1 p2 hS
  refine ⟨diffs Ma Mb ks, diffs_rise Ma Mb ks h1, fun x => ?_⟩
  rw [diffs_mem, h2]
  refine ⟨fun h => h.2, fun h => ⟨⟨x % 4096, Nat.mod_lt _ (by decide), ?_⟩, h⟩⟩
  rw [show x / 4096 * 4096 + x % 4096 = x from by omega]; exact h
set_option maxRecDepth 100000 in
set_option maxHeartbeats 1000000 in
theorem differ_none {w : World} {Fa Fb : Nat → Prop} {ra rb size na nb : Nat} {lga lgb : Value} {Ma Mb : Nat → Nat} (ha : RamAt w Fa ra size na lga Ma) (hb : RamAt w Fb rb size nb lgb Mb) (most : Int) (hm : most < 1) :
    Calls Try.prog 38 #[.pointer (some ⟨ra, 0, none⟩), .pointer (some ⟨rb, 0, none⟩), .int .i64 most] w fun e w' => e = .returned (.slice none 0 0) ∧ w' = w := by
  have A0 : Hid (RamAt w Fa ra size na lga Ma) := ha
  have B0 : Hid (RamAt w Fb rb size nb lgb Mb) := hb
  clear ha hb
  have hmb : decide (most < 1) = true := by simp; omega
  go_enter Try.func38, Try.ntmps38
  go_wp2_with fail
  refine (size_any A0.out).mono ?_
  rintro e w' ⟨rfl, hw⟩
  rw [hw]
  clear hw
  go_wp2_with fail
  refine (size_any B0.out).mono ?_
  rintro e w' ⟨rfl, hw⟩
  rw [hw]
  clear hw
  go_wp2
  go_ret
  exact ⟨rfl, rfl⟩
/-- where two memories of one size differ, piece by piece -/
theorem differ_any {w : World} {Fa Fb : Nat → Prop} {ra rb size na nb : Nat} {lga lgb : Value} {Ma Mb : Nat → Nat} (ha : RamAt w Fa ra size na lga Ma) (hb : RamAt w Fb rb size nb lgb Mb) (hs : 0 < size) (hna : na ≤ 1000000) (hnb : nb ≤ 1000000) (p1 p2 : Nat) (hp1 : p1 < 1000000) (hp2 : p2 < 1000000) (hS : ∀ k, Apart Ma Mb k → k = p1 ∨ k = p2) (most : Int) (A : List Nat) (hA : A.Pairwise (· < ·)) (hM : ∀ x, x ∈ A ↔ Ma x ≠ Mb x) :
    Calls Try.prog 38 #[.pointer (some ⟨ra, 0, none⟩), .pointer (some ⟨rb, 0, none⟩), .int .i64 most] w fun e w' => ∃ v, e = .returned v ∧ SpanIn w.heap.size w' v ((spans A).take most.toNat) ∧ Below w.heap.size w w' := by
  by_cases hm : 1 ≤ most
  · refine (differ_some ha hb hs hna hnb p1 p2 hp1 hp2 hS most hm).mono ?_
    rintro e w' ⟨v, A', rfl, h1, h2, h3, h4⟩
    obtain rfl := rise_one A A' hA h1 (fun x => by rw [hM, h2])
    exact ⟨v, rfl, h3, h4⟩
  · refine (differ_none ha hb most (by omega)).mono ?_
    rintro e w' ⟨rfl, rfl⟩
    rw [show most.toNat = 0 from by omega]
    exact ⟨_, rfl, ⟨rfl, .inl ⟨rfl, rfl⟩⟩, Below.refl _ _⟩
end Go.Proofs.Ythnmoalomodbpaa
