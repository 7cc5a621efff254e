/- Texts put together. -/
import Derived.Test.YtmjdnocilbnoaaaGreatYi
import Derived.Deep.AppendLies
import Derived.Deep.RegionHeldLaw
import Derived.Deep.Upon
import Derived.Deep.DeepCutAuto
import Derived.Test.YtmjdnocilbnoaaaGreatYc
import Derived.Test.YtmjdnocilbnoaaaGreatYh
/- The call Differ of layer 2, walked. -/
namespace Go.Proofs.YtmjdnocilbnoaaaGreat
open Go.RowKit Go.Maps
set_option linter.unusedVariables false
set_option linter.unusedSimpArgs false
/-- what the scan has found so far -/
structure Scan (w wr : World) (v : Value) (A : List Nat) (most : Int) : Prop where
  span : SpanIn w.heap.size wr v (spans A)
  below : Below w.heap.size w wr
  few : ((spans A).length : Int) ≤ most
theorem Scan.later {w wr w' : World} {v : Value} {A : List Nat} {most : Int} (h : Scan w wr v A most) (hb : Below wr.heap.size wr w') : Scan w w' v A most :=
  ⟨h.span.kept (fun g hg => hb.block g (h.span.lt g hg).2), h.below.trans (hb.mono h.below.size), h.few⟩
theorem no_own (w wr : World) (v : Value) (l : List (Nat × Nat)) (h : SpanIn w.heap.size wr v l) (b : Nat) (hb : b < w.heap.size ∨ wr.heap.size ≤ b) : v.ownBlock ≠ some b := fun e => by
  have := h.lt b e
  omega
theorem page_cell {w : World} {b : Nat} {f : Nat → Nat} (h : w.heap[b]? = some (.cells (pageRow f) 96 (0, 0))) (i : Nat) (hi : i < 4096) : w.cell? ⟨b, i, none⟩ = some (.int .u8 (f i : Nat)) := by
  simp only [World.cell?, h]
  exact pageRow_get f i hi
theorem diffsIn_split (Ma Mb : Nat → Nat) (k i : Nat) : ∀ d, ∃ C, diffsIn Ma Mb k (i + d) = diffsIn Ma Mb k i ++ C
  | 0 => ⟨[], by simp⟩
  | d + 1 => by
    obtain ⟨C, h⟩ := diffsIn_split Ma Mb k i d
    by_cases he : Ma (k * 4096 + (i + d)) = Mb (k * 4096 + (i + d))
    · exact ⟨C, by rw [← Nat.add_assoc, diffsIn_same _ _ _ _ he, h]⟩
    · exact ⟨C ++ [k * 4096 + (i + d)], by rw [← Nat.add_assoc, diffsIn_new _ _ _ _ he, h, List.append_assoc]⟩
theorem all_split (Ma Mb : Nat → Nat) (ks : List Nat) (j i k : Nat) (h : ks.take (j + 1) = ks.take j ++ [k]) (hi : i ≤ 4096) : ∃ C, diffs Ma Mb ks = diffs Ma Mb (ks.take j) ++ diffsIn Ma Mb k i ++ C := by
  obtain ⟨C, hC⟩ := diffsIn_split Ma Mb k i (4096 - i)
  rw [show i + (4096 - i) = 4096 from by omega] at hC
  refine ⟨C ++ diffs Ma Mb (ks.drop (j + 1)), ?_⟩
  have e : ks = ks.take (j + 1) ++ ks.drop (j + 1) := (List.take_append_drop _ _).symm
  have e2 : diffs Ma Mb ks = diffs Ma Mb (ks.take (j + 1)) ++ diffs Ma Mb (ks.drop (j + 1)) := by
    unfold diffs
    rw [← List.flatMap_append, ← e]
  rw [e2, h, diffs_snoc, hC]
  simp only [List.append_assoc]
theorem SpanIn.room {B : Nat} {w : World} {g n c : Nat} {l : List (Nat × Nat)} (h : SpanIn B w (.slice (some ⟨g, 0, none⟩) n c) l) : n ≤ c := by
  rcases h.2 with ⟨h', _⟩ | ⟨g', cap', cur, h', hb, hg, hnc, hcm, hcs, htake⟩
  · simp at h'
  · simp only [Value.slice.injEq, Option.some.injEq, Addr.mk.injEq, and_true, true_and] at h'
    obtain ⟨rfl, h2, rfl⟩ := h'
    omega
set_option maxRecDepth 100000 in
set_option maxHeartbeats 4000000 in
theorem differ_some {w : World} {Fa Fb : Nat → Prop} {ra rb size na nb : Nat} {lga lgb : Value} {Ma Mb : Nat → Nat} (ha : RamAt w Fa ra size na lga Ma) (hb : RamAt w Fb rb size nb lgb Mb) (hs : 0 < size) (hna : na ≤ 1000000) (hnb : nb ≤ 1000000) (p1 p2 : Nat) (hp1 : p1 < 1000000) (hp2 : p2 < 1000000) (hS : ∀ k, Apart Ma Mb k → k = p1 ∨ k = p2) (most : Int) (hm : 1 ≤ most) :
    Calls Tryz.prog 14 #[.pointer (some ⟨ra, 0, none⟩), .pointer (some ⟨rb, 0, none⟩), .int .i64 most] w fun e w' => ∃ v A, e = .returned v ∧ A.Pairwise (· < ·) ∧ (∀ x, x ∈ A ↔ Ma x ≠ Mb x) ∧ SpanIn w.heap.size w' v ((spans A).take most.toNat) ∧ Below w.heap.size w w' := by
  have A0 : Hid (RamAt w Fa ra size na lga Ma) := ha
  have B0 : Hid (RamAt w Fb rb size nb lgb Mb) := hb
  have U : Hid _ := unlike_any ha hb hs hna hnb p1 p2 hS
  have HS : Hid _ := hS
  clear ha hb hS
  have hmb : decide (most < 1) = false := by simp; omega
  go_enter Tryz.func14, Tryz.ntmps14
  go_wp2_with fail
  refine (size_any A0.out).mono ?_
  rintro e w' ⟨rfl, hw⟩
  rw [hw]
  clear hw
  go_wp2_with fail
  refine (size_any B0.out).mono ?_
  rintro e w' ⟨rfl, hw⟩
  rw [hw]
  clear hw
  go_wp2_with fail
  refine Calls.mono (by exact U.out) ?_
  rintro e w1 ⟨v, ks, rfl, hn, hpw, hk, hl, hb1⟩
  obtain ⟨av, cv, rfl⟩ := hn.form
  have hk2 : ks.length ≤ 2 := two_of (hpw.imp (fun h => Nat.ne_of_lt h)) (fun k h => HS.out k ((hk k).1 h))
  have hks : ∀ k ∈ ks, k < 1000000 := fun k h => by rcases HS.out k ((hk k).1 h) with h | h <;> omega
  have E : Hid (Nums w.heap.size w1 (.slice av ks.length cv) ks ∧ ks.Pairwise (· < ·) ∧ (∀ k, k ∈ ks ↔ Apart Ma Mb k) ∧ Below w.heap.size w w1 ∧ (∀ k ∈ ks, k < 1000000)) := ⟨hn, hpw, hk, hb1, hks⟩
  clear hn hpw hk hl hb1 hks U
  have S0 : Hid (Scan w w1 (.slice none 0 0) (diffs Ma Mb (ks.take 0)) most) := ⟨⟨rfl, .inl ⟨rfl, rfl⟩⟩, E.out.2.2.2.1, by simp [diffs, spans]; omega⟩
  have HM : Hid (∀ x, x ∈ diffs Ma Mb ks ↔ Ma x ≠ Mb x) := fun x => by
    rw [diffs_mem, E.out.2.2.1]
    refine ⟨fun h => h.2, fun h => ⟨⟨x % 4096, Nat.mod_lt _ (by decide), ?_⟩, h⟩⟩
    rw [show x / 4096 * 4096 + x % 4096 = x from by omega]; exact h
  go_wp2
  go_loopw [7, 26] (fun v jv wr => ∃ j : Nat, j ≤ ks.length ∧ jv = .int .i64 j ∧ Scan w wr v (diffs Ma Mb (ks.take j)) most ∧ ∀ g o, w1.heap[g]? = some o → av = some ⟨g, 0, none⟩ → Kept wr v g o) (fun _ jv _ => ks.length - (intOf jv).toNat)
  case atStart => exact ⟨0, by omega, rfl, S0.out, fun g o h1 h2 => ⟨h1, by simp [Value.ownBlock]⟩⟩
  case round =>
    obtain ⟨j, hj, rfl, hsc, hkp⟩ := hrel
    clear S0
    by_cases hjl : j < ks.length
    · obtain ⟨gk, cur, rfl, hgk, hcur⟩ := nums_block E.out.1 (by omega)
      have K0 : Hid (Kept wr _ gk (.cells cur 23 (0, 0))) := hkp gk _ hgk rfl
      obtain ⟨ao, co, rfl⟩ := hsc.span.form
      have hcj : wr.cell? ⟨gk, j, none⟩ = some (.int .u64 (ks.getD j 0 : Nat)) := by
        simp only [World.cell?, K0.out.1]; exact hcur j hjl
      have hmem : ks.getD j 0 ∈ ks := by rw [List.getD_eq_getElem?_getD, List.getElem?_eq_getElem hjl]; exact List.getElem_mem hjl
      have htk : ks.take (j + 1) = ks.take j ++ [ks.getD j 0] := by
        rw [List.take_succ_eq_append_getElem hjl, List.getD_eq_getElem?_getD, List.getElem?_eq_getElem hjl]; rfl
      have hkb := E.out.2.2.2.2 _ hmem
      have HTK : Hid _ := htk
      have HGK : Hid (w1.heap[gk]? = some (.cells cur 23 (0, 0))) := hgk
      have SC : Hid (Scan w wr _ (diffs Ma Mb (ks.take j)) most) := hsc
      have hji : (j : Int) < ks.length := by omega
      have hlA := diffs_len Ma Mb (ks.take j)
      have hlT : (ks.take j).length ≤ 1 := by rw [List.length_take]; omega
      have HTop : Hid (∀ i, i ≤ 4096 → (∀ a ∈ diffs Ma Mb (ks.take j) ++ diffsIn Ma Mb (ks.getD j 0) i, a < 4096004096) ∧ (spans (diffs Ma Mb (ks.take j) ++ diffsIn Ma Mb (ks.getD j 0) i)).length < 10000) := fun i hi => by
        constructor
        · intro a ha
          rcases List.mem_append.1 ha with ha | ha
          · have h1 := ((diffs_mem Ma Mb _ a).1 ha).1
            have h2 := E.out.2.2.2.2 _ (List.mem_of_mem_take h1)
            omega
          · obtain ⟨q, hq, _, rfl⟩ := (diffsIn_mem Ma Mb _ _ a).1 ha
            omega
        · have h1 := spans_len (diffs Ma Mb (ks.take j) ++ diffsIn Ma Mb (ks.getD j 0) i)
          have h2 := diffsIn_len Ma Mb (ks.getD j 0) i
          rw [List.length_append] at h1
          omega
      have HAll : Hid (∀ i, i ≤ 4096 → ∃ C, diffs Ma Mb ks = diffs Ma Mb (ks.take j) ++ diffsIn Ma Mb (ks.getD j 0) i ++ C) := fun i hi => all_split Ma Mb ks j i _ htk hi
      clear htk hsc hkp hgk hcur hmem
      generalize ks.getD j 0 = k at *
      have hki : (k : Int) < 1000000 := by omega
      go_wp2_with fail
      refine (look_far (A0.out.below SC.out.below) k (by omega)).mono ?_
      rintro e w2 ⟨pb, rfl, hpp, hb2, hfar⟩
      have S2 : Hid (Scan w w2 _ (diffs Ma Mb (ks.take j)) most) := SC.out.later hb2
      have G2 : Hid (Kept w2 _ gk (.cells cur 23 (0, 0))) := K0.out.below hb2
      have P2 : Hid (Kept w2 (.slice ao (spans (diffs Ma Mb (ks.take j))).length co) pb (.cells (pageRow (fun i => Ma (k * 4096 + i))) 96 (0, 0))) := ⟨hpp, no_own w wr _ _ SC.out.span pb (hfar.imp (fun h => A0.out.lt pb h) id)⟩
      clear hpp hb2 hfar
      go_wp2_with fail
      refine (look_far (B0.out.below S2.out.below) k (by omega)).mono ?_
      rintro e w3 ⟨qb, rfl, hqq, hb3, hfar⟩
      have S3 : Hid (Scan w w3 _ (diffs Ma Mb (ks.take j)) most) := S2.out.later hb3
      have G3 : Hid (Kept w3 _ gk (.cells cur 23 (0, 0))) := G2.out.below hb3
      have P3 : Hid (Kept w3 _ pb (.cells (pageRow (fun i => Ma (k * 4096 + i))) 96 (0, 0))) := P2.out.below hb3
      have Q3 : Hid (Kept w3 (.slice ao (spans (diffs Ma Mb (ks.take j))).length co) qb (.cells (pageRow (fun i => Mb (k * 4096 + i))) 96 (0, 0))) := ⟨hqq, no_own w w2 _ _ S2.out.span qb (hfar.imp (fun h => B0.out.lt qb h) id)⟩
      clear hqq hb3 hfar S2 G2 P2 SC K0 hcj
      go_wp2
      go_loopw [7, 36] (fun v iv wq => ∃ i : Nat, i ≤ 4096 ∧ iv = .int .i64 i ∧ Scan w wq v (diffs Ma Mb (ks.take j) ++ diffsIn Ma Mb k i) most ∧ Kept wq v gk (.cells cur 23 (0, 0)) ∧ Kept wq v pb (.cells (pageRow (fun i => Ma (k * 4096 + i))) 96 (0, 0)) ∧ Kept wq v qb (.cells (pageRow (fun i => Mb (k * 4096 + i))) 96 (0, 0))) (fun _ iv _ => 4096 - (intOf iv).toNat)
      case atStart => exact ⟨0, by omega, rfl, by rw [diffsIn_zero, List.append_nil]; exact S3.out, G3.out, P3.out, Q3.out⟩
      case round =>
        obtain ⟨i, hi, rfl, hsc, hg, hp, hq⟩ := hrel
        clear S3 G3 P3 Q3
        obtain ⟨ao, co, rfl⟩ := hsc.span.form
        have X : Hid (_ ∧ _ ∧ _ ∧ _) := ⟨hsc, hg, hp, hq⟩
        clear hsc hg hp hq
        by_cases hi4 : i < 4096
        · have hii : (i : Int) < 4096 := by omega
          have cp := page_cell X.out.2.2.1.1 i hi4
          have cq := page_cell X.out.2.2.2.1 i hi4
          by_cases heq : Ma (k * 4096 + i) = Mb (k * 4096 + i)
          · have hbe : (((Ma (k * 4096 + i) : Nat) : Int) == ((Mb (k * 4096 + i) : Nat) : Int)) = true := by rw [heq]; simp
            have HQ : Hid _ := heq
            clear heq
            generalize ((Ma (k * 4096 + i) : Nat) : Int) = xa at *
            generalize ((Mb (k * 4096 + i) : Nat) : Int) = xb at *
            go_wp2
            go_quiet (fail)
            go_wp2
            go_roundw
            case rel => exact ⟨i + 1, by omega, by go_num, by rw [diffsIn_same _ _ _ _ HQ.out]; exact X.out.1.later (below_drewN (Below.refl _ _) _), X.out.2.1.drewN _, X.out.2.2.1.drewN _, X.out.2.2.2.drewN _⟩
            case measure => simp [intOf]; omega
          · have hbe : (((Ma (k * 4096 + i) : Nat) : Int) == ((Mb (k * 4096 + i) : Nat) : Int)) = false := by simp; omega
            have HQ : Hid _ := heq
            clear heq
            generalize ((Ma (k * 4096 + i) : Nat) : Int) = xa at *
            generalize ((Mb (k * 4096 + i) : Nat) : Int) = xb at *
            go_wp2
            go_quiet (fail)
            go_wp2_with fail
            have Y : Hid (Scan w (wr.drewN nq) (.slice ao (spans (diffs Ma Mb (ks.take j) ++ diffsIn Ma Mb k i)).length co) (diffs Ma Mb (ks.take j) ++ diffsIn Ma Mb k i) most) := X.out.1.later (below_drewN (Below.refl _ _) _)
            refine (stretch_i Y.out.span _ (k * 4096 + i) (by omega) (by omega) (HTop.out i hi).2 Y.out.below.size (fun p hp => by have := spans_top _ 4096004096 (HTop.out i hi).1 p hp; omega)).mono ?_
            rintro e w4 ⟨v', rfl, hst⟩
            have hsp : SpanIn w.heap.size w4 v' (spans (diffs Ma Mb (ks.take j) ++ diffsIn Ma Mb k (i + 1))) := by
              rw [diffsIn_new _ _ _ _ HQ.out, ← List.append_assoc, spans_snoc]; exact hst.1
            have hbl : Below w.heap.size w w4 := Below.grown Y.out.below hst.2.1 Y.out.below.size (fun g hg => (Y.out.span.lt g hg).1)
            have hk3 := (X.out.2.1.drewN nq).stretched hst
            have hk4 := (X.out.2.2.1.drewN nq).stretched hst
            have hk5 := (X.out.2.2.2.drewN nq).stretched hst
            have hln := (stretchL_len (spans (diffs Ma Mb (ks.take j) ++ diffsIn Ma Mb k i)) (k * 4096 + i))
            have hle : (stretchL (spans (diffs Ma Mb (ks.take j) ++ diffsIn Ma Mb k i)) (k * 4096 + i)).length = (spans (diffs Ma Mb (ks.take j) ++ diffsIn Ma Mb k (i + 1))).length := by
              rw [diffsIn_new _ _ _ _ HQ.out, ← List.append_assoc, spans_snoc]
            clear hki hkb hp1 hp2 hna hnb hlA hlT
            by_cases hmo : ((spans (diffs Ma Mb (ks.take j) ++ diffsIn Ma Mb k (i + 1))).length : Int) ≤ most
            · obtain ⟨ao', co', rfl⟩ := hsp.form
              have Z : Hid (_ ∧ _ ∧ _ ∧ _) := ⟨(⟨hsp, hbl, hmo⟩ : Scan w w4 _ _ most), hk3, hk4, hk5⟩
              clear hst hsp hbl hk3 hk4 hk5 hln hle
              go_wp2
              go_roundw
              case rel => exact ⟨i + 1, by omega, by go_num, Z.out⟩
              case measure => simp [intOf]; omega
            · obtain ⟨g', c', rfl, _⟩ := hsp.cells (by omega)
              have hroom := hsp.room
              obtain ⟨m, rfl⟩ : ∃ m : Nat, most = m := ⟨most.toNat, by omega⟩
              have Z : Hid (_ ∧ _) := ⟨hsp, hbl⟩
              have HL : Hid (m < (spans (diffs Ma Mb (ks.take j) ++ diffsIn Ma Mb k (i + 1))).length) := by
                show m < _
                omega
              have hm1 : (m : Int) ≤ (c' : Int) := by omega
              have hm2 : (m : Int) ≤ ((spans (diffs Ma Mb (ks.take j) ++ diffsIn Ma Mb k (i + 1))).length : Int) := by omega
              clear hst hsp hbl hk3 hk4 hk5 hln hle hmo
              generalize hSL : (spans (diffs Ma Mb (ks.take j) ++ diffsIn Ma Mb k (i + 1))).length = sl at *
              have HSL : Hid _ := hSL
              clear hSL
              have hmd : decide ((m : Int) < (sl : Int)) = true := by have := HL.out; simp; omega
              go_wp2
              go_ret
              obtain ⟨C, hC⟩ := HAll.out (i + 1) (by omega)
              refine ⟨_, diffs Ma Mb ks, rfl, diffs_rise Ma Mb ks E.out.2.1, HM.out, ?_, Z.out.2⟩
              rw [Int.toNat_natCast, hC, spans_take _ C m (by rw [HSL.out]; exact HL.out)]
              exact Z.out.1.cut m (by rw [HSL.out]; exact Nat.le_of_lt HL.out)
        · obtain rfl : i = 4096 := by omega
          go_wp2
          go_roundw
          case rel => exact ⟨j + 1, by omega, by go_num, by rw [HTK.out, diffs_snoc]; exact X.out.1, fun g o h1 h2 => by cases h2; rw [HGK.out] at h1; cases h1; exact X.out.2.1⟩
          case measure => simp [intOf]; omega
    · obtain rfl : j = ks.length := by omega
      obtain ⟨ao, co, rfl⟩ := hsc.span.form
      have X : Hid _ := hsc
      clear hsc hkp
      go_wp2
      go_ret
      refine ⟨_, diffs Ma Mb ks, rfl, diffs_rise Ma Mb ks E.out.2.1, HM.out, ?_, X.out.below⟩
      have h1 := X.out.span
      have h2 := X.out.few
      rw [List.take_length] at h1 h2
      rw [show (spans (diffs Ma Mb ks)).take most.toNat = spans (diffs Ma Mb ks) from List.take_of_length_le (by omega), List.take_length]
      exact h1
/-- the numbers of the pages that differ, rising -/
theorem pages_rise {Ma Mb : Nat → Nat} (p1 p2 : Nat) (hS : ∀ k, Apart Ma Mb k → k = p1 ∨ k = p2) : ∃ ks : List Nat, ks.Pairwise (· < ·) ∧ ∀ k, k ∈ ks ↔ Apart Ma Mb k := by
  by_cases h1 : Apart Ma Mb p1 <;> by_cases h2 : Apart Ma Mb p2
  · rcases Nat.lt_trichotomy p1 p2 with h | h | h
    · exact ⟨[p1, p2], by simp [h], fun k => by simp; exact ⟨fun e => by rcases e with rfl | rfl <;> assumption, hS k⟩⟩
    · subst h; exact ⟨[p1], by simp, fun k => by simp; exact ⟨fun e => by subst e; exact h1, fun e => by have := hS k e; omega⟩⟩
    · exact ⟨[p2, p1], by simp [h], fun k => by simp; exact ⟨fun e => by rcases e with rfl | rfl <;> assumption, fun e => (hS k e).symm⟩⟩
  · exact ⟨[p1], by simp, fun k => by simp; exact ⟨fun e => by subst e; exact h1, fun e => by rcases hS k e with rfl | rfl; rfl; exact absurd e h2⟩⟩
  · exact ⟨[p2], by simp, fun k => by simp; exact ⟨fun e => by subst e; exact h2, fun e => by rcases hS k e with rfl | rfl; exact absurd e h1; rfl⟩⟩
  · exact ⟨[], by simp, fun k => by simp; exact fun e => by rcases hS k e with rfl | rfl; exact h1 e; exact h2 e⟩
theorem addresses_rise {Ma Mb : Nat → Nat} (p1 p2 : Nat) (hS : ∀ k, Apart Ma Mb k → k = p1 ∨ k = p2) : ∃ A : List Nat, A.Pairwise (· < ·) ∧ ∀ x, x ∈ A ↔ Ma x ≠ Mb x := by
  obtain ⟨ks, h1, h2⟩ := pages_rise p1 p2 hS
  refine ⟨diffs Ma Mb ks, diffs_rise Ma Mb ks h1, fun x => ?_⟩
  rw [diffs_mem, h2]
  refine ⟨fun h => h.2, fun h => ⟨⟨x % 4096, Nat.mod_lt _ (by decide), ?_⟩, h⟩⟩
  rw [show x / 4096 * 4096 + x % 4096 = x from by omega]; exact h
set_option maxRecDepth 100000 in
set_option maxHeartbeats 1000000 in
theorem differ_none {w : World} {Fa Fb : Nat → Prop} {ra rb size na nb : Nat} {lga lgb : Value} {Ma Mb : Nat → Nat} (ha : RamAt w Fa ra size na lga Ma) (hb : RamAt w Fb rb size nb lgb Mb) (most : Int) (hm : most < 1) :
    Calls Tryz.prog 14 #[.pointer (some ⟨ra, 0, none⟩), .pointer (some ⟨rb, 0, none⟩), .int .i64 most] w fun e w' => e = .returned (.slice none 0 0) ∧ w' = w := by
  have A0 : Hid (RamAt w Fa ra size na lga Ma) := ha
  have B0 : Hid (RamAt w Fb rb size nb lgb Mb) := hb
  clear ha hb
  have hmb : decide (most < 1) = true := by simp; omega
  go_enter Tryz.func14, Tryz.ntmps14
  go_wp2_with fail
  refine (size_any A0.out).mono ?_
  rintro e w' ⟨rfl, hw⟩
  rw [hw]
  clear hw
  go_wp2_with fail
  refine (size_any B0.out).mono ?_
  rintro e w' ⟨rfl, hw⟩
  rw [hw]
  clear hw
  go_wp2
  go_ret
  exact ⟨rfl, rfl⟩
/-- where two memories of one size differ, piece by piece -/
theorem differ_any {w : World} {Fa Fb : Nat → Prop} {ra rb size na nb : Nat} {lga lgb : Value} {Ma Mb : Nat → Nat} (ha : RamAt w Fa ra size na lga Ma) (hb : RamAt w Fb rb size nb lgb Mb) (hs : 0 < size) (hna : na ≤ 1000000) (hnb : nb ≤ 1000000) (p1 p2 : Nat) (hp1 : p1 < 1000000) (hp2 : p2 < 1000000) (hS : ∀ k, Apart Ma Mb k → k = p1 ∨ k = p2) (most : Int) (A : List Nat) (hA : A.Pairwise (· < ·)) (hM : ∀ x, x ∈ A ↔ Ma x ≠ Mb x) :
    Calls Tryz.prog 14 #[.pointer (some ⟨ra, 0, none⟩), .pointer (some ⟨rb, 0, none⟩), .int .i64 most] w fun e w' => ∃ v, e = .returned v ∧ SpanIn w.heap.size w' v ((spans A).take most.toNat) ∧ Below w.heap.size w w' := by
  by_cases hm : 1 ≤ most
  · refine (differ_some ha hb hs hna hnb p1 p2 hp1 hp2 hS most hm).mono ?_
    rintro e w' ⟨v, A', rfl, h1, h2, h3, h4⟩
    obtain rfl := rise_one A A' hA h1 (fun x => by rw [hM, h2])
    exact ⟨v, rfl, h3, h4⟩
  · refine (differ_none ha hb most (by omega)).mono ?_
    rintro e w' ⟨rfl, rfl⟩
    rw [show most.toNat = 0 from by omega]
    exact ⟨_, rfl, ⟨rfl, .inl ⟨rfl, rfl⟩⟩, Below.refl _ _⟩
end Go.Proofs.YtmjdnocilbnoaaaGreat

/- The document's call Touched of layer 2: the addresses that were written, rising. -/
namespace Go.Proofs.YtmjdnocilbnoaaaGreat
open Go.RowKit Go.Maps
set_option linter.unusedVariables false
set_option linter.unusedSimpArgs false
theorem insert_rise (ks : List Nat) (n x : Nat) (h : ks.Pairwise (· < ·)) (h1 : ∀ a ∈ ks.take n, a < x) (h2 : ∀ a ∈ ks.drop n, x < a) : (ks.take n ++ [x] ++ ks.drop n).Pairwise (· < ·) := by
  rw [List.append_assoc, List.pairwise_append]
  refine ⟨h.sublist (List.take_sublist _ _), ?_, fun a ha b hb => ?_⟩
  · rw [List.singleton_append, List.pairwise_cons]
    exact ⟨h2, h.sublist (List.drop_sublist _ _)⟩
  · rcases List.mem_append.1 hb with hb | hb
    · simp at hb; subst hb; exact h1 a ha
    · have := h1 a ha; have := h2 b hb; omega
theorem insert_mem (ks : List Nat) (n x y : Nat) : y ∈ ks.take n ++ [x] ++ ks.drop n ↔ y ∈ ks ∨ y = x := by
  have e : y ∈ ks ↔ y ∈ ks.take n ∨ y ∈ ks.drop n := by rw [← List.mem_append, List.take_append_drop]
  simp only [List.mem_append, List.mem_singleton, e]
  constructor
  · rintro ((h | h) | h)
    · exact .inl (.inl h)
    · exact .inr h
    · exact .inl (.inr h)
  · rintro ((h | h) | h)
    · exact .inl (.inl h)
    · exact .inr h
    · exact .inl (.inr h)
theorem take_below (ks : List Nat) (n x : Nat) (hn : n ≤ ks.length) (h : ∀ m, m < n → ks.getD m 0 < x) : ∀ a ∈ ks.take n, a < x := by
  intro a ha
  obtain ⟨m, hm, rfl⟩ := List.mem_iff_getElem.1 ha
  simp at hm
  have := h m (by omega)
  rw [List.getD_eq_getElem?_getD, List.getElem?_eq_getElem (by omega)] at this
  simpa using this
theorem drop_above (ks : List Nat) (n x : Nat) (hp : ks.Pairwise (· < ·)) (h : n < ks.length → x < ks.getD n 0) : ∀ a ∈ ks.drop n, x < a := by
  intro a ha
  obtain ⟨m, hm, rfl⟩ := List.mem_iff_getElem.1 ha
  simp at hm
  have h0 := h (by omega)
  rw [List.getD_eq_getElem?_getD, List.getElem?_eq_getElem (by omega)] at h0
  simp at h0
  rw [List.getElem_drop]
  rcases Nat.eq_zero_or_pos m with rfl | hm0
  · simpa using h0
  · have := (List.pairwise_iff_getElem.1 hp) n (n + m) (by omega) (by omega) (by omega)
    omega
/-- a world in which the list of addresses grows -/
structure TouchIn (w wr : World) (c : Array Value) (v : Value) (ks : List Nat) : Prop where
  nums : Nums (w.heap.size + 1) wr v ks
  below : Below w.heap.size w wr
  box : wr.heap[w.heap.size]? = some (.cells c 33 (0, 0))
  rise : ks.Pairwise (· < ·)
theorem TouchIn.later {w wr w' : World} {c : Array Value} {v : Value} {ks : List Nat} (h : TouchIn w wr c v ks) (hb : Below wr.heap.size wr w') : TouchIn w w' c v ks :=
  ⟨h.nums.kept (fun g hg => hb.block g (World.ownsRow.lt h.nums g hg).2), h.below.trans (hb.mono h.below.size), below_box h.box hb, h.rise⟩
theorem nums_cell {B : Nat} {w : World} {av : Option Addr} {cv : Nat} {ks : List Nat} (h : Nums B w (.slice av ks.length cv) ks) (h0 : 0 < ks.length) : ∃ g, av = some ⟨g, 0, none⟩ ∧ ∀ j, j < ks.length → w.cell? ⟨g, j, none⟩ = some (.int .u64 (ks.getD j 0 : Nat)) := by
  obtain ⟨g, cur, h1, h2, h3⟩ := nums_block h h0
  exact ⟨g, h1, fun j hj => by simp only [World.cell?, h2]; exact h3 j hj⟩
theorem Nums.cut {B : Nat} {w : World} {g n c : Nat} {ks : List Nat} (h : Nums B w (.slice (some ⟨g, 0, none⟩) n c) ks) (m : Nat) (hm : m ≤ ks.length) : Nums B w (.slice (some ⟨g, 0, none⟩) m c) (ks.take m) := by
  have h0 : (ks.take m).length = m := by simp; omega
  have hl : (numRow (ks.take m)).length = m := by simp [numRow]; omega
  rcases h.2 with ⟨h', _⟩ | ⟨g', cap', cur, h', hb, hg, hnc, hcm, hcs, htake⟩
  · simp at h'
  · simp only [Value.slice.injEq, Option.some.injEq, Addr.mk.injEq, and_true, true_and] at h'
    obtain ⟨rfl, h2, rfl⟩ := h'
    refine ⟨?_, .inr ⟨g, c, cur, by rw [h0], hb, hg, ?_, hcm, hcs, ?_⟩⟩
    · rw [h0, hl]; omega
    · rw [h0]; omega
    · have e : numRow (ks.take m) = (numRow ks).take m := by simp [numRow, List.map_take]
      rw [h0, e, ← htake, List.take_take, Nat.mul_one, Nat.min_eq_left (by omega)]
theorem Nums.room {B : Nat} {w : World} {g n c : Nat} {ks : List Nat} (h : Nums B w (.slice (some ⟨g, 0, none⟩) n c) ks) : n ≤ c := by
  rcases h.2 with ⟨h', _⟩ | ⟨g', cap', cur, h', hb, hg, hnc, hcm, hcs, htake⟩
  · simp at h'
  · simp only [Value.slice.injEq, Option.some.injEq, Addr.mk.injEq, and_true, true_and] at h'
    obtain ⟨rfl, h2, rfl⟩ := h'
    omega
theorem drop_cells {w : World} {g : Nat} {ks : List Nat} (hc : ∀ j, j < ks.length → w.cell? ⟨g, j, none⟩ = some (.int .u64 (ks.getD j 0 : Nat))) (n : Nat) : ∀ j u, (numRow (ks.drop n))[j]? = some u → w.cell? ((⟨g, n, none⟩ : Addr).add j) = some u := by
  intro j u hu
  rw [addr_add]
  unfold numRow at hu
  rw [List.getElem?_map, List.getElem?_drop] at hu
  by_cases h : n + j < ks.length
  · rw [List.getElem?_eq_getElem h] at hu
    rw [hc _ h, List.getD_eq_getElem?_getD, List.getElem?_eq_getElem h]
    exact hu
  · rw [List.getElem?_eq_none (by omega)] at hu
    cases hu
theorem far7 {w6 w7 : World} {o : Obj} {row : Option Nat} (hgr : (w6.drew.alloc o).grownBy w7 row) (b i : Nat) (v : Value) (h : w6.cell? ⟨b, i, none⟩ = some v) (hne : row ≠ some b) : w7.cell? ⟨b, i, none⟩ = some v := by
  have hlt : b < w6.heap.size := block_lt_of_cell h
  rw [← h]
  refine World.cell?_of_block (a := ⟨b, i, none⟩) ?_
  rw [hgr.block b (by simp; omega) (fun e => hne e.symm)]
  exact heap_alloc_old w6.drew o hlt
theorem numRow_one (ks : List Nat) : ∀ u ∈ numRow ks, u.oneCell' = true := by
  intro u hu
  unfold numRow at hu
  obtain ⟨k, _, rfl⟩ := List.mem_map.1 hu
  rfl
theorem numRow_len (ks : List Nat) : (numRow ks).length = ks.length := by simp [numRow]
theorem touch7 {w w6 w7 : World} {c : Array Value} {ks : List Nat} {g g6 cv c6 n x : Nat} (T : TouchIn w w6 c (.slice (some ⟨g, 0, none⟩) ks.length cv) ks) (N6 : Nums (w.heap.size + 1) w6 (.slice (some ⟨g6, 0, none⟩) (ks.length - n) c6) (ks.drop n)) (hgg : g < g6) (hgr : (w6.drew.alloc (.cells #[.int .u64 (x : Nat)] 23)).grownBy w7 (some g)) :
    Nums (w.heap.size + 1) w7 (.slice (some ⟨g6, 0, none⟩) (ks.length - n) c6) (ks.drop n) ∧ Below w.heap.size w w7 ∧ w7.heap[w.heap.size]? = some (.cells c 33 (0, 0)) ∧ w.heap.size + 1 ≤ w7.heap.size := by
  have hT : TouchIn w (w6.drew.alloc (.cells #[.int .u64 (x : Nat)] 23)) c _ ks := (T.later (below_drewN (Below.refl _ _) 1)).later ((Below.refl _ _).alloc (Nat.le_refl _) _)
  have hg := World.ownsRow.lt T.nums g rfl
  have h6 := World.ownsRow.lt N6 g6 rfl
  have hs := hgr.size
  have hz : (w6.drew.alloc (.cells #[.int .u64 (x : Nat)] 23)).heap.size = w6.heap.size + 1 := by simp
  refine ⟨N6.kept (fun g' hg' => ?_), Below.grown hT.below hgr hT.below.size (fun b hb => by cases hb; omega), (hgr.block w.heap.size (by omega) (by simp only [ne_eq, Option.some.injEq]; omega)).trans hT.box, by omega⟩
  cases hg'
  exact (hgr.block g6 (by omega) (by simp only [ne_eq, Option.some.injEq]; omega)).trans (heap_alloc_old w6.drew _ h6.2)
theorem nums_lies {B : Nat} {w : World} {g c n : Nat} {ks : List Nat} (h : Nums B w (.slice (some ⟨g, 0, none⟩) n c) ks) (hn : n = ks.length) (h0 : 0 < n) : ∀ j u, (numRow ks)[j]? = some u → w.cell? ((⟨g, 0, none⟩ : Addr).add j) = some u := by
  subst hn
  obtain ⟨g', e', h'⟩ := nums_cell h h0
  cases e'
  have := drop_cells h' 0
  rw [List.drop_zero] at this
  exact this
theorem touch8 {w w7 w8 : World} {c : Array Value} {ks : List Nat} {g7 g8 c8 n x m : Nat} (hn : n ≤ ks.length) (hm : m = ks.length + 1) (hp : ks.Pairwise (· < ·)) (h1 : ∀ a ∈ ks.take n, a < x) (h2 : ∀ a ∈ ks.drop n, x < a) (hb : Below w.heap.size w w7) (hx : w7.heap[w.heap.size]? = some (.cells c 33 (0, 0))) (h7 : w.heap.size + 1 ≤ g7) (hgr : w7.grownBy w8 (some g7)) (hown : w8.ownsRow (w.heap.size + 1) 23 1 (.slice (some ⟨g8, 0, none⟩) m c8) m (numRow (ks.take n) ++ [.int .u64 (x : Nat)] ++ numRow (ks.drop n))) :
    TouchIn w w8 c (.slice (some ⟨g8, 0, none⟩) m c8) (ks.take n ++ [x] ++ ks.drop n) := by
  refine ⟨?_, Below.grown hb hgr hb.size (fun b hb => by cases hb; omega), (hgr.block w.heap.size (Array.getElem?_eq_some_iff.1 hx).1 (by simp only [ne_eq, Option.some.injEq]; omega)).trans hx, insert_rise ks n x hp h1 h2⟩
  have e : (ks.take n ++ [x] ++ ks.drop n).length = m := by simp; omega
  have e2 : numRow (ks.take n ++ [x] ++ ks.drop n) = numRow (ks.take n) ++ [.int .u64 (x : Nat)] ++ numRow (ks.drop n) := by simp [numRow]
  unfold Nums
  rw [e, e2]
  exact hown
theorem Nums.low {B B' : Nat} {w : World} {v : Value} {ks : List Nat} (h : Nums B w v ks) (hb : B' ≤ B) : Nums B' w v ks := by
  rcases h with ⟨h1, h2 | ⟨g, cap, cur, h3, h4, h5⟩⟩
  · exact ⟨h1, .inl h2⟩
  · exact ⟨h1, .inr ⟨g, cap, cur, h3, Nat.le_trans hb h4, h5⟩⟩
theorem src82 {w : World} {x : Option Addr} {c : Nat} : Src Tryz.prog 1 103 (.slice x 0 c) 0 [] w := by
  cases x with
  | none => exact Src.ofNil w Tryz.underlying103 c
  | some a => exact Src.ofSlice w Tryz.underlying103 a 0 c [] rfl (by simp) (by simp)
theorem wpList_append_zero {w : World} {ops : Array Oper} {rest : List Oper} {o : Oper} {a : Act} {Q : Exit → Act → World → Prop} (hgd : o.guard = none) (s x : Operand) (ho : o.op = .call { callee := .builtin .append, args := #[s, x], argTypes := #[103, 103] })
    (base : Option Addr) (L c : Nat) (hs : a.eval s = .slice base L c) (hL : L ≤ c) (ax : Option Addr) (cx : Nat) (hx : a.eval x = .slice ax 0 cx)
    (h : wpList Tryz.prog ops Q rest (a.put o.dst (.slice base L c)) w) : wpList Tryz.prog ops Q (o :: rest) a w := by
  obtain ⟨i0, hi, hz0, hz1, hz2⟩ := info_parts Tryz.info23
  refine wpList_plain hgd fun K hK => ?_
  have hrun := run_append_nothing (P := Tryz.prog) w 103 103 o.type 23 i0 Tryz.underlying103 hi base L c hL (.slice ax 0 cx) (by rw [hz1]; exact src82)
  unfold Oper.wp
  simp [execOp, ho, resolve, invoke, builtin, hs, hx, hrun, Result.andThen]
  exact hK _ _ h
theorem touch9 {w w6 w7 : World} {c : Array Value} {v : Value} {ks : List Nat} {g7 c7 x : Nat} {row : Option Nat} (T : TouchIn w w6 c v ks) (hrow : ∀ b, row = some b → w.heap.size + 1 ≤ b) (hgr : (w6.drew.alloc (.cells #[.int .u64 (x : Nat)] 23)).grownBy w7 row) (hown : w7.ownsRow (w.heap.size + 1) 23 1 (.slice (some ⟨g7, 0, none⟩) (ks.length + 1) c7) (ks.length + 1) (numRow ks ++ [Value.int IntKind.u64 ((x : Nat) : Int)])) (h1 : ∀ a ∈ ks, a < x) :
    TouchIn w w7 c (.slice (some ⟨g7, 0, none⟩) (ks.length + 1) c7) (ks ++ [x]) := by
  have hT : TouchIn w (w6.drew.alloc (.cells #[.int .u64 (x : Nat)] 23)) c _ ks := (T.later (below_drewN (Below.refl _ _) 1)).later ((Below.refl _ _).alloc (Nat.le_refl _) _)
  refine ⟨?_, Below.grown hT.below hgr hT.below.size (fun b hb => by have := hrow b hb; omega), (hgr.block w.heap.size (Array.getElem?_eq_some_iff.1 hT.box).1 (fun e => by have := hrow _ e.symm; omega)).trans hT.box, ?_⟩
  · have e2 : numRow (ks ++ [x]) = numRow ks ++ [Value.int IntKind.u64 ((x : Nat) : Int)] := by simp [numRow]
    have e : (ks ++ [x]).length = ks.length + 1 := by simp
    unfold Nums
    rw [e, e2]
    exact hown
  · rw [List.pairwise_append]
    exact ⟨T.rise, by simp, fun a ha b hb => by simp at hb; subst hb; exact h1 a ha⟩
set_option maxRecDepth 100000 in
set_option maxHeartbeats 4000000 in
theorem touched_any {F : Nat → Prop} {w : World} (s : Int) {g0 c0 N : Nat} {bs : Nat → Nat × Nat} (hc : ∀ i, i < N → w.cell? ⟨g0, i * 2, none⟩ = some (.int .u64 ((bs i).1 : Nat))) (hg0 : g0 < w.heap.size) (hN : N ≤ 250000) (hbs : ∀ i, i < N → (bs i).1 < 18446744073709551616) :
    Calls Tryz.prog 40 #[.agg #[.int .u64 s, .slice (some ⟨g0, 0, none⟩) N c0]] w fun e w' => ∃ v ks, e = .returned v ∧ Nums w.heap.size w' v ks ∧ ks.Pairwise (· < ·) ∧ (∀ x, x ∈ ks ↔ ∃ m, m < N ∧ (bs m).1 = x) ∧ Below w.heap.size w w' ∧ ks.length ≤ N := by
  have HC : Hid _ := hc
  have HB : Hid _ := hbs
  clear hc hbs
  have S0 : Hid (TouchIn w (w.alloc (.cells #[.int .u64 s, .slice (some ⟨g0, 0, none⟩) N c0] 33)) #[.int .u64 s, .slice (some ⟨g0, 0, none⟩) N c0] (.slice none 0 0) []) := ⟨⟨rfl, .inl ⟨rfl, rfl⟩⟩, (Below.refl _ _).alloc (Nat.le_refl _) _, heap_alloc_new w _, List.Pairwise.nil⟩
  go_enter Tryz.func40, Tryz.ntmps40
  go_wp2
  go_loopw [3, 4] (fun v iv wr => ∃ (i : Nat) (ks : List Nat), i ≤ N ∧ iv = .int .i64 i ∧ ks.length ≤ i ∧ TouchIn w wr #[.int .u64 s, .slice (some ⟨g0, 0, none⟩) N c0] v ks ∧ ∀ x, x ∈ ks ↔ ∃ m, m < i ∧ (bs m).1 = x) (fun _ iv _ => N - (intOf iv).toNat)
  case atStart => exact ⟨0, [], by omega, rfl, by simp, S0.out, fun x => by simp⟩
  case round =>
    obtain ⟨i, ks, hi, rfl, hkl, hT, hmem⟩ := hrel
    clear S0
    obtain ⟨av, cv, rfl⟩ := hT.nums.form
    have M : Hid _ := hmem
    have HKL : Hid (ks.length ≤ i ∧ i ≤ N ∧ N ≤ 250000) := ⟨hkl, hi, hN⟩
    have b1 : wr.cell? ⟨w.heap.size, 1, none⟩ = some (.slice (some ⟨g0, 0, none⟩) N c0) := by simp only [World.cell?, hT.box]; rfl
    have T : Hid (TouchIn w wr _ (.slice av ks.length cv) ks) := hT
    clear hmem hT
    by_cases hin : i < N
    · have hii : (i : Int) < N := by omega
      have cx : wr.cell? ⟨g0, i * 2, none⟩ = some (.int .u64 ((bs i).1 : Nat)) := by rw [T.out.below.cell (p := ⟨g0, i * 2, none⟩) hg0]; exact HC.out i hin
      have hx := HB.out i hin
      generalize hX : (bs i).1 = x at *
      have HX : Hid _ := hX
      clear hX
      go_wp2
      go_loopw [5] (fun nv wq => ∃ n : Nat, n ≤ ks.length ∧ nv = .int .i64 n ∧ (∀ m, m < n → ks.getD m 0 < x) ∧ ∃ q, wq = wr.drewN q) (fun nv _ => ks.length - (intOf nv).toNat)
      case atStart => exact ⟨0, by omega, rfl, fun m hm => absurd hm (Nat.not_lt_zero _), 0, rfl⟩
      case round =>
        obtain ⟨n, hn, rfl, hlt, q, rfl⟩ := hrel
        have HLT : Hid _ := hlt
        clear hlt
        by_cases hnl : n < ks.length
        · obtain ⟨g, rfl, hcs⟩ := nums_cell T.out.nums (by omega)
          have cn := hcs n hnl
          have hni : (n : Int) < ks.length := by omega
          generalize hK : ks.getD n 0 = kn at *
          have HK : Hid _ := hK
          clear hK hcs
          by_cases hkx : kn < x
          · have hd : decide ((kn : Int) < (x : Int)) = true := by simp; omega
            go_wp2
            go_quiet (fail)
            go_wp2
            go_roundw
            case rel => exact ⟨n + 1, by omega, by go_num, fun m hm => by by_cases h : m < n; exact HLT.out m h; rw [show m = n from by omega, HK.out]; exact hkx, _, rfl⟩
            case measure => simp [intOf]; omega
          · have hd : decide ((kn : Int) < (x : Int)) = false := by simp; omega
            by_cases hkq : kn = x
            · have hq : ((kn : Int) == (x : Int)) = true := by simp; omega
              go_wp2
              go_quiet (fail)
              go_wp2
              go_quiet (fail)
              go_wp2
              go_roundw
              case rel =>
                refine ⟨i + 1, ks, by omega, by go_num, by omega, T.out.later (below_drewN (Below.refl _ _) _), fun y => ?_⟩
                rw [M.out y]
                constructor
                · rintro ⟨m, h1, h2⟩; exact ⟨m, by omega, h2⟩
                · rintro ⟨m, h1, h2⟩
                  by_cases hmi : m < i
                  · exact ⟨m, hmi, h2⟩
                  · obtain rfl : m = i := by omega
                    have hmem : ks.getD n 0 ∈ ks := by rw [List.getD_eq_getElem?_getD, List.getElem?_eq_getElem hnl]; exact List.getElem_mem hnl
                    rw [HK.out, hkq, ← HX.out, h2] at hmem
                    exact (M.out y).1 hmem
              case measure => simp [intOf]; omega
            · have hq : ((kn : Int) == (x : Int)) = false := by simp; omega
              have hcv := T.out.nums.room
              have hcn : ¬ cv = n := by omega
              have hci : (n : Int) ≤ (cv : Int) := by omega
              obtain ⟨i0, hinf, hz0, hz1, hz2⟩ := info_parts Tryz.info23
              go_wp2
              go_quiet (fail)
              generalize q + nq = q1 at *
              go_wp2
              go_quiet (fail)
              have T2 : Hid (TouchIn w (wr.drewN (q1 + nq)) _ (.slice (some ⟨g, 0, none⟩) ks.length cv) ks) := T.out.later (below_drewN (Below.refl _ _) _)
              have T3 : Hid (TouchIn w ((wr.drewN (q1 + nq)).alloc (.cells #[] 23)) _ (.slice (some ⟨g, 0, none⟩) ks.length cv) ks) := T2.out.later ((Below.refl _ _).alloc (Nat.le_refl _) _)
              have H3 : Hid (w.heap.size + 1 ≤ ((wr.drewN (q1 + nq)).alloc (.cells #[] 23)).heap.size) := (Nat.le_trans (World.ownsRow.lt T3.out.nums g rfl).1 (Nat.le_of_lt (World.ownsRow.lt T3.out.nums g rfl).2) : _ ≤ _)
              go_wp2_with (first | (at_builtin; go_must (refine wpList_append_lies _ rfl _ _ 103 rfl (w.heap.size + 1) 23 i0 (.int .u64 0) 1 8 Tryz.underlying103 hinf hz0 hz1 hz2 rfl (by decide) _ 0 [] rfl (World.ownsRow_made (wr.drewN (q1 + nq)) #[] 0 (by have := (World.ownsRow.lt T2.out.nums g rfl); omega) (by unfold maxLen; omega) rfl) ⟨g, n, none⟩ (ks.length - n) (cv - n) (numRow (ks.drop n)) rfl (by rw [numRow_len]; simp) (drop_cells (by obtain ⟨g', e', h'⟩ := nums_cell T3.out.nums (by omega); cases e'; exact h') n) (numRow_one _) (by omega) (by have := HKL.out; unfold maxLen; omega) (by have := HKL.out; omega) (by exact H3.out) _ rfl ?_); intro g6 cap6 w6 hown6 hgr6 hat6 hlt6))
              have hgr : World.grownBy (wr.alloc (.cells #[] 23)) w6 (some wr.heap.size) := ⟨hgr6.os, hgr6.tape, hgr6.output, hgr6.size, hgr6.block⟩
              have hga : g < wr.heap.size := (World.ownsRow.lt T.out.nums g rfl).2
              have hg6 : wr.heap.size ≤ g6 := by
                rcases hat6 with h | h
                · have h' : some wr.heap.size = some g6 := h
                  simp only [Option.some.injEq] at h'
                  omega
                · rw [h]; simp
              have hbw : w.heap.size < wr.heap.size := (Array.getElem?_eq_some_iff.1 T.out.box).1
              have T5 : Hid (TouchIn w (wr.alloc (.cells #[] 23)) #[.int .u64 s, .slice (some ⟨g0, 0, none⟩) N c0] (.slice (some ⟨g, 0, none⟩) ks.length cv) ks) := T.out.later ((Below.refl _ _).alloc (Nat.le_refl _) _)
              have T6 : Hid (TouchIn w w6 #[.int .u64 s, .slice (some ⟨g0, 0, none⟩) N c0] (.slice (some ⟨g, 0, none⟩) ks.length cv) ks) :=
                ⟨T5.out.nums.kept (fun g' hg' => by cases hg'; exact hgr.block g (World.ownsRow.lt T5.out.nums g rfl).2 (by simp only [ne_eq, Option.some.injEq]; omega)), Below.grown T5.out.below hgr T5.out.below.size (fun b hb => by cases hb; exact T.out.below.size), (hgr.block w.heap.size (by have := (Array.getElem?_eq_some_iff.1 T5.out.box).1; exact this) (by simp only [ne_eq, Option.some.injEq]; omega)).trans T5.out.box, T5.out.rise⟩
              have b6 : w6.cell? ⟨w.heap.size, 1, none⟩ = some (.slice (some ⟨g0, 0, none⟩) N c0) := by simp only [World.cell?, T6.out.box]; rfl
              have c6 : w6.cell? ⟨g0, i * 2, none⟩ = some (.int .u64 (x : Nat)) := by rw [T6.out.below.cell (p := ⟨g0, i * 2, none⟩) hg0, HC.out i hin, HX.out]
              have O6 : Hid _ := hown6
              have L6 : Hid _ := hlt6
              have G6 : Hid _ := hg6
              have HGA : Hid (g < g6 ∧ w.heap.size < g6) := ⟨by omega, by omega⟩
              have C6 : Hid (w6.ownsRow (w.heap.size + 1) 23 1 (.slice (some ⟨g, 0, none⟩) n cv) n (numRow (ks.take n))) := by
                have h := T6.out.nums.cut n (by omega)
                unfold Nums at h
                rw [show (ks.take n).length = n from by simp; omega] at h
                exact h
              have HNE : Hid (g ≠ w.heap.size ∧ g ≠ g0 ∧ w.heap.size + 1 ≤ w6.heap.size) := ⟨by have := (World.ownsRow.lt T6.out.nums g rfl).1; omega, by have := (World.ownsRow.lt T6.out.nums g rfl).1; omega, by have := (World.ownsRow.lt T6.out.nums g rfl); omega⟩
              clear hgr6 hat6 hown6 hlt6 hgr hga hg6 hbw H3 T3 T2 T5
              go_region_held_law (fun V => V.cell? ⟨w.heap.size, 1, none⟩ = some (.slice (some ⟨g0, 0, none⟩) N c0) ∧ V.cell? ⟨g0, i * 2, none⟩ = some (.int .u64 (x : Nat))) (go_keep) ((refine step_append_lies _ rfl _ _ 103 rfl (w.heap.size + 1) 23 i0 (.int .u64 0) 1 8 Tryz.underlying103 hinf hz0 hz1 hz2 rfl (by decide) _ n (numRow (ks.take n)) rfl (World.ownsRow.alloc (w := w6.drew) C6.out _) ⟨w6.heap.size, 0, none⟩ 1 1 [.int .u64 (x : Nat)] rfl (by simp) (one_new w6.drew _ _) (by intro u hu; simp at hu; subst hu; rfl) (by omega) (by have := HKL.out; unfold maxLen; omega) (by have := HKL.out; omega) (by have := HNE.out.2.2; simp; omega) _ rfl ?_; intro g7 cap7 w7 hown7 hgr7 hat7 hlt7; have k1 := far7 hgr7 w.heap.size 1 _ b6 (fun e => HNE.out.1 (by cases e; rfl)); have k2 := far7 hgr7 g0 (i * 2) _ c6 (fun e => HNE.out.2.1 (by cases e; rfl))))
              have N6 : Nums (w.heap.size + 1) w6 (.slice (some ⟨g6, 0, none⟩) (ks.length - n) cap6) (ks.drop n) := by
                have h := O6.out
                rw [Nat.zero_add, List.nil_append] at h
                unfold Nums
                rw [List.length_drop]
                exact h
              have A7 := touch7 (x := x) T6.out N6 HGA.out.1 hgr7
              have L7 : Hid (w.heap.size + 1 ≤ g7) := (World.ownsRow.lt hown7 g7 rfl).1
              have O7 : Hid (w7.ownsRow (w.heap.size + 1) 23 1 (.slice (some ⟨g7, 0, none⟩) (n + 1) cap7) (n + 1) (numRow (ks.take n) ++ [Value.int IntKind.u64 ((x : Nat) : Int)])) := hown7
              have N7 : Hid _ := A7.1
              have B7 : Hid _ := A7.2
              clear A7 N6 hgr7 hat7 hown7 hlt7 O6 L6 G6 HGA C6 HNE k1 k2 b6 c6
              go_wp2_with (first | (at_builtin; go_must (refine wpList_append_lies _ rfl _ _ 103 rfl (w.heap.size + 1) 23 i0 (.int .u64 0) 1 8 Tryz.underlying103 hinf hz0 hz1 hz2 rfl (by decide) _ (n + 1) (numRow (ks.take n) ++ [Value.int IntKind.u64 ((x : Nat) : Int)]) rfl O7.out ⟨g6, 0, none⟩ (ks.length - n) cap6 (numRow (ks.drop n)) rfl (by rw [numRow_len]; simp) (nums_lies N7.out (by simp) (by omega)) (numRow_one _) (by omega) (by have := HKL.out; unfold maxLen; omega) (by have := HKL.out; omega) (by exact B7.out.2.2) _ rfl ?_); intro g8 cap8 w8 hown8 hgr8 hat8 hlt8))
              have T8 : Hid (TouchIn w w8 #[.int .u64 s, .slice (some ⟨g0, 0, none⟩) N c0] (.slice (some ⟨g8, 0, none⟩) (n + 1 + (ks.length - n)) cap8) (ks.take n ++ [x] ++ ks.drop n)) := touch8 hn (by omega) T.out.rise (take_below ks n x hn HLT.out) (drop_above ks n x T.out.rise (fun _ => by rw [HK.out]; omega)) B7.out.1 B7.out.2.1 L7.out hgr8 hown8
              clear hgr8 hat8 hown8 hlt8 O7 N7 B7
              go_roundw
              case rel =>
                refine ⟨i + 1, ks.take n ++ [x] ++ ks.drop n, by omega, by go_num, by simp; omega, T8.out.later (below_drewN (Below.refl _ _) 0), fun y => ?_⟩
                rw [insert_mem, M.out y]
                constructor
                · rintro (⟨m, h1, h2⟩ | rfl)
                  · exact ⟨m, by omega, h2⟩
                  · exact ⟨i, by omega, HX.out⟩
                · rintro ⟨m, h1, h2⟩
                  by_cases hmi : m < i
                  · exact .inl ⟨m, hmi, h2⟩
                  · obtain rfl : m = i := by omega
                    exact .inr (h2.symm.trans HX.out)
              case measure => simp [intOf]; omega
        · obtain rfl : n = ks.length := by omega
          have hav : (av = none ∧ ks.length = 0 ∧ cv = 0) ∨ ∃ g, av = some ⟨g, 0, none⟩ := by
            rcases T.out.nums.2 with ⟨h, h0⟩ | ⟨g, cap, cur, h, _⟩
            · simp only [Value.slice.injEq] at h
              exact .inl h
            · simp only [Value.slice.injEq] at h
              exact .inr ⟨g, h.1⟩
          obtain ⟨i0, hinf, hz0, hz1, hz2⟩ := info_parts Tryz.info23
          rcases hav with ⟨rfl, hl0, rfl⟩ | ⟨g, rfl⟩
          · obtain rfl := List.length_eq_zero_iff.1 hl0
            simp only [List.length_nil] at *
            go_wp2
            go_quiet (fail)
            revert nq; intro nq1
            go_wp2
            go_quiet (fail)
            go_wp2_with (first | (at_builtin; go_must (refine wpList_append_zero rfl _ _ rfl _ 0 0 rfl (by omega) _ _ rfl ?_)))
            generalize q + nq1 + nq = q2 at *
            have T6 : Hid (TouchIn w ((wr.drewN q2).alloc (.cells #[] 23)) #[.int .u64 s, .slice (some ⟨g0, 0, none⟩) N c0] (.slice none 0 0) []) := (T.out.later (below_drewN (Below.refl _ _) _)).later ((Below.refl _ _).alloc (Nat.le_refl _) _)
            generalize (wr.drewN q2).alloc (.cells #[] 23) = w6 at *
            have b6 : w6.cell? ⟨w.heap.size, 1, none⟩ = some (.slice (some ⟨g0, 0, none⟩) N c0) := by simp only [World.cell?, T6.out.box]; rfl
            have c6 : w6.cell? ⟨g0, i * 2, none⟩ = some (.int .u64 (x : Nat)) := by rw [T6.out.below.cell (p := ⟨g0, i * 2, none⟩) hg0, HC.out i hin, HX.out]
            have C6 : Hid (w6.ownsRow (w.heap.size + 1) 23 1 (.slice none 0 0) 0 (numRow [])) := T6.out.nums
            have HROW : Hid (∀ b, Value.ownBlock (.slice none 0 0) = some b → w.heap.size + 1 ≤ b) := fun b hb => (World.ownsRow.lt T6.out.nums b hb).1
            have HNE : Hid (w.heap.size + 1 ≤ w6.heap.size) := (Array.getElem?_eq_some_iff.1 T6.out.box).1
            go_region_held_law (fun V => V.cell? ⟨w.heap.size, 1, none⟩ = some (.slice (some ⟨g0, 0, none⟩) N c0) ∧ V.cell? ⟨g0, i * 2, none⟩ = some (.int .u64 (x : Nat))) (go_keep) ((refine step_append_lies _ rfl _ _ 103 rfl (w.heap.size + 1) 23 i0 (.int .u64 0) 1 8 Tryz.underlying103 hinf hz0 hz1 hz2 rfl (by decide) _ 0 (numRow []) rfl (World.ownsRow.alloc (w := w6.drew) C6.out _) ⟨w6.heap.size, 0, none⟩ 1 1 [.int .u64 (x : Nat)] rfl (by simp) (one_new w6.drew _ _) (by intro u hu; simp at hu; subst hu; rfl) (by omega) (by have := HKL.out; unfold maxLen; omega) (by have := HKL.out; omega) (by have := HNE.out; simp; omega) _ rfl ?_; intro g7 cap7 w7 hown7 hgr7 hat7 hlt7; have k1 := far7 hgr7 w.heap.size 1 _ b6 (fun e => by have := HROW.out _ e; omega); have k2 := far7 hgr7 g0 (i * 2) _ c6 (fun e => by have := HROW.out _ e; omega)))
            have T9 : Hid (TouchIn w w7 #[.int .u64 s, .slice (some ⟨g0, 0, none⟩) N c0] (.slice (some ⟨g7, 0, none⟩) (0 + 1) cap7) ([] ++ [x])) := touch9 T6.out HROW.out hgr7 hown7 (by have := take_below [] _ x (Nat.le_refl _) HLT.out; simp)
            have hr7 : 0 + 1 ≤ cap7 := T9.out.nums.room
            clear hgr7 hat7 hown7 hlt7 HROW HNE C6 k1 k2 b6 c6
            go_wp2_with (first | (at_builtin; go_must (refine wpList_append_zero rfl _ _ rfl _ (0 + 1) cap7 rfl (by omega) _ _ rfl ?_)))
            go_roundw
            case rel =>
              refine ⟨i + 1, [] ++ [x], by omega, by go_num, by simp, T9.out, fun y => ?_⟩
              rw [List.mem_append, List.mem_singleton, M.out y]
              constructor
              · rintro (⟨m, h1, h2⟩ | rfl)
                · exact ⟨m, by omega, h2⟩
                · exact ⟨i, by omega, HX.out⟩
              · rintro ⟨m, h1, h2⟩
                by_cases hmi : m < i
                · exact .inl ⟨m, hmi, h2⟩
                · obtain rfl : m = i := by omega
                  exact .inr (h2.symm.trans HX.out)
            case measure => simp [intOf]; omega
          · have hcv := T.out.nums.room
            have hci : (ks.length : Int) ≤ (cv : Int) := by omega
            go_wp2
            go_quiet (fail)
            revert nq; intro nq1
            go_wp2
            go_quiet (fail)
            by_cases hcn : cv = ks.length
            · subst hcn
              go_wp2_with (first | (at_builtin; go_must (refine wpList_append_zero rfl _ _ rfl _ 0 0 rfl (by omega) _ _ rfl ?_)))
              generalize q + nq1 + nq = q2 at *
              have T6 : Hid (TouchIn w ((wr.drewN q2).alloc (.cells #[] 23)) #[.int .u64 s, .slice (some ⟨g0, 0, none⟩) N c0] (.slice (some ⟨g, 0, none⟩) ks.length ks.length) ks) := (T.out.later (below_drewN (Below.refl _ _) _)).later ((Below.refl _ _).alloc (Nat.le_refl _) _)
              generalize (wr.drewN q2).alloc (.cells #[] 23) = w6 at *
              have b6 : w6.cell? ⟨w.heap.size, 1, none⟩ = some (.slice (some ⟨g0, 0, none⟩) N c0) := by simp only [World.cell?, T6.out.box]; rfl
              have c6 : w6.cell? ⟨g0, i * 2, none⟩ = some (.int .u64 (x : Nat)) := by rw [T6.out.below.cell (p := ⟨g0, i * 2, none⟩) hg0, HC.out i hin, HX.out]
              have C6 : Hid (w6.ownsRow (w.heap.size + 1) 23 1 (.slice (some ⟨g, 0, none⟩) ks.length ks.length) ks.length (numRow ks)) := T6.out.nums
              have HROW : Hid (∀ b, Value.ownBlock (.slice (some ⟨g, 0, none⟩) ks.length ks.length) = some b → w.heap.size + 1 ≤ b) := fun b hb => (World.ownsRow.lt T6.out.nums b hb).1
              have HNE : Hid (w.heap.size + 1 ≤ w6.heap.size) := (Array.getElem?_eq_some_iff.1 T6.out.box).1
              go_region_held_law (fun V => V.cell? ⟨w.heap.size, 1, none⟩ = some (.slice (some ⟨g0, 0, none⟩) N c0) ∧ V.cell? ⟨g0, i * 2, none⟩ = some (.int .u64 (x : Nat))) (go_keep) ((refine step_append_lies _ rfl _ _ 103 rfl (w.heap.size + 1) 23 i0 (.int .u64 0) 1 8 Tryz.underlying103 hinf hz0 hz1 hz2 rfl (by decide) _ ks.length (numRow ks) rfl (World.ownsRow.alloc (w := w6.drew) C6.out _) ⟨w6.heap.size, 0, none⟩ 1 1 [.int .u64 (x : Nat)] rfl (by simp) (one_new w6.drew _ _) (by intro u hu; simp at hu; subst hu; rfl) (by omega) (by have := HKL.out; unfold maxLen; omega) (by have := HKL.out; omega) (by have := HNE.out; simp; omega) _ rfl ?_; intro g7 cap7 w7 hown7 hgr7 hat7 hlt7; have k1 := far7 hgr7 w.heap.size 1 _ b6 (fun e => by have := HROW.out _ e; omega); have k2 := far7 hgr7 g0 (i * 2) _ c6 (fun e => by have := HROW.out _ e; omega)))
              have T9 : Hid (TouchIn w w7 #[.int .u64 s, .slice (some ⟨g0, 0, none⟩) N c0] (.slice (some ⟨g7, 0, none⟩) (ks.length + 1) cap7) (ks ++ [x])) := touch9 T6.out HROW.out hgr7 hown7 (by have := take_below ks _ x (Nat.le_refl _) HLT.out; rwa [List.take_length] at this)
              have hr7 : ks.length + 1 ≤ cap7 := T9.out.nums.room
              clear hgr7 hat7 hown7 hlt7 HROW HNE C6 k1 k2 b6 c6
              go_wp2_with (first | (at_builtin; go_must (refine wpList_append_zero rfl _ _ rfl _ (ks.length + 1) cap7 rfl (by omega) _ _ rfl ?_)))
              go_roundw
              case rel =>
                refine ⟨i + 1, ks ++ [x], by omega, by go_num, by simp; omega, T9.out, fun y => ?_⟩
                rw [List.mem_append, List.mem_singleton, M.out y]
                constructor
                · rintro (⟨m, h1, h2⟩ | rfl)
                  · exact ⟨m, by omega, h2⟩
                  · exact ⟨i, by omega, HX.out⟩
                · rintro ⟨m, h1, h2⟩
                  by_cases hmi : m < i
                  · exact .inl ⟨m, hmi, h2⟩
                  · obtain rfl : m = i := by omega
                    exact .inr (h2.symm.trans HX.out)
              case measure => simp [intOf]; omega
            · go_wp2_with (first | (at_builtin; go_must (refine wpList_append_zero rfl _ _ rfl _ 0 0 rfl (by omega) _ _ rfl ?_)))
              generalize q + nq1 + nq = q2 at *
              have T6 : Hid (TouchIn w ((wr.drewN q2).alloc (.cells #[] 23)) #[.int .u64 s, .slice (some ⟨g0, 0, none⟩) N c0] (.slice (some ⟨g, 0, none⟩) ks.length cv) ks) := (T.out.later (below_drewN (Below.refl _ _) _)).later ((Below.refl _ _).alloc (Nat.le_refl _) _)
              generalize (wr.drewN q2).alloc (.cells #[] 23) = w6 at *
              have b6 : w6.cell? ⟨w.heap.size, 1, none⟩ = some (.slice (some ⟨g0, 0, none⟩) N c0) := by simp only [World.cell?, T6.out.box]; rfl
              have c6 : w6.cell? ⟨g0, i * 2, none⟩ = some (.int .u64 (x : Nat)) := by rw [T6.out.below.cell (p := ⟨g0, i * 2, none⟩) hg0, HC.out i hin, HX.out]
              have C6 : Hid (w6.ownsRow (w.heap.size + 1) 23 1 (.slice (some ⟨g, 0, none⟩) ks.length cv) ks.length (numRow ks)) := T6.out.nums
              have HROW : Hid (∀ b, Value.ownBlock (.slice (some ⟨g, 0, none⟩) ks.length cv) = some b → w.heap.size + 1 ≤ b) := fun b hb => (World.ownsRow.lt T6.out.nums b hb).1
              have HNE : Hid (w.heap.size + 1 ≤ w6.heap.size) := (Array.getElem?_eq_some_iff.1 T6.out.box).1
              go_region_held_law (fun V => V.cell? ⟨w.heap.size, 1, none⟩ = some (.slice (some ⟨g0, 0, none⟩) N c0) ∧ V.cell? ⟨g0, i * 2, none⟩ = some (.int .u64 (x : Nat))) (go_keep) ((refine step_append_lies _ rfl _ _ 103 rfl (w.heap.size + 1) 23 i0 (.int .u64 0) 1 8 Tryz.underlying103 hinf hz0 hz1 hz2 rfl (by decide) _ ks.length (numRow ks) rfl (World.ownsRow.alloc (w := w6.drew) C6.out _) ⟨w6.heap.size, 0, none⟩ 1 1 [.int .u64 (x : Nat)] rfl (by simp) (one_new w6.drew _ _) (by intro u hu; simp at hu; subst hu; rfl) (by omega) (by have := HKL.out; unfold maxLen; omega) (by have := HKL.out; omega) (by have := HNE.out; simp; omega) _ rfl ?_; intro g7 cap7 w7 hown7 hgr7 hat7 hlt7; have k1 := far7 hgr7 w.heap.size 1 _ b6 (fun e => by have := HROW.out _ e; omega); have k2 := far7 hgr7 g0 (i * 2) _ c6 (fun e => by have := HROW.out _ e; omega)))
              have T9 : Hid (TouchIn w w7 #[.int .u64 s, .slice (some ⟨g0, 0, none⟩) N c0] (.slice (some ⟨g7, 0, none⟩) (ks.length + 1) cap7) (ks ++ [x])) := touch9 T6.out HROW.out hgr7 hown7 (by have := take_below ks _ x (Nat.le_refl _) HLT.out; rwa [List.take_length] at this)
              have hr7 : ks.length + 1 ≤ cap7 := T9.out.nums.room
              clear hgr7 hat7 hown7 hlt7 HROW HNE C6 k1 k2 b6 c6
              go_wp2_with (first | (at_builtin; go_must (refine wpList_append_zero rfl _ _ rfl _ (ks.length + 1) cap7 rfl (by omega) _ _ rfl ?_)))
              go_roundw
              case rel =>
                refine ⟨i + 1, ks ++ [x], by omega, by go_num, by simp; omega, T9.out, fun y => ?_⟩
                rw [List.mem_append, List.mem_singleton, M.out y]
                constructor
                · rintro (⟨m, h1, h2⟩ | rfl)
                  · exact ⟨m, by omega, h2⟩
                  · exact ⟨i, by omega, HX.out⟩
                · rintro ⟨m, h1, h2⟩
                  by_cases hmi : m < i
                  · exact .inl ⟨m, hmi, h2⟩
                  · obtain rfl : m = i := by omega
                    exact .inr (h2.symm.trans HX.out)
              case measure => simp [intOf]; omega
    · obtain rfl : i = N := by omega
      go_wp2
      go_ret
      exact ⟨_, ks, rfl, T.out.nums.low (Nat.le_succ _), T.out.rise, M.out, T.out.below, HKL.out.1⟩
end Go.Proofs.YtmjdnocilbnoaaaGreat

/- The document's call Differ of layer 2. -/
namespace Go.Proofs.YtmjdnocilbnoaaaGreat
open Go.RowKit Go.Maps
set_option linter.unusedVariables false
set_option linter.unusedSimpArgs false
theorem spans_stop (A C : List Nat) (x : Nat) (most : Int) (h1 : stretchL (spans A) x = spans A ++ [(x, 1)]) (h2 : most ≤ ((spans A).length : Nat)) (h3 : ((spans A).length : Int) ≤ most ∨ (spans A).length = 0) : (spans (A ++ [x] ++ C)).take most.toNat = spans A := by
  have e : most.toNat = (spans A).length := by omega
  rw [e, spans_take (A ++ [x]) C _ (by rw [spans_snoc, h1]; simp), spans_snoc, h1]
  simp
theorem filter_take (p : Nat → Bool) (ks : List Nat) (i : Nat) (h : i < ks.length) : (ks.take (i + 1)).filter p = (ks.take i).filter p ++ if p (ks.getD i 0) then [ks.getD i 0] else [] := by
  have e : ks.take (i + 1) = ks.take i ++ [ks.getD i 0] := by
    rw [List.take_add_one, List.getD_eq_getElem?_getD, List.getElem?_eq_getElem h]; rfl
  rw [e, List.filter_append]
  congr 1
  generalize ks.getD i 0 = y
  by_cases hp : p y = true <;> simp [hp]
theorem filter_split (p : Nat → Bool) (ks : List Nat) (i : Nat) : ks.filter p = (ks.take i).filter p ++ (ks.drop i).filter p := by
  rw [← List.filter_append, List.take_append_drop]
/-- bytes with their addresses, as cells -/
def byteRow (bs : Nat → Nat × Nat) : Nat → List Value
  | 0 => []
  | n + 1 => byteRow bs n ++ [.int .u64 ((bs n).1 : Nat), .int .u8 ((bs n).2 : Nat)]
theorem byteRow_len (bs : Nat → Nat × Nat) : ∀ n, (byteRow bs n).length = n * 2
  | 0 => rfl
  | n + 1 => by simp [byteRow, byteRow_len bs n]; omega
theorem byteRow_one (bs : Nat → Nat × Nat) : ∀ n, ∀ u ∈ byteRow bs n, u.oneCell' = true
  | 0 => by simp [byteRow]
  | n + 1 => by
    intro u hu
    simp only [byteRow, List.mem_append, List.mem_cons, List.not_mem_nil, or_false] at hu
    rcases hu with hu | rfl | rfl
    · exact byteRow_one bs n u hu
    · rfl
    · rfl
/-- the first n of the one, then the other -/
def glue (bs : Nat → Nat × Nat) (n : Nat) (cs : Nat → Nat × Nat) : Nat → Nat × Nat := fun i => if i < n then bs i else cs (i - n)
theorem byteRow_same (bs cs : Nat → Nat × Nat) : ∀ n, (∀ i, i < n → bs i = cs i) → byteRow bs n = byteRow cs n
  | 0, _ => rfl
  | n + 1, h => by simp only [byteRow]; rw [byteRow_same bs cs n (fun i hi => h i (by omega)), h n (by omega)]
theorem byteRow_glue (bs cs : Nat → Nat × Nat) (n : Nat) : ∀ m, byteRow (glue bs n cs) (n + m) = byteRow bs n ++ byteRow cs m
  | 0 => by simp only [byteRow, List.append_nil, Nat.add_zero]; exact byteRow_same _ _ n (fun i hi => by simp [glue, hi])
  | m + 1 => by
    have e : glue bs n cs (n + m) = cs m := by simp [glue]; omega
    rw [← Nat.add_assoc]
    simp only [byteRow]
    rw [byteRow_glue bs cs n m, e, List.append_assoc]
theorem byteRow_cells {w : World} {g : Nat} {bs : Nat → Nat × Nat} : ∀ n, (∀ i, i < n → w.cell? ⟨g, i * 2, none⟩ = some (.int .u64 ((bs i).1 : Nat)) ∧ w.cell? ⟨g, i * 2 + 1, none⟩ = some (.int .u8 ((bs i).2 : Nat))) → ∀ j u, (byteRow bs n)[j]? = some u → w.cell? ((⟨g, 0, none⟩ : Addr).add j) = some u
  | 0, _, j, u, hu => by simp [byteRow] at hu
  | n + 1, h, j, u, hu => by
    simp only [byteRow] at hu
    by_cases hj : j < n * 2
    · rw [List.getElem?_append_left (by rw [byteRow_len]; exact hj)] at hu
      exact byteRow_cells n (fun i hi => h i (by omega)) j u hu
    · rw [List.getElem?_append_right (by rw [byteRow_len]; omega), byteRow_len] at hu
      rw [addr_add, Nat.zero_add]
      obtain ⟨h1, h2⟩ := h n (by omega)
      obtain ⟨d, rfl⟩ : ∃ d, j = n * 2 + d := ⟨j - n * 2, by omega⟩
      rw [Nat.add_sub_cancel_left] at hu
      match d, hu with
      | 0, hu => simp at hu; subst hu; exact h1
      | 1, hu => simp at hu; subst hu; exact h2
theorem byteRow_get (bs : Nat → Nat × Nat) : ∀ n i, i < n → (byteRow bs n)[i * 2]? = some (.int .u64 ((bs i).1 : Nat)) ∧ (byteRow bs n)[i * 2 + 1]? = some (.int .u8 ((bs i).2 : Nat))
  | n + 1, i, hi => by
    simp only [byteRow]
    by_cases h : i < n
    · rw [List.getElem?_append_left (by rw [byteRow_len]; omega), List.getElem?_append_left (by rw [byteRow_len]; omega)]
      exact byteRow_get bs n i h
    · obtain rfl : i = n := by omega
      rw [List.getElem?_append_right (by rw [byteRow_len]; omega), List.getElem?_append_right (by rw [byteRow_len]; omega), byteRow_len]
      simp
theorem src26 {w : World} {x : Option Addr} {c : Nat} : Src Tryz.prog 2 31 (.slice x 0 c) 0 [] w := by
  cases x with
  | none => exact Src.ofNil w Tryz.underlying31 c
  | some a => exact Src.ofSlice w Tryz.underlying31 a 0 c [] rfl (by simp) (by simp)
/-- a list of bytes is appended to one that the call owns, at a step of a region that draws -/
theorem step_append_bytes {F : Nat → Prop} {w : World} {ops : Array Oper} {o : Oper} {a : Act} {K : Act → World → Prop} {Q : Exit → Act → World → Prop} {E : Prop} (hgd : o.guard = none) (s x : Operand)
    (ho : o.op = .call { callee := .builtin .append, args := #[s, x], argTypes := #[31, 31] }) (B g n c : Nat) (bs : Nat → Nat × Nat) (hs : a.eval s = .slice (some ⟨g, 0, none⟩) n c) (hown : w.ownsRow B 134 2 (.slice (some ⟨g, 0, none⟩) n c) n (byteRow bs n))
    (v : Value) (m : Nat) (cs : Nat → Nat × Nat) (hx : a.eval x = v) (hr : RefIn F w v m cs) (hn : n + m ≤ 250000) (hB : B ≤ w.heap.size)
    (h : ∀ g' cap w', w'.ownsRow B 134 2 (.slice (some ⟨g', 0, none⟩) (n + m) cap) (n + m) (byteRow (glue bs n cs) (n + m)) → w.grownBy w' (some g) → (g' = g ∨ g' = w.heap.size) → K (a.put o.dst (.slice (some ⟨g', 0, none⟩) (n + m) cap)) w') :
    if Region.wanted o (yielded ops a.tmps) = true then Oper.wp Tryz.prog o a w K Q else E := by
  obtain ⟨i0, hi, hz0, hz1, hz2⟩ := info_parts Tryz.info134
  have hw : Region.wanted o (yielded ops a.tmps) = true := by simp [Region.wanted, hgd]
  rw [if_pos hw]
  have hzero : ∀ ax cx, m = 0 → v = .slice ax 0 cx → Oper.wp Tryz.prog o a w K Q := by
    rintro ax cx rfl rfl
    have hL : n ≤ c := by
      rcases hown.2 with ⟨h', _⟩ | ⟨g', cap', cur, h', hb, hg, hnc, hcm, hcs, htake⟩
      · simp at h'
      · simp only [Value.slice.injEq] at h'; omega
    have hrun := run_append_nothing (P := Tryz.prog) w 31 31 o.type 134 i0 Tryz.underlying31 hi (some ⟨g, 0, none⟩) n c hL (.slice ax 0 cx) (by rw [hz1]; exact src26)
    unfold Oper.wp
    simp [execOp, ho, resolve, invoke, builtin, hs, hx, hrun, Result.andThen]
    exact h g c w (by rw [byteRow_glue]; simpa [byteRow] using hown) (grown_drews w 0 _) (.inl rfl)
  rcases hr with ⟨hm, ax, cx, hv⟩ | ⟨gx, cx, hv, _, hc⟩
  · exact hzero ax cx hm hv
  · by_cases hm : m = 0
    · exact hzero _ cx hm (by rw [hv, hm])
    · refine wp_append_lies w s x 31 ho B 134 i0 (.agg #[.int .u64 0, .int .u8 0]) 2 16 Tryz.underlying31 hi hz0 hz1 hz2 rfl (by decide) _ n (byteRow bs n) hs hown ⟨gx, 0, none⟩ m cx (byteRow cs m) (by rw [hx, hv]) (byteRow_len _ _) (byteRow_cells m hc) (byteRow_one _ _) (by omega) (by unfold maxLen; omega) (by omega) hB _ rfl ?_
      intro g' cap w' h1 h2 h3 h4
      refine h g' cap w' (by rw [byteRow_glue]; exact h1) h2 ?_
      rcases h3 with h3 | h3
      · left
        have : some g = some g' := h3
        simpa using this.symm
      · exact .inr h3
end Go.Proofs.YtmjdnocilbnoaaaGreat

/- The document's call Differ of layer 2: its first statement, which lays the bytes of both memories in one list. -/
namespace Go.Proofs.YtmjdnocilbnoaaaGreat
open Go.RowKit Go.Maps
set_option linter.unusedVariables false
set_option linter.unusedSimpArgs false
/-- the two boxes of the call's arguments lie where they lay -/
structure DIn (w W : World) (ca cb : Array Value) : Prop where
  below : Below w.heap.size w W
  boxa : W.heap[w.heap.size]? = some (.cells ca 33 (0, 0))
  boxb : W.heap[w.heap.size + 1]? = some (.cells cb 33 (0, 0))
theorem DIn.size {w W : World} {ca cb : Array Value} (h : DIn w W ca cb) : w.heap.size + 2 ≤ W.heap.size := (Array.getElem?_eq_some_iff.1 h.boxb).1
theorem DIn.later {w W W' : World} {ca cb : Array Value} (h : DIn w W ca cb) (hb : Below W.heap.size W W') : DIn w W' ca cb :=
  ⟨h.below.trans (hb.mono h.below.size), below_box h.boxa hb, below_box h.boxb hb⟩
theorem DIn.drew {w W : World} {ca cb : Array Value} (h : DIn w W ca cb) : DIn w W.drew ca cb := h.later (Below.refl _ _).drew
theorem DIn.alloc {w W : World} {ca cb : Array Value} (h : DIn w W ca cb) (o : Obj) : DIn w (W.alloc o) ca cb := h.later ((Below.refl _ _).alloc (Nat.le_refl _) _)
theorem DIn.grown {w W W' : World} {ca cb : Array Value} {g : Nat} (h : DIn w W ca cb) (hg : w.heap.size + 2 ≤ g) (hgr : W.grownBy W' (some g)) : DIn w W' ca cb :=
  ⟨Below.grown h.below hgr h.below.size (fun b hb => by cases hb; omega),
   (hgr.block _ (by have := h.size; omega) (by simp only [ne_eq, Option.some.injEq]; omega)).trans h.boxa,
   (hgr.block _ (by have := h.size; omega) (by simp only [ne_eq, Option.some.injEq]; omega)).trans h.boxb⟩
theorem DIn.set {w W : World} {ca cb : Array Value} (h : DIn w W ca cb) {b : Nat} (hb : w.heap.size + 2 ≤ b) (o : Nat) (u : Value) : DIn w (W.setCell ⟨b, o, none⟩ u) ca cb :=
  ⟨h.below.setCell (p := ⟨b, o, none⟩) (show w.heap.size ≤ b by omega) u, (heap_setCell W b o u _ (by omega)).trans h.boxa, (heap_setCell W b o u _ (by omega)).trans h.boxb⟩
theorem DIn.cells {w W : World} {a b c d : Value} (h : DIn w W #[a, b] #[c, d]) : W.cell? ⟨w.heap.size, 1, none⟩ = some b ∧ W.cell? ⟨w.heap.size + 1, 1, none⟩ = some d :=
  ⟨(box_facts h.boxa).2.1, (box_facts h.boxb).2.1⟩
theorem own_empty {w W : World} {ca cb : Array Value} (g : Nat) (h : DIn w W ca cb) (hg : g = W.heap.size) (bs : Nat → Nat × Nat) : (W.alloc (.cells #[] 134)).ownsRow (w.heap.size + 2) 134 2 (.slice (some ⟨g, 0, none⟩) 0 0) 0 (byteRow bs 0) := by
  subst hg
  exact ⟨rfl, .inr ⟨W.heap.size, 0, #[], rfl, h.size, heap_alloc_new W _, Nat.le_refl _, by unfold maxLen; omega, rfl, rfl⟩⟩
theorem at_alloc (W : World) (o : Obj) (k : Nat) (h : k = W.heap.size) : (W.alloc o).heap[k]? = some o := by subst h; exact heap_alloc_new W o
theorem at_past {W : World} {o' : Obj} {k : Nat} (h : W.heap[k]? = some o') (o : Obj) : (W.alloc o).heap[k]? = some o' := (heap_alloc_old W o (Array.getElem?_eq_some_iff.1 h).1).trans h
theorem at_drew {W : World} {o' : Obj} {k : Nat} (h : W.heap[k]? = some o') : W.drew.heap[k]? = some o' := h
theorem at_grown {W W' : World} {o' : Obj} {k g : Nat} (h : W.heap[k]? = some o') (hgr : W.grownBy W' (some g)) (hne : k ≠ g) : W'.heap[k]? = some o' := (hgr.block k (Array.getElem?_eq_some_iff.1 h).1 (by simp only [ne_eq, Option.some.injEq]; exact hne)).trans h
/-- what the list of both holds -/
theorem row_cells {B : Nat} {W : World} {g n c : Nat} {bs : Nat → Nat × Nat} (h : W.ownsRow B 134 2 (.slice (some ⟨g, 0, none⟩) n c) n (byteRow bs n)) : ∀ i, i < n → W.cell? ⟨g, i * 2, none⟩ = some (.int .u64 ((bs i).1 : Nat)) := by
  intro i hi
  have := World.ownsRow.cells h (g := g) rfl _ _ (byteRow_get bs n i hi).1
  rw [addr_add, Nat.zero_add] at this
  exact this
end Go.Proofs.YtmjdnocilbnoaaaGreat

/- The document's call Differ of layer 2: the walk. -/
namespace Go.Proofs.YtmjdnocilbnoaaaGreat
open Go.RowKit Go.Maps
set_option linter.unusedVariables false
set_option maxRecDepth 100000
set_option linter.unusedSimpArgs false
theorem rget_touch (bs : Nat → Nat × Nat) : ∀ n a, rget bs n a ≠ 0 → ∃ i, i < n ∧ (bs i).1 = a
  | 0, a, h => absurd rfl h
  | n + 1, a, h => by
    rw [rget] at h
    by_cases e : (bs n).1 = a
    · exact ⟨n, by omega, e⟩
    · rw [if_neg e] at h
      obtain ⟨i, h1, h2⟩ := rget_touch bs n a h
      exact ⟨i, by omega, h2⟩
theorem glue_touch (ba bb : Nat → Nat × Nat) (Na Nb x : Nat) : (∃ m, m < Na + Nb ∧ (glue (glue (fun _ => (0, 0)) 0 ba) Na bb m).1 = x) ↔ (∃ i, i < Na ∧ (ba i).1 = x) ∨ ∃ i, i < Nb ∧ (bb i).1 = x := by
  constructor
  · rintro ⟨m, h1, h2⟩
    unfold glue at h2
    by_cases h : m < Na
    · rw [if_pos h, if_neg (by omega)] at h2
      exact .inl ⟨m, h, h2⟩
    · rw [if_neg h] at h2
      exact .inr ⟨m - Na, by omega, h2⟩
  · rintro (⟨i, h1, h2⟩ | ⟨i, h1, h2⟩)
    · exact ⟨i, by omega, by unfold glue; rw [if_pos h1, if_neg (by omega)]; exact h2⟩
    · exact ⟨Na + i, by omega, by unfold glue; rw [if_neg (by omega), show Na + i - Na = i from by omega]; exact h2⟩
/-- the touched addresses at which the two differ, rising, are those at which they differ -/
theorem touched_diff {ba bb : Nat → Nat × Nat} {Na Nb : Nat} {ks A : List Nat} (hk : ks.Pairwise (· < ·)) (hm : ∀ x, x ∈ ks ↔ ∃ m, m < Na + Nb ∧ (glue (glue (fun _ => (0, 0)) 0 ba) Na bb m).1 = x) (hA : A.Pairwise (· < ·)) (hM : ∀ x, x ∈ A ↔ rget ba Na x ≠ rget bb Nb x) : A = ks.filter fun x => rget ba Na x != rget bb Nb x := by
  refine rise_one _ _ hA (hk.filter _) (fun x => ?_)
  rw [List.mem_filter, hM, hm, glue_touch]
  constructor
  · intro h
    refine ⟨?_, by simpa using h⟩
    by_cases h0 : rget ba Na x = 0
    · exact .inr (rget_touch bb Nb x (fun e => h (by rw [h0, e])))
    · exact .inl (rget_touch ba Na x h0)
  · rintro ⟨_, h⟩; simpa using h
theorem below_over {wr X w4 : World} (h : Below wr.heap.size wr X) (hb : Below X.heap.size X w4) : Below wr.heap.size wr w4 := h.trans (hb.mono h.size)
/-- what the scan has found -/
structure Scn (w3 wr : World) (v : Value) (A : List Nat) (most : Int) : Prop where
  span : SpanIn w3.heap.size wr v (spans A)
  below : Below w3.heap.size w3 wr
  few : ((spans A).length : Int) ≤ most ∨ (spans A).length = 0
theorem Scn.later {w3 wr w' : World} {v : Value} {A : List Nat} {most : Int} (h : Scn w3 wr v A most) (hb : Below wr.heap.size wr w') : Scn w3 w' v A most :=
  ⟨h.span.kept (fun g hg => hb.block g (h.span.lt g hg).2), h.below.trans (hb.mono h.below.size), h.few⟩
theorem Scn.all {w3 wr : World} {v : Value} {A : List Nat} {most : Int} (h : Scn w3 wr v A most) : SpanIn w3.heap.size wr v ((spans A).take most.toNat) := by
  have e : (spans A).take most.toNat = spans A := by
    rcases h.few with h | h
    · exact List.take_of_length_le (by omega)
    · rw [List.length_eq_zero_iff.1 h]; simp
  rw [e]; exact h.span
theorem SpanIn.low {B B' : Nat} {w : World} {v : Value} {l : List (Nat × Nat)} (h : SpanIn B w v l) (hb : B' ≤ B) : SpanIn B' w v l := by
  rcases h with ⟨h1, h2 | ⟨g, cap, cur, h3, h4, h5⟩⟩
  · exact ⟨h1, .inl h2⟩
  · exact ⟨h1, .inr ⟨g, cap, cur, h3, Nat.le_trans hb h4, h5⟩⟩
theorem Scn.stretch {w3 wr w' : World} {v v' : Value} {A : List Nat} {most : Int} {x : Nat} (h : Scn w3 wr v A most) (hs : Stretched w3.heap.size wr w' v v' (spans A) x) (hf : ((stretchL (spans A) x).length : Int) ≤ most) : Scn w3 w' v' (A ++ [x]) most :=
  ⟨by rw [spans_snoc]; exact hs.1, Below.grown h.below hs.2.1 h.below.size (fun g hg => (h.span.lt g hg).1), .inl (by rw [spans_snoc]; exact hf)⟩
theorem stretchL_same (r : List (Nat × Nat)) (p L : Nat) : (stretchL (r ++ [(p, L)]) (p + L)).length = (r ++ [(p, L)]).length := by rw [stretchL_join]; simp
/-- behind the first statement -/
structure Glued (w W : World) (ca cb : Array Value) (bx g cap N : Nat) (bs : Nat → Nat × Nat) : Prop where
  din : DIn w W ca cb
  box : W.heap[bx]? = some (.cells #[.int .u64 0, .slice (some ⟨g, 0, none⟩) N cap] 33 (0, 0))
  row : ∀ i, i < N → W.cell? ⟨g, i * 2, none⟩ = some (.int .u64 ((bs i).1 : Nat))
  lt : g < W.heap.size
theorem glued_set {w V : World} {ca cb : Array Value} {b g cap N : Nat} {bs : Nat → Nat × Nat} {p q : Value} (hd : DIn w V ca cb) (hb : V.heap[b]? = some (.cells #[p, q] 33 (0, 0))) (hne : b ≠ g) (hB : w.heap.size + 2 ≤ b) (hr : ∀ i, i < N → V.cell? ⟨g, i * 2, none⟩ = some (.int .u64 ((bs i).1 : Nat))) (hg : g < V.heap.size) :
    Glued w ((V.setCell ⟨b, 0, none⟩ (.int .u64 0)).setCell ⟨b, 1, none⟩ (.slice (some ⟨g, 0, none⟩) N cap)) ca cb b g cap N bs := by
  refine ⟨(hd.set hB 0 _).set hB 1 _, box_set hb, fun i hi => ?_, by simp [World.setCell]; exact hg⟩
  rw [World.cell?_of_block (a := ⟨g, i * 2, none⟩) ((heap_setCell _ b 1 _ g (fun e => hne e.symm)).trans (heap_setCell _ b 0 _ g (fun e => hne e.symm)))]
  exact hr i hi
theorem few_in : ∀ (ks : List Nat) (lo hi : Nat), ks.Pairwise (· < ·) → (∀ x ∈ ks, lo ≤ x ∧ x < hi) → ks.length ≤ hi - lo
  | [], _, _, _, _ => Nat.zero_le _
  | a :: t, lo, hi, hp, hb => by
    rw [List.pairwise_cons] at hp
    have ha := hb a (by simp)
    have := few_in t (a + 1) hi hp.2 (fun x hx => ⟨hp.1 x hx, (hb x (by simp [hx])).2⟩)
    simp only [List.length_cons]
    omega
theorem few_keys {ks : List Nat} (h : ks.Pairwise (· < ·)) (hb : ∀ x ∈ ks, 2147483648 ≤ x ∧ x < 2147491840) : ks.length ≤ 24400 := by
  have := few_in ks 2147483648 2147491840 h hb
  omega
set_option maxRecDepth 100000 in
set_option maxHeartbeats 4000000 in
theorem apart_any {F : Nat → Prop} {w : World} (s most : Int) {va vb : Value} {Na Nb : Nat} {ba bb : Nat → Nat × Nat} (ha : RefIn F w va Na ba) (hb : RefIn F w vb Nb bb) (hNa : Na ≤ 12200) (hNb : Nb ≤ 200000) (hra : ∀ i, i < Na → 2147483648 ≤ (ba i).1 ∧ (ba i).1 < 2147491840) (hrb : ∀ i, i < Nb → 2147483648 ≤ (bb i).1 ∧ (bb i).1 < 2147491840) (A : List Nat) (hA : A.Pairwise (· < ·)) (hM : ∀ x, x ∈ A ↔ rget ba Na x ≠ rget bb Nb x) :
    Calls Tryz.prog 15 #[.agg #[.int .u64 s, va], .agg #[.int .u64 s, vb], .int .i64 most] w fun e w' => ∃ v, e = .returned v ∧ SpanIn w.heap.size w' v ((spans A).take most.toNat) ∧ Below w.heap.size w w' := by
  obtain ⟨aa, ca, rfl⟩ := ha.form
  obtain ⟨ab, cb, rfl⟩ := hb.form
  have HA : Hid (RefIn F w (.slice aa Na ca) Na ba) := ha
  have HBB : Hid (RefIn F w (.slice ab Nb cb) Nb bb) := hb
  have HX : Hid ((∀ i, i < Na → 2147483648 ≤ (ba i).1 ∧ (ba i).1 < 2147491840) ∧ (∀ i, i < Nb → 2147483648 ≤ (bb i).1 ∧ (bb i).1 < 2147491840) ∧ A.Pairwise (· < ·) ∧ ∀ x, x ∈ A ↔ rget ba Na x ≠ rget bb Nb x) := ⟨hra, hrb, hA, hM⟩
  clear ha hb hra hrb hA hM
  have D2 : Hid (DIn w ((w.alloc (.cells #[.int .u64 s, .slice aa Na ca] 33)).alloc (.cells #[.int .u64 s, .slice ab Nb cb] 33)) #[.int .u64 s, .slice aa Na ca] #[.int .u64 s, .slice ab Nb cb]) :=
    ⟨((Below.refl _ _).alloc (Nat.le_refl _) _).alloc (by simp) _, (heap_alloc_old _ _ (by simp)).trans (heap_alloc_new w _), by
      have e : (w.alloc (.cells #[.int .u64 s, .slice aa Na ca] 33)).heap.size = w.heap.size + 1 := by simp
      rw [← e]; exact heap_alloc_new _ _⟩
  have hz : w.heap.size + 2 = ((w.alloc (.cells #[.int .u64 s, .slice aa Na ca] 33)).alloc (.cells #[.int .u64 s, .slice ab Nb cb] 33)).heap.size := by simp
  go_enter Tryz.func15, Tryz.ntmps15
  go_upto_region 1 with fail
  generalize (w.alloc (.cells #[.int .u64 s, .slice aa Na ca] 33)).alloc (.cells #[.int .u64 s, .slice ab Nb cb] 33) = w2 at *
  obtain ⟨c1, c2⟩ := D2.out.cells
  go_cut [7] (fun v7 wx => ∃ bx g cap, v7 = .pointer (some ⟨bx, 0, none⟩) ∧ Glued w wx #[.int .u64 s, .slice aa Na ca] #[.int .u64 s, .slice ab Nb cb] bx g cap (Na + Nb) (glue (glue (fun _ => (0, 0)) 0 ba) (Na) bb))
  case first =>
    have zC : w2.heap.size ≠ w.heap.size := by omega
    have zD : w2.heap.size ≠ w.heap.size + 1 := by omega
    have zE : w2.heap.size + 1 ≠ w.heap.size := by omega
    have zF : w2.heap.size + 1 ≠ w.heap.size + 1 := by omega
    go_region_held_law (fun V => V.cell? ⟨w.heap.size, 1, none⟩ = some (.slice aa Na ca) ∧ V.cell? ⟨w.heap.size + 1, 1, none⟩ = some (.slice ab Nb cb)) (go_keep) ((first
        | (refine step_append_bytes (by rfl) _ _ (by rfl) (w.heap.size + 2) _ 0 0 (fun _ => (0, 0)) (by rfl) (by repeat (first | (with_reducible refine own_empty (ca := #[.int .u64 s, .slice aa Na ca]) (cb := #[.int .u64 s, .slice ab Nb cb]) _ ?_ ?_ _; (repeat (first | exact D2.out | with_reducible refine DIn.drew ?_ | with_reducible refine DIn.alloc ?_ _)); simp) | with_reducible refine World.ownsRow.drew ?_ | with_reducible refine World.ownsRow.alloc ?_ _)) _ Na ba (by rfl) (by exact HA.out.below (DIn.below (ca := #[.int .u64 s, .slice aa Na ca]) (cb := #[.int .u64 s, .slice ab Nb cb]) (by repeat (first | exact D2.out | exact E1.out | with_reducible refine DIn.drew ?_ | with_reducible refine DIn.alloc ?_ _)))) (by omega) (by refine DIn.size (ca := #[.int .u64 s, .slice aa Na ca]) (cb := #[.int .u64 s, .slice ab Nb cb]) ?_; repeat (first | exact D2.out | exact E1.out | with_reducible refine DIn.drew ?_ | with_reducible refine DIn.alloc ?_ _)) ?_
           intro g1 cap1 v1 o1 gr1 at1
           rw [Nat.zero_add] at o1 ⊢
           have E1 : Hid (DIn w v1 #[.int .u64 s, .slice aa Na ca] #[.int .u64 s, .slice ab Nb cb]) := DIn.grown (by repeat (first | exact D2.out | exact E1.out | with_reducible refine DIn.drew ?_ | with_reducible refine DIn.alloc ?_ _)) (by first | omega | (simp; omega)) gr1
           obtain ⟨k1, k2⟩ := E1.out.cells
           have O1 : Hid (v1.ownsRow (w.heap.size + 2) 134 2 (.slice (some ⟨g1, 0, none⟩) (Na) cap1) (Na) (byteRow (glue (fun _ => (0, 0)) 0 ba) Na)) := o1
           have L1 : Hid (w.heap.size + 2 ≤ g1 ∧ g1 < v1.heap.size) := World.ownsRow.lt o1 g1 rfl
           first
             | (have QB1 : Hid (v1.heap[w2.heap.size]? = some (Obj.cells #[.int .u64 0, .slice none 0 0] 33 (0, 0))) := at_grown (by repeat (first | with_reducible exact at_alloc _ _ _ (by simp) | with_reducible refine at_drew ?_ | with_reducible refine at_past ?_ _)) gr1 (by simp)
                have N1 : Hid (w2.heap.size ≠ g1) := (by (try simp at at1); show _ ≠ _; omega)
                obtain ⟨q0, q1, q2, q3⟩ := box_facts QB1.out)
             | (have QB1 : Hid (v1.heap[w2.heap.size + 1]? = some (Obj.cells #[.int .u64 0, .slice none 0 0] 33 (0, 0))) := at_grown (by repeat (first | with_reducible exact at_alloc _ _ _ (by simp) | with_reducible refine at_drew ?_ | with_reducible refine at_past ?_ _)) gr1 (by simp)
                have N1 : Hid (w2.heap.size + 1 ≠ g1) := (by (try simp at at1); show _ ≠ _; omega)
                obtain ⟨q0, q1, q2, q3⟩ := box_facts QB1.out)
             | skip
           clear o1 gr1 at1)
        | (refine step_append_bytes (by rfl) _ _ (by rfl) (w.heap.size + 2) g1 (Na) cap1 (glue (fun _ => (0, 0)) 0 ba) (by rfl) (by repeat (first | exact O1.out | with_reducible refine World.ownsRow.drew ?_ | with_reducible refine World.ownsRow.alloc ?_ _)) _ Nb bb (by rfl) (by exact HBB.out.below (DIn.below (ca := #[.int .u64 s, .slice aa Na ca]) (cb := #[.int .u64 s, .slice ab Nb cb]) (by repeat (first | exact D2.out | exact E1.out | with_reducible refine DIn.drew ?_ | with_reducible refine DIn.alloc ?_ _)))) (by omega) (by refine DIn.size (ca := #[.int .u64 s, .slice aa Na ca]) (cb := #[.int .u64 s, .slice ab Nb cb]) ?_; repeat (first | exact D2.out | exact E1.out | with_reducible refine DIn.drew ?_ | with_reducible refine DIn.alloc ?_ _)) ?_
           intro g2 cap2 v2 o2 gr2 at2
           have E2 : Hid (DIn w v2 #[.int .u64 s, .slice aa Na ca] #[.int .u64 s, .slice ab Nb cb]) := DIn.grown (by repeat (first | exact D2.out | exact E1.out | with_reducible refine DIn.drew ?_ | with_reducible refine DIn.alloc ?_ _)) L1.out.1 gr2
           obtain ⟨m1, m2⟩ := E2.out.cells
           have O2 : Hid (∀ i, i < Na + Nb → v2.cell? ⟨g2, i * 2, none⟩ = some (.int .u64 ((glue (glue (fun _ => (0, 0)) 0 ba) (Na) bb i).1 : Nat))) := row_cells o2
           have L2 : Hid (w.heap.size + 2 ≤ g2 ∧ g2 < v2.heap.size) := World.ownsRow.lt o2 g2 rfl
           first
             | (have QB2 : Hid (v2.heap[w2.heap.size]? = some (Obj.cells #[.int .u64 0, .slice none 0 0] 33 (0, 0))) := at_grown (by repeat (first | exact QB1.out | with_reducible exact at_alloc _ _ _ (by simp) | with_reducible refine at_drew ?_ | with_reducible refine at_past ?_ _)) gr2 N1.out
                have N2 : Hid (w2.heap.size ≠ g2) := (by have := N1.out; have := (Array.getElem?_eq_some_iff.1 QB1.out).1; (try simp at at2); show _ ≠ _; omega)
                have zA : w2.heap.size ≠ w.heap.size := (by have := E1.out.size; omega)
                have zB : w2.heap.size ≠ w.heap.size + 1 := (by have := E1.out.size; omega)
                obtain ⟨p0, p1, p2, p3⟩ := box_facts QB2.out)
             | (have QB2 : Hid (v2.heap[w2.heap.size + 1]? = some (Obj.cells #[.int .u64 0, .slice none 0 0] 33 (0, 0))) := at_grown (by repeat (first | exact QB1.out | with_reducible exact at_alloc _ _ _ (by simp) | with_reducible refine at_drew ?_ | with_reducible refine at_past ?_ _)) gr2 N1.out
                have N2 : Hid (w2.heap.size + 1 ≠ g2) := (by have := N1.out; have := (Array.getElem?_eq_some_iff.1 QB1.out).1; (try simp at at2); show _ ≠ _; omega)
                have zA : w2.heap.size + 1 ≠ w.heap.size := (by have := E1.out.size; omega)
                have zB : w2.heap.size + 1 ≠ w.heap.size + 1 := (by have := E1.out.size; omega)
                obtain ⟨p0, p1, p2, p3⟩ := box_facts QB2.out)
             | (have QB2 : Hid (v2.heap[v1.heap.size]? = some (Obj.cells #[.int .u64 0, .slice none 0 0] 33 (0, 0))) := at_grown (by repeat (first | with_reducible exact at_alloc _ _ _ (by simp) | with_reducible refine at_drew ?_ | with_reducible refine at_past ?_ _)) gr2 (by have := L1.out.2; omega)
                have N2 : Hid (v1.heap.size ≠ g2) := (by have := L1.out.2; (try simp at at2); show _ ≠ _; omega)
                have zA : v1.heap.size ≠ w.heap.size := (by have := E1.out.size; omega)
                have zB : v1.heap.size ≠ w.heap.size + 1 := (by have := E1.out.size; omega)
                obtain ⟨p0, p1, p2, p3⟩ := box_facts QB2.out)
             | (have zA : v2.heap.size ≠ w.heap.size := (by have := E2.out.size; omega)
                have zB : v2.heap.size ≠ w.heap.size + 1 := (by have := E2.out.size; omega))
           clear o2 gr2 at2)))
    · go_wp2
      go_meet
      refine ⟨v2.heap.size, g2, cap2, rfl, E2.out.alloc _, heap_alloc_new v2 _, fun i hi => ?_, ?_⟩
      · rw [← O2.out i hi]; exact World.cell?_of_block (a := ⟨g2, i * 2, none⟩) (heap_alloc_old v2 _ L2.out.2)
      · have := L2.out.2; simp; omega
    · go_wp2
      go_meet
      refine ⟨v1.heap.size, g2, cap2, rfl, glued_set E2.out QB2.out N2.out (by have := E1.out.size; omega) O2.out L2.out.2⟩
    · go_wp2
      go_meet
      refine ⟨w2.heap.size + 1, g2, cap2, rfl, glued_set E2.out QB2.out N2.out (by omega) O2.out L2.out.2⟩
    · go_wp2
      go_meet
      refine ⟨w2.heap.size, g2, cap2, rfl, glued_set E2.out QB2.out N2.out (by omega) O2.out L2.out.2⟩
  case rest =>
    obtain ⟨bx, g, cap, rfl, hG⟩ := hcut
    obtain ⟨b0, b1, b2, b3⟩ := box_facts hG.box
    have G : Hid (Glued w wc #[.int .u64 s, .slice aa Na ca] #[.int .u64 s, .slice ab Nb cb] bx g cap (Na + Nb) (glue (glue (fun _ => (0, 0)) 0 ba) Na bb)) := hG
    clear hG c1 c2 hz D2
    go_wp2_with fail
    refine (touched_any (F := F) 0 G.out.row G.out.lt (by omega) (fun m hm => ?_)).mono ?_
    · have h := (glue_touch ba bb Na Nb _).1 ⟨m, hm, rfl⟩
      rcases h with ⟨i, h1, h2⟩ | ⟨i, h1, h2⟩
      · have := HX.out.1 i h1; omega
      · have := HX.out.2.1 i h1; omega
    rintro e w3 ⟨lv, ks, rfl, hn, hpw, hmem, hb3, hkl⟩
    obtain ⟨av, cv, rfl⟩ := hn.form
    have D3 : Hid (DIn w w3 #[.int .u64 s, .slice aa Na ca] #[.int .u64 s, .slice ab Nb cb]) := G.out.din.later hb3
    have hAe := touched_diff hpw hmem HX.out.2.2.1 HX.out.2.2.2
    have HK : Hid ((∀ x ∈ ks, x < 4294967296) ∧ ks.length ≤ 24400) := by
      have h1 : ∀ x ∈ ks, x < 4294967296 := fun x hx => by
        rcases (glue_touch ba bb Na Nb x).1 ((hmem x).1 hx) with ⟨i, h1, h2⟩ | ⟨i, h1, h2⟩
        · have := HX.out.1 i h1; omega
        · have := HX.out.2.1 i h1; omega
      refine ⟨h1, few_keys hpw (fun x hx => ?_)⟩
      rcases (glue_touch ba bb Na Nb x).1 ((hmem x).1 hx) with ⟨i, h1, h2⟩ | ⟨i, h1, h2⟩
      · have := HX.out.1 i h1; omega
      · have := HX.out.2.1 i h1; omega
    have HNN : Hid (Na ≤ 12200 ∧ Nb ≤ 200000) := ⟨hNa, hNb⟩
    clear hNa hNb
    have HN : Hid (Nums wc.heap.size w3 (.slice av ks.length cv) ks) := hn
    subst hAe
    clear hn hpw hmem hb3 hkl G b0 b1 b2 b3 HX
    have S0 : Hid (Scn w3 w3 (.slice none 0 0) ((ks.take 0).filter fun x => rget ba Na x != rget bb Nb x) most) := ⟨⟨rfl, .inl ⟨rfl, rfl⟩⟩, Below.refl _ _, .inr rfl⟩
    go_wp2_with fail
    go_loopw [9, 10] (fun v iv wr => ∃ i : Nat, i ≤ ks.length ∧ iv = .int .i64 i ∧ Scn w3 wr v ((ks.take i).filter fun x => rget ba Na x != rget bb Nb x) most) (fun _ iv _ => ks.length - (intOf iv).toNat)
    case atStart => exact ⟨0, by omega, rfl, S0.out⟩
    case round =>
      obtain ⟨i, hi, rfl, hsc⟩ := hrel
      clear S0
      obtain ⟨ao, co, rfl⟩ := hsc.span.form
      have SC : Hid (Scn w3 wr (.slice ao (spans ((ks.take i).filter fun x => rget ba Na x != rget bb Nb x)).length co) ((ks.take i).filter fun x => rget ba Na x != rget bb Nb x) most) := hsc
      clear hsc
      by_cases hil : i < ks.length
      · have hii : (i : Int) < ks.length := by omega
        obtain ⟨gk, rfl, hcs⟩ := nums_cell HN.out (by omega)
        have hgk : gk < w3.heap.size := block_lt_of_cell (hcs i hil)
        have hci := hcs i hil
        have hxk := HK.out.1 (ks.getD i 0) (by rw [List.getD_eq_getElem?_getD, List.getElem?_eq_getElem hil]; exact List.getElem_mem hil)
        have hft := filter_take (fun x => rget ba Na x != rget bb Nb x) ks i hil
        have hfs := filter_split (fun x => rget ba Na x != rget bb Nb x) ks (i + 1)
        have hlen := Nat.le_trans (spans_len ((ks.take i).filter fun x => rget ba Na x != rget bb Nb x)) (Nat.le_trans (List.length_filter_le _ _) (Nat.le_trans (List.length_take_le _ _) (Nat.le_trans (Nat.le_of_lt hil) HK.out.2)))
        have htop := spans_top ((ks.take i).filter fun x => rget ba Na x != rget bb Nb x) 4294967296 (fun a ha => HK.out.1 a (List.mem_of_mem_take (List.mem_filter.1 ha).1))
        generalize hX : ks.getD i 0 = x at *
        generalize hAi : ((ks.take i).filter fun x => rget ba Na x != rget bb Nb x) = Ai at *
        have FA : Hid (∀ V, Below wr.heap.size wr V → V.cell? ⟨w.heap.size, 0, none⟩ = some (.int .u64 s) ∧ V.cell? ⟨w.heap.size, 1, none⟩ = some (.slice aa Na ca) ∧ V.cell? ⟨w.heap.size + 1, 0, none⟩ = some (.int .u64 s) ∧ V.cell? ⟨w.heap.size + 1, 1, none⟩ = some (.slice ab Nb cb) ∧ V.cell? ⟨gk, i, none⟩ = some (.int .u64 (x : Nat)) ∧ RefIn F V (.slice aa Na ca) Na ba ∧ RefIn F V (.slice ab Nb cb) Nb bb) := fun V hV => by
          have hb := SC.out.below.trans (hV.mono SC.out.below.size)
          have hd := D3.out.later hb
          obtain ⟨f0, f1, _, _⟩ := box_facts hd.boxa
          obtain ⟨f2, f3, _, _⟩ := box_facts hd.boxb
          exact ⟨f0, f1, f2, f3, by rw [hb.cell (p := ⟨gk, i, none⟩) hgk]; exact hci, HA.out.below hd.below, HBB.out.below hd.below⟩
        obtain ⟨f0, f1, f2, f3, f4, _, _⟩ := FA.out wr (Below.refl _ _)
        have HF : Hid _ := hft
        have HS : Hid _ := hfs
        have HT : Hid _ := htop
        clear hft hfs htop hcs hci hX hAi
        have QA : Hid (∀ V, Below wr.heap.size wr V → Calls Tryz.prog 41 #[.agg #[.int .u64 s, .slice aa Na ca], .int .u64 (x : Nat)] V fun e w' => e = .returned (.int .u8 (rget ba Na x : Nat)) ∧ Below V.heap.size V w') := fun V hV => rget_any F V (.int .u64 s) (.slice aa Na ca) Na x ba (FA.out V hV).2.2.2.2.2.1 (by have := HNN.out; omega) (by omega)
        have QB : Hid (∀ V, Below wr.heap.size wr V → Calls Tryz.prog 41 #[.agg #[.int .u64 s, .slice ab Nb cb], .int .u64 (x : Nat)] V fun e w' => e = .returned (.int .u8 (rget bb Nb x : Nat)) ∧ Below V.heap.size V w') := fun V hV => rget_any F V (.int .u64 s) (.slice ab Nb cb) Nb x bb (FA.out V hV).2.2.2.2.2.2 (by have := HNN.out; omega) (by omega)
        generalize hra : rget ba Na x = ra at *
        generalize hrb : rget bb Nb x = rb at *
        have HRa : Hid _ := hra
        have HRb : Hid _ := hrb
        clear hra hrb
        obtain ⟨q, hq⟩ : ∃ q : Bool, ((ra : Int) == (rb : Int)) = q := ⟨_, rfl⟩
        have hib : (i : Int) < 24400 := by have := HK.out.2; omega
        go_wp2_with fail
        go_region_held3 (fun V => V.cell? ⟨w.heap.size, 0, none⟩ = some (.int .u64 s) ∧ V.cell? ⟨w.heap.size, 1, none⟩ = some (.slice aa Na ca) ∧ V.cell? ⟨w.heap.size + 1, 0, none⟩ = some (.int .u64 s) ∧ V.cell? ⟨w.heap.size + 1, 1, none⟩ = some (.slice ab Nb cb) ∧ V.cell? ⟨gk, i, none⟩ = some (.int .u64 (x : Nat))) (go_keep) (first | (go_at_call 41; (with_reducible refine Calls.mono (QA.out _ (by repeat (first | exact Z5.out | exact Z4.out | exact Below.refl _ _ | with_reducible refine Below.drew ?_))) ?_); rintro e w4 ⟨rfl, hb4⟩; have Z4 : Hid (Below wr.heap.size wr w4) := below_over (by repeat (first | exact Z5.out | exact Z4.out | exact Below.refl _ _ | with_reducible refine Below.drew ?_)) hb4; obtain ⟨k0, k1, k2, k3, k4, _, _⟩ := FA.out w4 Z4.out; clear hb4) | (go_at_call 41; (with_reducible refine Calls.mono (QB.out _ (by repeat (first | exact Z5.out | exact Z4.out | exact Below.refl _ _ | with_reducible refine Below.drew ?_))) ?_); rintro e w5 ⟨rfl, hb5⟩; have Z5 : Hid (Below wr.heap.size wr w5) := below_over (by repeat (first | exact Z5.out | exact Z4.out | exact Below.refl _ _ | with_reducible refine Below.drew ?_)) hb5; obtain ⟨j0, j1, j2, j3, j4, _, _⟩ := FA.out w5 Z5.out; clear hb5))
        have S5 : Hid (Scn w3 w5 (.slice ao (spans Ai).length co) Ai most) := SC.out.later Z5.out
        obtain ⟨i0, hinf, hz0, hz1, hz2⟩ := info_parts Tryz.info57
        clear Z4 Z5 k0 k1 k2 k3 f0 f1 f2 f3 f4 QA QB FA SC j0 j1 j2 j3
        have HQ : Hid (((ra : Int) == (rb : Int)) = q) := hq
        clear hq
        cases q with
        | true =>
          have e1 : Hid ((ks.take (i + 1)).filter (fun x => rget ba Na x != rget bb Nb x) = Ai) := by
            have h := HQ.out
            have h2 : ra = rb := by simp at h; omega
            show _ = _
            rw [HF.out]; simp [h2]
          clear HQ
          go_wp2_with fail
          go_roundw
          case rel => exact ⟨i + 1, by omega, by go_num, by rw [e1.out]; exact S5.out⟩
          case measure => simp [intOf]; omega
        | false =>
          have e2 : Hid ((ks.take (i + 1)).filter (fun x => rget ba Na x != rget bb Nb x) = Ai ++ [x]) := by
            have h := HQ.out
            have h2 : ¬ ra = rb := by simp at h; omega
            show _ = _
            rw [HF.out]; simp [h2]
          have STOP : Hid (most ≤ ((spans Ai).length : Nat) → stretchL (spans Ai) x = spans Ai ++ [(x, 1)] → (spans (ks.filter fun x => rget ba Na x != rget bb Nb x)).take most.toNat = spans Ai) := fun h1 h2 => by
            rw [HS.out, e2.out]; exact spans_stop Ai _ x most h2 h1 S5.out.few
          clear HQ HF HS
          rcases List.eq_nil_or_concat (spans Ai) with hnil | ⟨r, ⟨p, L⟩, hrl⟩
          · have hst : Hid (stretchL (spans Ai) x = spans Ai ++ [(x, 1)]) := by show _ = _; rw [hnil]; rfl
            have hl0 : (spans Ai).length = 0 := by rw [hnil]; rfl
            have HL0 : Hid ((spans Ai).length = 0) := hl0
            rw [hl0] at S5 ⊢
            clear hl0 hlen hnil
            by_cases hm : most ≤ 0
            · go_wp2_with fail
              go_quiet (fail)
              go_wp2_with fail
              go_ret
              have S6 := S5.out.later (below_drewN (Below.refl w5.heap.size w5) nq)
              have hD := D3.out.later S6.below
              exact ⟨_, rfl, by rw [STOP.out (by rw [HL0.out]; exact hm) hst.out]; exact S6.span.low D3.out.below.size, hD.below⟩
            · have hm1 : ¬ most ≤ 0 := hm
              go_wp2_with fail
              go_quiet (fail)
              have j5 : (w5.drewN nq).cell? ⟨gk, i, none⟩ = some (.int .u64 (x : Nat)) := j4
              have S6 : Hid (Scn w3 (w5.drewN nq) (.slice ao 0 co) Ai most) := S5.out.later (below_drewN (Below.refl w5.heap.size w5) nq)
              clear S5 j4
              generalize w5.drewN nq = w6 at *
              have SX : Hid (w6.ownsRow w3.heap.size 57 2 (.slice ao 0 co) 0 (spanRow (spans Ai))) := by
                have h := S6.out.span
                unfold SpanIn at h
                rw [HL0.out] at h
                exact h
              go_wp2_with (first | (at_builtin; refine wpList_append_own_at _ rfl _ _ 51 rfl w3.heap.size 57 i0 (.agg #[.int .u64 0, .int .u64 0]) 2 16 Tryz.underlying51 hinf hz0 hz1 hz2 rfl (by decide) _ (0) (spanRow (spans Ai)) rfl (World.ownsRow.alloc SX.out _) ⟨w6.heap.size, 0, none⟩ 1 1 [.int .u64 (x : Nat), .int .u64 (1 : Nat)] rfl rfl (two_new _ _ _ _) (by intro u hu; simp at hu; rcases hu with rfl | rfl <;> rfl) (by unfold maxLen; omega) (by omega) (by have := S6.out.below.size; simp; omega) ?_; intro v' w7 hown' hgrow hnil' hat))
              have ST := Scn.stretch S6.out (stretched_of_added (added_of (by rw [HL0.out]; exact hown') hgrow hat) hst.out) (by rw [hst.out, List.length_append, HL0.out]; simp; omega)
              have S7 : Hid (Scn w3 w7 v' (Ai ++ [x]) most) := ST
              clear ST hown' hgrow hnil' hat SX S6
              go_roundw
              case rel => exact ⟨i + 1, by omega, by go_num, by rw [e2.out]; exact S7.out⟩
              case measure => simp [intOf]; omega
          · rw [List.concat_eq_append] at hrl
            obtain ⟨g5, c5, hv, hc⟩ := S5.out.span.cells (by rw [hrl]; simp)
            simp only [Value.slice.injEq, true_and] at hv
            obtain ⟨rfl, rfl⟩ := hv
            obtain ⟨m, hm⟩ : ∃ m, r.length = m := ⟨_, rfl⟩
            have hl1 : (spans Ai).length = m + 1 := by rw [hrl]; simp [hm]
            obtain ⟨c1, c2⟩ := hc m (by omega)
            have e1 : (spans Ai).getD m (0, 0) = (p, L) := by rw [hrl, ← hm]; simp [List.getD]
            rw [e1] at c1 c2
            have hfz := World.ownsRow.frozenAt S5.out.span (m * 2 + 1)
            have hpl := HT.out (p, L) (by rw [hrl]; simp)
            simp only at hpl
            have HL0 : Hid ((spans Ai).length = m + 1) := hl1
            have HR : Hid (spans Ai = r ++ [(p, L)] ∧ r.length = m) := ⟨hrl, hm⟩
            have hml : m < 24400 := by omega
            have hmi : (m : Int) < 24400 := by omega
            rw [hl1] at S5 ⊢
            clear hl1 hlen hc e1 hrl hm HT
            by_cases hjo : p + L = x
            · subst hjo
              go_wp2_with fail
              go_quiet (fail)
              go_wp2_with fail
              go_roundw
              case rel =>
                refine ⟨i + 1, by omega, by go_num, ?_⟩
                have S6 := S5.out.later (below_drewN (Below.refl w5.heap.size w5) nq)
                have h0 := S6.span
                unfold SpanIn at h0
                rw [HL0.out, HR.out.1] at h0
                have hs := World.ownsRow.stored h0 (m * 2 + 1) (.int .u64 ((L : Int) + 1))
                have h1 := hs.1
                rw [show ((L : Int) + 1) = ((L + 1 : Nat) : Int) from by omega, ← HR.out.2, spanRow_set, HR.out.2] at h1
                rw [e2.out]
                refine Scn.stretch (v := .slice (some ⟨g5, 0, none⟩) (m + 1) co) S6 ⟨?_, hs.2, .inl rfl⟩ ?_
                · unfold SpanIn
                  rw [HR.out.1, stretchL_join, show (r ++ [(p, L + 1)]).length = m + 1 from by simp [HR.out.2]]
                  exact h1
                · rw [HR.out.1, stretchL_same, ← HR.out.1]
                  rcases S5.out.few with h | h
                  · exact h
                  · rw [HL0.out] at h; omega
              case measure => simp [intOf]; omega
            · have hst : Hid (stretchL (spans Ai) x = spans Ai ++ [(x, 1)]) := by show _ = _; rw [HR.out.1]; exact stretchL_new r p L x hjo
              have hjb : ((p : Int) + (L : Int) == (x : Int)) = false := by simp; omega
              by_cases hmo : most ≤ (m : Int) + 1
              · go_wp2_with fail
                go_quiet (fail)
                go_wp2_with fail
                go_ret
                have S6 := S5.out.later (below_drewN (Below.refl w5.heap.size w5) nq)
                have hD := D3.out.later S6.below
                exact ⟨_, rfl, by rw [STOP.out (by rw [HL0.out]; omega) hst.out]; exact S6.span.low D3.out.below.size, hD.below⟩
              · go_wp2_with fail
                go_quiet (fail)
                have j5 : (w5.drewN nq).cell? ⟨gk, i, none⟩ = some (.int .u64 (x : Nat)) := j4
                have S6 : Hid (Scn w3 (w5.drewN nq) (.slice (some ⟨g5, 0, none⟩) (m + 1) co) Ai most) := S5.out.later (below_drewN (Below.refl w5.heap.size w5) nq)
                clear S5 j4 c1 c2 hfz
                generalize w5.drewN nq = w6 at *
                have SX : Hid (w6.ownsRow w3.heap.size 57 2 (.slice (some ⟨g5, 0, none⟩) (m + 1) co) (m + 1) (spanRow (spans Ai))) := by
                  have h := S6.out.span
                  unfold SpanIn at h
                  rw [HL0.out] at h
                  exact h
                go_wp2_with (first | (at_builtin; refine wpList_append_own_at _ rfl _ _ 51 rfl w3.heap.size 57 i0 (.agg #[.int .u64 0, .int .u64 0]) 2 16 Tryz.underlying51 hinf hz0 hz1 hz2 rfl (by decide) _ (m + 1) (spanRow (spans Ai)) rfl (World.ownsRow.alloc SX.out _) ⟨w6.heap.size, 0, none⟩ 1 1 [.int .u64 (x : Nat), .int .u64 (1 : Nat)] rfl rfl (two_new _ _ _ _) (by intro u hu; simp at hu; rcases hu with rfl | rfl <;> rfl) (by unfold maxLen; omega) (by omega) (by have := S6.out.below.size; simp; omega) ?_; intro v' w7 hown' hgrow hnil' hat))
                have ST := Scn.stretch S6.out (stretched_of_added (added_of (by rw [HL0.out]; exact hown') hgrow hat) hst.out) (by rw [hst.out, List.length_append, HL0.out]; simp; omega)
                have S7 : Hid (Scn w3 w7 v' (Ai ++ [x]) most) := ST
                clear ST hown' hgrow hnil' hat SX S6
                go_roundw
                case rel => exact ⟨i + 1, by omega, by go_num, by rw [e2.out]; exact S7.out⟩
                case measure => simp [intOf]; omega
      · obtain rfl : i = ks.length := by omega
        go_wp2_with fail
        go_ret
        have h1 := SC.out.all
        have hD := D3.out.later SC.out.below
        rw [List.take_length] at h1
        exact ⟨_, rfl, by rw [List.take_length]; exact h1.low D3.out.below.size, hD.below⟩
end Go.Proofs.YtmjdnocilbnoaaaGreat

/- What differs between two memories of 8192 bytes. -/
namespace Go.Proofs.YtmjdnocilbnoaaaGreat
open Go.RowKit Go.Maps
set_option linter.unusedVariables false
set_option linter.unusedSimpArgs false
set_option maxRecDepth 100000
theorem rget_out {bs : Nat → Nat × Nat} {n s a : Nat} (h : Rng bs n s) (ha : a < 2147483648 ∨ 2147483648 + s ≤ a) : rget bs n a = 0 := by
  rcases Nat.eq_zero_or_pos (rget bs n a) with h0 | h0
  · exact h0
  · obtain ⟨i, h1, h2⟩ := rget_touch bs n a (by omega)
    have := h i h1
    omega
/-- two memories of 8192 bytes differ in two pages at most -/
theorem two_pages {bs cs : Nat → Nat × Nat} {n m : Nat} {M Mc : Nat → Nat} (h1 : Rng bs n 8192) (h2 : Rng cs m 8192) (e1 : ∀ a, rget bs n a = M a) (e2 : ∀ a, rget cs m a = Mc a) : ∀ k, Apart M Mc k → k = 524288 ∨ k = 524289 := by
  rintro k ⟨i, hi, hne⟩
  by_cases h : k = 524288 ∨ k = 524289
  · exact h
  · exfalso
    apply hne
    rw [← e1, ← e2, rget_out h1 (by omega), rget_out h2 (by omega)]
theorem two_len {ks : List Nat} {p1 p2 : Nat} (hk : ks.Pairwise (· < ·)) (h : ∀ k ∈ ks, k = p1 ∨ k = p2) : ks.length ≤ 2 := two_of (hk.imp (fun h => Nat.ne_of_lt h)) h
theorem few_spans {M Mc : Nat → Nat} {A : List Nat} {p1 p2 : Nat} (hA : A.Pairwise (· < ·)) (hM : ∀ x, x ∈ A ↔ M x ≠ Mc x) (hS : ∀ k, Apart M Mc k → k = p1 ∨ k = p2) : (spans A).length ≤ 10000 := by
  obtain ⟨ks, h1, h2⟩ := pages_rise p1 p2 hS
  have e : A = diffs M Mc ks := rise_one _ _ hA (diffs_rise M Mc ks h1) (fun x => by
    rw [hM, diffs_mem, h2]
    refine ⟨fun h => ⟨⟨x % 4096, Nat.mod_lt _ (by decide), ?_⟩, h⟩, fun h => h.2⟩
    rw [show x / 4096 * 4096 + x % 4096 = x from by omega]; exact h)
  have h3 := diffs_len M Mc ks
  have h4 : ks.length ≤ 2 := two_len h1 (fun k hk => hS k ((h2 k).1 hk))
  have h5 := spans_len A
  rw [e] at h5 ⊢
  omega
end Go.Proofs.YtmjdnocilbnoaaaGreat

/- What differs, on both sides; further aids of the statements. -/
namespace Go.Proofs.YtmjdnocilbnoaaaGreat
open Go.RowKit Go.Maps
set_option linter.unusedVariables false
set_option linter.unusedSimpArgs false
set_option maxRecDepth 100000
theorem dask_any {F : Nat → Prop} {w : World} {va : Option Addr} {nn vc : Nat} {bs : Nat → Nat × Nat} {M : Nat → Nat} (href : RefIn F w (.slice va nn vc) nn bs) (hgt : ∀ q, rget bs nn q = M q) (hle : ∀ a, M a ≤ 255) (hnn : nn ≤ 900000) (hF : ∀ k, F k → k < w.heap.size) (hrg : Rng bs nn 8192) {n D A U : Nat} {rd ev al : Bool} {fe us : Nat} (hg : Gd n D A U) (hfe : fe ≤ 65535) : Calls Tryz.prog 26 #[.agg #[.int .u64 8192, .slice va nn vc], .agg #[.int .i64 (n : Int), .int .u64 (D : Int), .int .u64 (A : Int), .int .u64 (U : Int), .bool rd, .int .i64 (fe : Int), .int .i64 (us : Int), .bool ev, .bool al]] w fun r w' => ∃ a' n' c' bs', r = .returned (.agg #[.int .u64 8192, .slice a' n' c']) ∧ n' ≤ nn + 2 ∧ RefIn F w' (.slice a' n' c') n' bs' ∧ (∀ q, rget bs' n' q = askM M n U fe ev q) ∧ Rng bs' n' 8192 ∧ Below w.heap.size w w' := by
  cases ev with
  | true => exact dask_yes href hgt hle hnn hF hrg hg hfe
  | false => exact dask_no href hgt hle hnn hrg
theorem span_base {B C : Nat} {w : World} {v : Value} {l : List (Nat × Nat)} (h : SpanIn B w v l) (hc : C ≤ B) : SpanIn C w v l := by
  refine ⟨h.1, ?_⟩
  rcases h.2 with hn | ⟨g, cap, cur, rfl, hb, rest⟩
  · exact .inl hn
  · exact .inr ⟨g, cap, cur, rfl, Nat.le_trans hc hb, rest⟩
/-- what differs is told alike on both sides -/
theorem spans_both {V : World} {F F2 G G2 : Nat → Prop} {rb rb2 κ : Nat} {M Mx : Nat → Nat} {a ya : Option Addr} {n c yn yc : Nat} {bs ys : Nat → Nat × Nat} (h1 : RamAt V F2 rb2 8192 12000 (.pointer none) M) (h2 : RamAt V F rb 8192 κ (.pointer none) Mx) (hκ : κ ≤ 1000000) (r1 : RefIn G V (.slice a n c) n bs) (r2 : RefIn G2 V (.slice ya yn yc) yn ys) (g1 : ∀ q, rget bs n q = M q) (g2 : ∀ q, rget ys yn q = Mx q) (s1 : Rng bs n 8192) (s2 : Rng ys yn 8192) (hn : n ≤ 12000) (hyn : yn ≤ 200000) (most : Int) :
    ∃ l : List (Nat × Nat), l.length ≤ 10000 ∧ (∀ V', Below V.heap.size V V' → Calls Tryz.prog 14 #[.pointer (some ⟨rb2, 0, none⟩), .pointer (some ⟨rb, 0, none⟩), .int .i64 most] V' fun e w' => ∃ v, e = .returned v ∧ SpanIn V'.heap.size w' v l ∧ Below V'.heap.size V' w') ∧ (∀ V', Below V.heap.size V V' → Calls Tryz.prog 15 #[.agg #[.int .u64 8192, .slice a n c], .agg #[.int .u64 8192, .slice ya yn yc], .int .i64 most] V' fun e w' => ∃ v, e = .returned v ∧ SpanIn V'.heap.size w' v l ∧ Below V'.heap.size V' w') := by
  have hS := two_pages s1 s2 g1 g2
  obtain ⟨Al, hA, hM⟩ := addresses_rise 524288 524289 hS
  have hMr : ∀ x, x ∈ Al ↔ rget bs n x ≠ rget ys yn x := by intro x; rw [hM, g1, g2]
  have LA := few_spans hA hM hS
  refine ⟨(spans Al).take most.toNat, by rw [List.length_take]; omega, ?_, ?_⟩
  · intro V' hV
    exact differ_any (h1.below hV) (h2.below hV) (by omega) (by omega) hκ 524288 524289 (by omega) (by omega) hS most Al hA hM
  · intro V' hV
    exact apart_any (F := fun _ => False) 8192 most ((r1.below hV).mono (fun _ h => h.elim)) ((r2.below hV).mono (fun _ h => h.elim)) (by omega) hyn (fun i hi => by have := s1 i hi; omega) (fun i hi => by have := s2 i hi; omega) Al hA hMr
end Go.Proofs.YtmjdnocilbnoaaaGreat

/- The queue: all that is offered is given to a device. -/
namespace Go.Proofs.YtmjdnocilbnoaaaGreat
open Go.RowKit Go.Maps
set_option linter.unusedVariables false
set_option linter.unusedSimpArgs false
set_option maxRecDepth 100000
theorem seg_down {B : Nat} {w : World} {v : Value} {l : List Seg} (h : SegIn B w v l) : SegIn 0 w v l := seg_base h (Nat.zero_le _)
/-- what use tells, of a device that can't have the chain yet -/
def Pno {σ : Type} (I : σ → (Nat → Prop) → World → Prop) (rb : Nat) (t : σ) (M : Nat → Nat) (F O : Nat → Prop) (κ : Nat) (G : Nat → Prop) (V : World) (n : Nat) (o : Bool) : Prop := n = 0 ∧ o = false ∧ RamAt V F rb 8192 κ (.pointer none) M ∧ I t O V ∧ G = fun k => F k ∨ O k
/-- .. and of one that used it -/
def Pyes {σ : Type} (I : σ → (Nat → Prop) → World → Prop) (rb : Nat) (bud : σ → Nat) (t' : σ) (M' : Nat → Nat) (cnt b : Nat) (G : Nat → Prop) (V : World) (n : Nat) (o : Bool) : Prop := n = cnt ∧ o = true ∧ ∃ (F' O' : Nat → Prop) (κ' : Nat), RamAt V F' rb 8192 κ' (.pointer none) M' ∧ I t' O' V ∧ (∀ k, O' k → ¬ F' k) ∧ G = (fun k => F' k ∨ O' k) ∧ κ' + 10 + bud t' ≤ b
theorem wrap_round (i : Nat) (h : i < 65537) : wrap64 ((i : Int) + 1) = (i : Int) + 1 := by unfold wrap64; omega
section
variable {σ : Type} {I : σ → (Nat → Prop) → World → Prop} {bud : σ → Nat} {rb qb df : Nat} {cap : Array Value} {dev : σ → (Nat → Nat) → Nat → Cn → Option (σ × (Nat → Nat) × Nat)}
theorem use_no (hd : Dvc rb df cap dev bud I) {t : σ} {M : Nat → Nat} {h : Nat} {c : Cn} {F O : Nat → Prop} {κ : Nat} {w : World} {a : Option Addr} {cc : Nat} (hn : dev t M h c = none) (hr : RamAt w F rb 8192 κ (.pointer none) M) (hi : I t O w) (hO : ∀ k, O k → ¬ F k) (hs : SegIn 0 w (.slice a c.l.length cc) c.l) : Calls Tryz.prog 97 #[.func (.func df) #[] cap, .agg #[.slice a c.l.length cc, .int .u64 (c.ta : Int), .int .u64 (c.tl : Int)]] w fun e w' => ∃ (n : Nat) (o : Bool) (G' : Nat → Prop), e = .returned (.tuple #[.int .u32 (n : Int), .bool o]) ∧ Step (fun k => F k ∨ O k) w G' w' ∧ Pno I rb t M F O κ G' w' n o := by
  refine use_any df cap hd.cf a c.l.length cc c.ta c.tl (fun k => F k ∨ O k) (fun k hk => hk.elim (hr.lt k) (hd.lt hi k)) (Pno I rb t M F O κ) ?_ ?_
  · rintro G' V V' n o ⟨h1, h2, h3, h4, rfl⟩ hsz hk
    exact ⟨h1, h2, h3.kept hsz (fun k hf => hk k (.inl hf)), hd.kept h4 hsz (fun k ho => hk k (.inr ho)), rfl⟩
  · intro V hV
    refine (hd.no hn (hr.below hV) (hd.kept hi hV.size (fun k hk => hV.block k (hd.lt hi k hk))) hO (hs.kept (fun g hg => hV.block g (hs.lt g hg).2))).mono ?_
    rintro e V' ⟨rfl, hb⟩
    have hb2 := below_to hV hb
    exact ⟨0, false, _, rfl, Step.of_below hb, rfl, rfl, hr.below hb2, hd.kept hi hb2.size (fun k hk => hb2.block k (hd.lt hi k hk)), rfl⟩
theorem use_yes (hd : Dvc rb df cap dev bud I) {t : σ} {M : Nat → Nat} {h : Nat} {c : Cn} {F O : Nat → Prop} {κ : Nat} {w : World} {a : Option Addr} {cc : Nat} {t' : σ} {M' : Nat → Nat} {cnt : Nat} (hn : dev t M h c = some (t', M', cnt)) (hr : RamAt w F rb 8192 κ (.pointer none) M) (hκ : κ + bud t ≤ 900000) (hi : I t O w) (hO : ∀ k, O k → ¬ F k) (hs : SegIn 0 w (.slice a c.l.length cc) c.l) (hg : ∀ g, (Value.slice a c.l.length cc).ownBlock = some g → ¬ F g ∧ ¬ O g) (hl : c.l.length ≤ 1000) (hok : ∀ s ∈ c.l, SegOk s) : Calls Tryz.prog 97 #[.func (.func df) #[] cap, .agg #[.slice a c.l.length cc, .int .u64 (c.ta : Int), .int .u64 (c.tl : Int)]] w fun e w' => ∃ (n : Nat) (o : Bool) (G' : Nat → Prop), e = .returned (.tuple #[.int .u32 (n : Int), .bool o]) ∧ Step (fun k => F k ∨ O k) w G' w' ∧ Pyes I rb bud t' M' cnt (κ + bud t) G' w' n o := by
  refine use_any df cap hd.cf a c.l.length cc c.ta c.tl (fun k => F k ∨ O k) (fun k hk => hk.elim (hr.lt k) (hd.lt hi k)) (Pyes I rb bud t' M' cnt (κ + bud t)) ?_ ?_
  · rintro G' V V' n o ⟨h1, h2, F', O', κ', h3, h4, h5, rfl, h6⟩ hsz hk
    exact ⟨h1, h2, F', O', κ', h3.kept hsz (fun k hf => hk k (.inl hf)), hd.kept h4 hsz (fun k ho => hk k (.inr ho)), h5, rfl, h6⟩
  · intro V hV
    refine (hd.yes hn (hr.below hV) hκ (hd.kept hi hV.size (fun k hk => hV.block k (hd.lt hi k hk))) hO (hs.kept (fun g hg => hV.block g (hs.lt g hg).2)) hg hl hok).mono ?_
    rintro e V' ⟨rfl, F', O', κ', h3, h4, h5, h6, h7⟩
    exact ⟨cnt, true, _, rfl, h6, rfl, rfl, F', O', κ', h3, h4, h5, rfl, h7⟩
theorem Gl.same {s : Int} {D A U : Nat} {rd ev al : Bool} {w0 wr w' : World} {F0 O0 F O : Nat → Prop} {t : σ} {M : Nat → Nat} {fe us κ : Nat} (h : Gl I bud rb qb s D A U rd ev al w0 F0 O0 wr t M fe us F O κ) (hr : RamAt w' F rb 8192 κ (.pointer none) M) (hi : I t O w') (hs : Step (fun k => F k ∨ O k) wr (fun k => F k ∨ O k) w') : Gl I bud rb qb s D A U rd ev al w0 F0 O0 w' t M fe us F O κ := by
  have hlt := (Array.getElem?_eq_some_iff.1 h.2.1).1
  have hn : ¬ (F qb ∨ O qb) := fun hc => hc.elim h.2.2.2.2.1 (fun ho => (h.2.2.2.1 qb ho).2 rfl)
  exact ⟨hr, step_box hs h.2.1 hn, hi, h.2.2.2.1, h.2.2.2.2.1, h.2.2.2.2.2.1, h.2.2.2.2.2.2.trans (step_q hs hlt)⟩
/-- what giveAll leaves -/
def Gend (I : σ → (Nat → Prop) → World → Prop) (rb qb : Nat) (s : Int) (D A U : Nat) (rd ev al : Bool) (w0 : World) (F0 O0 : Nat → Prop) (R : Gv σ) (w' : World) : Prop := ∃ (F O : Nat → Prop) (κ : Nat), RamAt w' F rb 8192 κ (.pointer none) R.M ∧ w'.heap[qb]? = some (.cells #[.int .i64 s, .int .u64 (D : Int), .int .u64 (A : Int), .int .u64 (U : Int), .bool rd, .int .u16 (R.fe : Int), .int .u16 (R.us : Int), .bool ev, .bool al] 40 (0, 0)) ∧ I R.s O w' ∧ (∀ k, O k → ¬ F k ∧ k ≠ qb) ∧ ¬ F qb ∧ κ ≤ 900000 ∧ Step (fun k => (F0 k ∨ O0 k) ∨ k = qb) w0 (fun k => (F k ∨ O k) ∨ k = qb) w'
theorem Gl.fin {s : Int} {D A U : Nat} {rd ev al : Bool} {w0 wr : World} {F0 O0 F O : Nat → Prop} {t : σ} {M : Nat → Nat} {fe us κ : Nat} (h : Gl I bud rb qb s D A U rd ev al w0 F0 O0 wr t M fe us F O κ) {R : Gv σ} {e : Int} (hR : R = ⟨t, M, fe, us, e⟩) : Gend I rb qb s D A U rd ev al w0 F0 O0 R wr := by
  subst hR
  exact ⟨F, O, κ, h.1, h.2.1, h.2.2.1, h.2.2.2.1, h.2.2.2.2.1, by have := h.2.2.2.2.2.1; omega, h.2.2.2.2.2.2⟩
set_option maxHeartbeats 4000000 in
theorem give_any (hd : Dvc rb df cap dev bud I) {s : Int} {D A U : Nat} {rd ev al : Bool} (hD : D < 18446744073709551616) (hA : A < 18446744073709551616) (hU : U < 18446744073709551616) {w0 : World} {F0 O0 : Nat → Prop} {t0 : σ} {M0 : Nat → Nat} {fe0 us0 κ0 : Nat} (hfe : fe0 ≤ 65535) (hus : us0 ≤ 65535) (h0 : Gl I bud rb qb s D A U rd ev al w0 F0 O0 w0 t0 M0 fe0 us0 F0 O0 κ0) (R : Gv σ) (hR : giveR dev s D A U rd al 65537 t0 M0 fe0 us0 = R) :
    Calls Tryz.prog 72 #[.pointer (some ⟨qb, 0, none⟩), .pointer (some ⟨rb, 0, none⟩), .func (.func df) #[] cap] w0 fun e w' => e = .returned (.int .i64 R.e) ∧ Gend I rb qb s D A U rd ev al w0 F0 O0 R w' := by
  have HB : Hid (D < 18446744073709551616 ∧ A < 18446744073709551616 ∧ U < 18446744073709551616 ∧ Dvc rb df cap dev bud I) := ⟨hD, hA, hU, hd⟩
  have H0 : Hid (Gl I bud rb qb s D A U rd ev al w0 F0 O0 w0 t0 M0 fe0 us0 F0 O0 κ0 ∧ fe0 ≤ 65535 ∧ us0 ≤ 65535 ∧ giveR dev s D A U rd al 65537 t0 M0 fe0 us0 = R) := ⟨h0, hfe, hus, hR⟩
  clear hD hA hU hd h0 hR hfe hus
  go_enter Tryz.func72, Tryz.ntmps72
  go_wp2_with fail
  go_loopw [13] (fun x wr => ∃ (i j : Nat) (t : σ) (M : Nat → Nat) (fe us : Nat) (F O : Nat → Prop) (κ : Nat), x = .int .i64 (i : Int) ∧ i + j = 65537 ∧ fe ≤ 65535 ∧ us ≤ 65535 ∧ Gl I bud rb qb s D A U rd ev al w0 F0 O0 wr t M fe us F O κ ∧ giveR dev s D A U rd al j t M fe us = R) (fun x _ => 65537 - (intOf x).toNat)
  case atStart => exact ⟨0, 65537, t0, M0, fe0, us0, F0, O0, κ0, rfl, rfl, H0.out.2.1, H0.out.2.2.1, H0.out.1, H0.out.2.2.2⟩
  case round =>
    obtain ⟨i, j, t, M, fe, us, F, O, κ, rfl, hij, hfe, hus, hgl, hR⟩ := hrel
    clear H0
    have X0 : Hid (Gl I bud rb qb s D A U rd ev al w0 F0 O0 wr t M fe us F O κ ∧ fe ≤ 65535 ∧ us ≤ 65535 ∧ giveR dev s D A U rd al j t M fe us = R ∧ i + j = 65537) := ⟨hgl, hfe, hus, hR, hij⟩
    clear hgl hfe hus hR
    cases j with
    | zero =>
      have hnot : ¬ (i : Int) < 65537 := by omega
      clear hij
      go_wp2_with fail
      go_ret
      rw [give_zero] at X0
      exact ⟨by rw [← X0.out.2.2.2.1]; rfl, X0.out.1.fin X0.out.2.2.2.1.symm⟩
    | succ j =>
    have hlt : (i : Int) < 65537 := by omega
    have HI : Hid (i < 65537) := by show i < 65537; omega
    clear hij
    obtain ⟨f0, f1, f2, f3, f4, f5, f6, f7, f8⟩ := box9_facts X0.out.1.2.1
    obtain ⟨ft, hft⟩ : ∃ ft, fetchR M s D A U rd fe al = ft := ⟨_, rfl⟩
    cases ft with
    | non e =>
      have HF : Hid (fetchR M s D A U rd fe al = .non e) := hft
      have hRe := X0.out.2.2.2.1
      rw [give_non hft] at hRe
      have HR : Hid (R = ⟨t, M, fe, us, e⟩) := hRe.symm
      clear hft hRe
      go_wp2_with (go_at_call 16; refine (fetch_non X0.out.1.1 X0.out.1.2.1 X0.out.1.2.2.2.2.1 HB.out.1 HB.out.2.1 HB.out.2.2.1 X0.out.2.1 HF.out).mono ?_; rintro e1 w1 ⟨rfl, hq1, hs1⟩; have X1 : Hid (Gl I bud rb qb s D A U rd ev al w0 F0 O0 w1 t M fe us F O κ) := X0.out.1.q HB.out.2.2.2 hs1 hq1; clear hq1 hs1)
      go_ret
      exact ⟨by rw [HR.out]; rfl, (X1.out.below HB.out.2.2.2 (one_box _ _)).fin HR.out⟩
    | got h c =>
    have HF : Hid (fetchR M s D A U rd fe al = .got h c) := hft
    have hle := head_le X0.out.1.1.le HB.out.1 hft
    have HL : Hid (h ≤ 65535 ∧ (∀ s ∈ c.l, SegOk s) ∧ c.l.length ≤ 1000) := hle
    obtain ⟨cl, hcl⟩ : ∃ cl, c.l.length = cl := ⟨_, rfl⟩
    obtain ⟨ta, hta⟩ : ∃ ta, c.ta = ta := ⟨_, rfl⟩
    obtain ⟨tl, htl⟩ : ∃ tl, c.tl = tl := ⟨_, rfl⟩
    obtain ⟨ce, hce⟩ : ∃ ce, c.e = ce := ⟨_, rfl⟩
    have HC : Hid (c.l.length = cl ∧ c.ta = ta ∧ c.tl = tl ∧ c.e = ce) := ⟨hcl, hta, htl, hce⟩
    have KF : Hid (∀ V, Gl I bud rb qb s D A U rd ev al w0 F0 O0 V t M fe us F O κ → Calls Tryz.prog 16 #[.pointer (some ⟨qb, 0, none⟩), .pointer (some ⟨rb, 0, none⟩)] V fun e w' => ∃ a1 c1, e = .returned (.tuple #[.agg #[.int .u16 (h : Int), .slice a1 cl c1, .int .u64 (ta : Int), .int .u64 (tl : Int)], .bool ((ce : Int) == 0), .int .i64 (ce : Int)]) ∧ SegIn V.heap.size w' (.slice a1 cl c1) c.l ∧ Gl I bud rb qb s D A U rd ev al w0 F0 O0 w' t M (upN fe) us F O κ ∧ V.heap.size ≤ w'.heap.size) := by
      intro V hV
      have := fetch_any hV.1 hV.2.1 hV.2.2.2.2.1 HB.out.1 HB.out.2.1 HB.out.2.2.1 X0.out.2.1 HF.out
      rw [hcl, hta, htl, hce] at this
      refine this.mono ?_
      rintro e w' ⟨a1, c1, rfl, hs, hq, hst⟩
      exact ⟨a1, c1, rfl, hs, hV.q HB.out.2.2.2 hst hq, hst.size⟩
    clear hft hle hcl hta htl hce
    go_upto_region 5 with (go_at_call 16; refine (KF.out _ X0.out.1).mono ?_; rintro e w1 ⟨a1, c1, rfl, hs1, hg1, hz1⟩; have X1 : Hid (Gl I bud rb qb s D A U rd ev al w0 F0 O0 w1 t M (upN fe) us F O κ ∧ SegIn wr.heap.size w1 (.slice a1 cl c1) c.l ∧ wr.heap.size ≤ w1.heap.size) := ⟨hg1, hs1, hz1⟩; clear hs1 hg1 hz1 f0 f1 f2 f3 f4 f5 f6 f7 f8)
    have X2 : Hid (Gl I bud rb qb s D A U rd ev al w0 F0 O0 (w1.alloc (.cells #[.int .u16 (h : Int), .slice a1 cl c1, .int .u64 (ta : Int), .int .u64 (tl : Int)] 61)) t M (upN fe) us F O κ ∧ SegIn wr.heap.size (w1.alloc (.cells #[.int .u16 (h : Int), .slice a1 cl c1, .int .u64 (ta : Int), .int .u64 (tl : Int)] 61)) (.slice a1 cl c1) c.l ∧ (w1.alloc (.cells #[.int .u16 (h : Int), .slice a1 cl c1, .int .u64 (ta : Int), .int .u64 (tl : Int)] 61)).heap[w1.heap.size]? = some (.cells #[.int .u16 (h : Int), .slice a1 cl c1, .int .u64 (ta : Int), .int .u64 (tl : Int)] 61 (0, 0)) ∧ wr.heap.size ≤ w1.heap.size) := ⟨X1.out.1.below HB.out.2.2.2 (one_box _ _), X1.out.2.1.kept (fun g hg => (one_box _ _).block g (X1.out.2.1.lt g hg).2), heap_alloc_new _ _, X1.out.2.2⟩
    have HNEW : Hid ((∀ k, F k → ¬ w1.heap.size ≤ k) ∧ ∀ k, O k → ¬ w1.heap.size ≤ k) := ⟨fun k hk hc => by have := X1.out.1.1.lt k hk; omega, fun k hk hc => by have := HB.out.2.2.2.lt X1.out.1.2.2.1 k hk; omega⟩
    have HOLD : Hid ((∀ k, F k → ¬ wr.heap.size ≤ k) ∧ ∀ k, O k → ¬ wr.heap.size ≤ k) := ⟨fun k hk hc => by have := X0.out.1.1.lt k hk; omega, fun k hk hc => by have := HB.out.2.2.2.lt X0.out.1.2.2.1 k hk; omega⟩
    clear X1 KF
    generalize w1.alloc (.cells #[.int .u16 (h : Int), .slice a1 cl c1, .int .u64 (ta : Int), .int .u64 (tl : Int)] 61) = w2 at *
    generalize w1.heap.size = p at *
    obtain ⟨p0, p1, p2, p3⟩ := box4_facts X2.out.2.2.1
    by_cases hz : ce = 0
    case neg =>
      have g1 : ((ce : Int) == 0) = false := by simp; omega
      have hRe := X0.out.2.2.2.1
      rw [give_err HF.out (by rw [HC.out.2.2.2]; exact hz), HC.out.2.2.2] at hRe
      have HR : Hid (R = ⟨t, M, upN fe, us, (ce : Int)⟩) := hRe.symm
      clear hz hRe
      go_wp2_with fail
      go_ret
      exact ⟨by rw [HR.out]; rfl, X2.out.1.fin HR.out⟩
    subst hz
    obtain ⟨dv, hdv⟩ : ∃ dv, dev t M h c = dv := ⟨_, rfl⟩
    have HO : Hid (∀ k, O k → ¬ F k) := fun k hk => (X2.out.1.2.2.2.1 k hk).1
    cases dv with
    | none =>
      have hRe := X0.out.2.2.2.1
      rw [give_stay HF.out HC.out.2.2.2 hdv] at hRe
      have HR : Hid (R = ⟨t, M, fe, us, 0⟩) := hRe.symm
      have KU : Hid (Calls Tryz.prog 97 #[.func (.func df) #[] cap, .agg #[.slice a1 cl c1, .int .u64 (ta : Int), .int .u64 (tl : Int)]] w2 fun e w' => e = .returned (.tuple #[.int .u32 0, .bool false]) ∧ Gl I bud rb qb s D A U rd ev al w0 F0 O0 w' t M (upN fe) us F O κ) := by
        have hs2 := seg_down X2.out.2.1
        rw [← HC.out.1] at hs2
        have := use_no HB.out.2.2.2 hdv X2.out.1.1 X2.out.1.2.2.1 HO.out hs2
        rw [HC.out.1, HC.out.2.1, HC.out.2.2.1] at this
        refine this.mono ?_
        rintro e w' ⟨n, o, G', rfl, hst, rfl, rfl, h3, h4, rfl⟩
        exact ⟨rfl, X2.out.1.same h3 h4 hst⟩
      clear hRe hdv
      go_upto_region 9 with (go_at_call 97; refine (KU.out).mono ?_; rintro e w3 ⟨rfl, hg3⟩; have X3 : Hid (Gl I bud rb qb s D A U rd ev al w0 F0 O0 w3 t M (upN fe) us F O κ) := hg3; clear hg3 p0 p1 p2 p3)
      have cf := frozenOf X3.out.2.1 5
      obtain ⟨f0, f1, f2, f3, f4, f5, f6, f7, f8⟩ := box9_facts X3.out.2.1
      have X4 : Hid (Gl I bud rb qb s D A U rd ev al w0 F0 O0 (w3.setCell ⟨qb, 5, none⟩ (.int .u16 (fe : Int))) t M fe us F O κ) := X3.out.q HB.out.2.2.2 (step_set _ _ _ _) (set_box X3.out.2.1 5 _)
      go_wp2_with fail
      go_ret
      exact ⟨by rw [HR.out]; rfl, X4.out.fin HR.out⟩
    | some tr =>
      obtain ⟨t', M', cnt⟩ := tr
      have hRe := X0.out.2.2.2.1
      rw [give_more HF.out HC.out.2.2.2 hdv] at hRe
      obtain ⟨hrd, n, hsn, hgd, _, _, _, _⟩ := got_facts HB.out.1 HF.out
      have hnat : s.toNat = n := by rw [hsn]; rfl
      rw [hnat] at hRe
      have HR : Hid (giveR dev s D A U rd al j t' (retM M' n U us h cnt) (upN fe) (upN us) = R ∧ s = (n : Int) ∧ Gd n D A U ∧ cnt ≤ 4294967295) := ⟨hRe, hsn, hgd, HB.out.2.2.2.le hdv HL.out.2.1⟩
      have KU : Hid (Calls Tryz.prog 97 #[.func (.func df) #[] cap, .agg #[.slice a1 cl c1, .int .u64 (ta : Int), .int .u64 (tl : Int)]] w2 fun e w' => ∃ (F' O' : Nat → Prop) (κ' : Nat), e = .returned (.tuple #[.int .u32 (cnt : Int), .bool true]) ∧ Gl I bud rb qb s D A U rd ev al w0 F0 O0 w' t' M' (upN fe) us F' O' κ' ∧ κ' + 10 + bud t' ≤ 900000 ∧ w'.heap[p]? = some (.cells #[.int .u16 (h : Int), .slice a1 cl c1, .int .u64 (ta : Int), .int .u64 (tl : Int)] 61 (0, 0))) := by
        have hs2 := seg_down X2.out.2.1
        rw [← HC.out.1] at hs2
        have := use_yes HB.out.2.2.2 hdv X2.out.1.1 X2.out.1.2.2.2.2.2.1 X2.out.1.2.2.1 HO.out hs2 (fun g hg => by
          rw [HC.out.1] at hg
          have hlt := (X2.out.2.1.lt g hg).1
          exact ⟨fun hf => HOLD.out.1 g hf hlt, fun ho => HOLD.out.2 g ho hlt⟩) HL.out.2.2 HL.out.2.1
        rw [HC.out.1, HC.out.2.1, HC.out.2.2.1] at this
        refine this.mono ?_
        rintro e w' ⟨n1, o, G', rfl, hst, rfl, rfl, F', O', κ', h3, h4, h5, rfl, h6⟩
        have := Gl.did HB.out.2.2.2 X2.out.1 h3 h4 h5 hst h6
        exact ⟨F', O', κ', rfl, this.1, this.2, step_box hst X2.out.2.2.1 (fun hc => hc.elim (fun hf => HNEW.out.1 p hf (Nat.le_refl _)) (fun ho => HNEW.out.2 p ho (Nat.le_refl _)))⟩
      clear hRe hdv hrd hsn hgd hnat
      go_upto_region 11 with (go_at_call 97; refine (KU.out).mono ?_; rintro e w3 ⟨F3, O3, κ3, rfl, hg3, hk3, hp3⟩; have X3 : Hid (Gl I bud rb qb s D A U rd ev al w0 F0 O0 w3 t' M' (upN fe) us F3 O3 κ3 ∧ κ3 + 10 + bud t' ≤ 900000 ∧ w3.heap[p]? = some (.cells #[.int .u16 (h : Int), .slice a1 cl c1, .int .u64 (ta : Int), .int .u64 (tl : Int)] 61 (0, 0))) := ⟨hg3, hk3, hp3⟩; clear hg3 hk3 hp3 p0 p1 p2 p3)
      obtain ⟨p0, p1, p2, p3⟩ := box4_facts X3.out.2.2
      have KR : Hid (Calls Tryz.prog 21 #[.pointer (some ⟨qb, 0, none⟩), .pointer (some ⟨rb, 0, none⟩), .int .u16 (h : Int), .int .u32 (cnt : Int)] w3 fun e w' => e = .returned (.tuple #[]) ∧ ∃ F', Gl I bud rb qb s D A U rd ev al w0 F0 O0 w' t' (retM M' n U us h cnt) (upN fe) (upN us) F' O3 (κ3 + 10)) := by
        have hx := X3.out.1
        obtain ⟨hRR, hsn, hgd, hcn⟩ := HR.out
        rw [hsn] at hx ⊢
        refine (return_any hx.1 hx.2.1 hgd hx.2.2.2.2.1 h cnt X0.out.2.2.1 HL.out.1 hcn (by have := X3.out.2.1; omega)).mono ?_
        rintro e w' ⟨rfl, hq, F', hr, hst, hqF⟩
        exact ⟨rfl, F', hx.ret HB.out.2.2.2 hr hq hst hqF X3.out.2.1⟩
      go_wp2_with (go_at_call 21; refine (KR.out).mono ?_; rintro e w4 ⟨rfl, F4, hg4⟩; have X4 : Hid (Gl I bud rb qb s D A U rd ev al w0 F0 O0 w4 t' (retM M' n U us h cnt) (upN fe) (upN us) F4 O3 (κ3 + 10)) := hg4; clear hg4 p0 p1 p2 p3)
      clear hlt
      go_roundw
      case rel => exact ⟨i + 1, j, t', retM M' n U us h cnt, upN fe, upN us, F4, O3, κ3 + 10, by (try rw [wrap_round i HI.out]); go_num, by have := X0.out.2.2.2.2; omega, up_le _, up_le _, X4.out, HR.out.1⟩
      case measure => simp [intOf, wrap_round i HI.out]; have := HI.out; omega
end
end Go.Proofs.YtmjdnocilbnoaaaGreat
