/- Texts put together. -/
import Derived.Test.YtmjdnocilbnoaaaGreatZk
import Derived.Test.YtmjdnocilbnoaaaGreatZc
import Derived.Test.YtmjdnocilbnoaaaGreatZi
/- The document's call Differ of layer 2: the walk. -/
namespace Go.Proofs.YtmjdnocilbnoaaaGreat
open Go.RowKit Go.Maps
set_option linter.unusedVariables false
set_option maxRecDepth 100000
set_option linter.unusedSimpArgs false
theorem rget_touch (bs : Nat → Nat × Nat) : ∀ n a, rget bs n a ≠ 0 → ∃ i, i < n ∧ (bs i).1 = a
  | 0, a, h => absurd rfl h
  | n + 1, a, h => by
    rw [rget] at h
    by_cases e : (bs n).1 = a
    · exact ⟨n, by omega, e⟩
    · rw [if_neg e] at h
      obtain ⟨i, h1, h2⟩ := rget_touch bs n a h
      exact ⟨i, by omega, h2⟩
theorem glue_touch (ba bb : Nat → Nat × Nat) (Na Nb x : Nat) : (∃ m, m < Na + Nb ∧ (glue (glue (fun _ => (0, 0)) 0 ba) Na bb m).1 = x) ↔ (∃ i, i < Na ∧ (ba i).1 = x) ∨ ∃ i, i < Nb ∧ (bb i).1 = x := by
  constructor
  · rintro ⟨m, h1, h2⟩
    unfold glue at h2
    by_cases h : m < Na
    · rw [if_pos h, if_neg (by omega)] at h2
      exact .inl ⟨m, h, h2⟩
    · rw [if_neg h] at h2
      exact .inr ⟨m - Na, by omega, h2⟩
  · rintro (⟨i, h1, h2⟩ | ⟨i, h1, h2⟩)
    · exact ⟨i, by omega, by unfold glue; rw [if_pos h1, if_neg (by omega)]; exact h2⟩
    · exact ⟨Na + i, by omega, by unfold glue; rw [if_neg (by omega), show Na + i - Na = i from by omega]; exact h2⟩
/-- the touched addresses at which the two differ, rising, are those at which they differ -/
theorem touched_diff {ba bb : Nat → Nat × Nat} {Na Nb : Nat} {ks A : List Nat} (hk : ks.Pairwise (· < ·)) (hm : ∀ x, x ∈ ks ↔ ∃ m, m < Na + Nb ∧ (glue (glue (fun _ => (0, 0)) 0 ba) Na bb m).1 = x) (hA : A.Pairwise (· < ·)) (hM : ∀ x, x ∈ A ↔ rget ba Na x ≠ rget bb Nb x) : A = ks.filter fun x => rget ba Na x != rget bb Nb x := by
  refine rise_one _ _ hA (hk.filter _) (fun x => ?_)
  rw [List.mem_filter, hM, hm, glue_touch]
  constructor
  · intro h
    refine ⟨?_, by simpa using h⟩
    by_cases h0 : rget ba Na x = 0
    · exact .inr (rget_touch bb Nb x (fun e => h (by rw [h0, e])))
    · exact .inl (rget_touch ba Na x h0)
  · rintro ⟨_, h⟩; simpa using h
theorem below_over {wr X w4 : World} (h : Below wr.heap.size wr X) (hb : Below X.heap.size X w4) : Below wr.heap.size wr w4 := h.trans (hb.mono h.size)
/-- what the scan has found -/
structure Scn (w3 wr : World) (v : Value) (A : List Nat) (most : Int) : Prop where
  span : SpanIn w3.heap.size wr v (spans A)
  below : Below w3.heap.size w3 wr
  few : ((spans A).length : Int) ≤ most ∨ (spans A).length = 0
theorem Scn.later {w3 wr w' : World} {v : Value} {A : List Nat} {most : Int} (h : Scn w3 wr v A most) (hb : Below wr.heap.size wr w') : Scn w3 w' v A most :=
  ⟨h.span.kept (fun g hg => hb.block g (h.span.lt g hg).2), h.below.trans (hb.mono h.below.size), h.few⟩
theorem Scn.all {w3 wr : World} {v : Value} {A : List Nat} {most : Int} (h : Scn w3 wr v A most) : SpanIn w3.heap.size wr v ((spans A).take most.toNat) := by
  have e : (spans A).take most.toNat = spans A := by
    rcases h.few with h | h
    · exact List.take_of_length_le (by omega)
    · rw [List.length_eq_zero_iff.1 h]; simp
  rw [e]; exact h.span
theorem SpanIn.low {B B' : Nat} {w : World} {v : Value} {l : List (Nat × Nat)} (h : SpanIn B w v l) (hb : B' ≤ B) : SpanIn B' w v l := by
  rcases h with ⟨h1, h2 | ⟨g, cap, cur, h3, h4, h5⟩⟩
  · exact ⟨h1, .inl h2⟩
  · exact ⟨h1, .inr ⟨g, cap, cur, h3, Nat.le_trans hb h4, h5⟩⟩
theorem Scn.stretch {w3 wr w' : World} {v v' : Value} {A : List Nat} {most : Int} {x : Nat} (h : Scn w3 wr v A most) (hs : Stretched w3.heap.size wr w' v v' (spans A) x) (hf : ((stretchL (spans A) x).length : Int) ≤ most) : Scn w3 w' v' (A ++ [x]) most :=
  ⟨by rw [spans_snoc]; exact hs.1, Below.grown h.below hs.2.1 h.below.size (fun g hg => (h.span.lt g hg).1), .inl (by rw [spans_snoc]; exact hf)⟩
theorem stretchL_same (r : List (Nat × Nat)) (p L : Nat) : (stretchL (r ++ [(p, L)]) (p + L)).length = (r ++ [(p, L)]).length := by rw [stretchL_join]; simp
/-- behind the first statement -/
structure Glued (w W : World) (ca cb : Array Value) (bx g cap N : Nat) (bs : Nat → Nat × Nat) : Prop where
  din : DIn w W ca cb
  box : W.heap[bx]? = some (.cells #[.int .u64 0, .slice (some ⟨g, 0, none⟩) N cap] 33 (0, 0))
  row : ∀ i, i < N → W.cell? ⟨g, i * 2, none⟩ = some (.int .u64 ((bs i).1 : Nat))
  lt : g < W.heap.size
theorem glued_set {w V : World} {ca cb : Array Value} {b g cap N : Nat} {bs : Nat → Nat × Nat} {p q : Value} (hd : DIn w V ca cb) (hb : V.heap[b]? = some (.cells #[p, q] 33 (0, 0))) (hne : b ≠ g) (hB : w.heap.size + 2 ≤ b) (hr : ∀ i, i < N → V.cell? ⟨g, i * 2, none⟩ = some (.int .u64 ((bs i).1 : Nat))) (hg : g < V.heap.size) :
    Glued w ((V.setCell ⟨b, 0, none⟩ (.int .u64 0)).setCell ⟨b, 1, none⟩ (.slice (some ⟨g, 0, none⟩) N cap)) ca cb b g cap N bs := by
  refine ⟨(hd.set hB 0 _).set hB 1 _, box_set hb, fun i hi => ?_, by simp [World.setCell]; exact hg⟩
  rw [World.cell?_of_block (a := ⟨g, i * 2, none⟩) ((heap_setCell _ b 1 _ g (fun e => hne e.symm)).trans (heap_setCell _ b 0 _ g (fun e => hne e.symm)))]
  exact hr i hi
theorem few_in : ∀ (ks : List Nat) (lo hi : Nat), ks.Pairwise (· < ·) → (∀ x ∈ ks, lo ≤ x ∧ x < hi) → ks.length ≤ hi - lo
  | [], _, _, _, _ => Nat.zero_le _
  | a :: t, lo, hi, hp, hb => by
    rw [List.pairwise_cons] at hp
    have ha := hb a (by simp)
    have := few_in t (a + 1) hi hp.2 (fun x hx => ⟨hp.1 x hx, (hb x (by simp [hx])).2⟩)
    simp only [List.length_cons]
    omega
theorem few_keys {ks : List Nat} (h : ks.Pairwise (· < ·)) (hb : ∀ x ∈ ks, 2147483648 ≤ x ∧ x < 2147491840) : ks.length ≤ 24400 := by
  have := few_in ks 2147483648 2147491840 h hb
  omega
set_option maxRecDepth 100000 in
set_option maxHeartbeats 4000000 in
theorem apart_any {F : Nat → Prop} {w : World} (s most : Int) {va vb : Value} {Na Nb : Nat} {ba bb : Nat → Nat × Nat} (ha : RefIn F w va Na ba) (hb : RefIn F w vb Nb bb) (hNa : Na ≤ 12200) (hNb : Nb ≤ 200000) (hra : ∀ i, i < Na → 2147483648 ≤ (ba i).1 ∧ (ba i).1 < 2147491840) (hrb : ∀ i, i < Nb → 2147483648 ≤ (bb i).1 ∧ (bb i).1 < 2147491840) (A : List Nat) (hA : A.Pairwise (· < ·)) (hM : ∀ x, x ∈ A ↔ rget ba Na x ≠ rget bb Nb x) :
    Calls Tryz.prog 15 #[.agg #[.int .u64 s, va], .agg #[.int .u64 s, vb], .int .i64 most] w fun e w' => ∃ v, e = .returned v ∧ SpanIn w.heap.size w' v ((spans A).take most.toNat) ∧ Below w.heap.size w w' := by
  obtain ⟨aa, ca, rfl⟩ := ha.form
  obtain ⟨ab, cb, rfl⟩ := hb.form
  have HA : Hid (RefIn F w (.slice aa Na ca) Na ba) := ha
  have HBB : Hid (RefIn F w (.slice ab Nb cb) Nb bb) := hb
  have HX : Hid ((∀ i, i < Na → 2147483648 ≤ (ba i).1 ∧ (ba i).1 < 2147491840) ∧ (∀ i, i < Nb → 2147483648 ≤ (bb i).1 ∧ (bb i).1 < 2147491840) ∧ A.Pairwise (· < ·) ∧ ∀ x, x ∈ A ↔ rget ba Na x ≠ rget bb Nb x) := ⟨hra, hrb, hA, hM⟩
  clear ha hb hra hrb hA hM
  have D2 : Hid (DIn w ((w.alloc (.cells #[.int .u64 s, .slice aa Na ca] 33)).alloc (.cells #[.int .u64 s, .slice ab Nb cb] 33)) #[.int .u64 s, .slice aa Na ca] #[.int .u64 s, .slice ab Nb cb]) :=
    ⟨((Below.refl _ _).alloc (Nat.le_refl _) _).alloc (by simp) _, (heap_alloc_old _ _ (by simp)).trans (heap_alloc_new w _), by
      have e : (w.alloc (.cells #[.int .u64 s, .slice aa Na ca] 33)).heap.size = w.heap.size + 1 := by simp
      rw [← e]; exact heap_alloc_new _ _⟩
  have hz : w.heap.size + 2 = ((w.alloc (.cells #[.int .u64 s, .slice aa Na ca] 33)).alloc (.cells #[.int .u64 s, .slice ab Nb cb] 33)).heap.size := by simp
  go_enter Tryz.func15, Tryz.ntmps15
  go_upto_region 1 with fail
  generalize (w.alloc (.cells #[.int .u64 s, .slice aa Na ca] 33)).alloc (.cells #[.int .u64 s, .slice ab Nb cb] 33) = w2 at *
  obtain ⟨c1, c2⟩ := D2.out.cells
  go_cut [7] (fun v7 wx => ∃ bx g cap, v7 = .pointer (some ⟨bx, 0, none⟩) ∧ Glued w wx #[.int .u64 s, .slice aa Na ca] #[.int .u64 s, .slice ab Nb cb] bx g cap (Na + Nb) (glue (glue (fun _ => (0, 0)) 0 ba) (Na) bb))
  case first =>
    have zC : w2.heap.size ≠ w.heap.size := by omega
    have zD : w2.heap.size ≠ w.heap.size + 1 := by omega
    have zE : w2.heap.size + 1 ≠ w.heap.size := by omega
    have zF : w2.heap.size + 1 ≠ w.heap.size + 1 := by omega
    go_region_held_law (fun V => V.cell? ⟨w.heap.size, 1, none⟩ = some (.slice aa Na ca) ∧ V.cell? ⟨w.heap.size + 1, 1, none⟩ = some (.slice ab Nb cb)) (go_keep) ((first
        | (refine step_append_bytes (by rfl) _ _ (by rfl) (w.heap.size + 2) _ 0 0 (fun _ => (0, 0)) (by rfl) (by repeat (first | (with_reducible refine own_empty (ca := #[.int .u64 s, .slice aa Na ca]) (cb := #[.int .u64 s, .slice ab Nb cb]) _ ?_ ?_ _; (repeat (first | exact D2.out | with_reducible refine DIn.drew ?_ | with_reducible refine DIn.alloc ?_ _)); simp) | with_reducible refine World.ownsRow.drew ?_ | with_reducible refine World.ownsRow.alloc ?_ _)) _ Na ba (by rfl) (by exact HA.out.below (DIn.below (ca := #[.int .u64 s, .slice aa Na ca]) (cb := #[.int .u64 s, .slice ab Nb cb]) (by repeat (first | exact D2.out | exact E1.out | with_reducible refine DIn.drew ?_ | with_reducible refine DIn.alloc ?_ _)))) (by omega) (by refine DIn.size (ca := #[.int .u64 s, .slice aa Na ca]) (cb := #[.int .u64 s, .slice ab Nb cb]) ?_; repeat (first | exact D2.out | exact E1.out | with_reducible refine DIn.drew ?_ | with_reducible refine DIn.alloc ?_ _)) ?_
           intro g1 cap1 v1 o1 gr1 at1
           rw [Nat.zero_add] at o1 ⊢
           have E1 : Hid (DIn w v1 #[.int .u64 s, .slice aa Na ca] #[.int .u64 s, .slice ab Nb cb]) := DIn.grown (by repeat (first | exact D2.out | exact E1.out | with_reducible refine DIn.drew ?_ | with_reducible refine DIn.alloc ?_ _)) (by first | omega | (simp; omega)) gr1
           obtain ⟨k1, k2⟩ := E1.out.cells
           have O1 : Hid (v1.ownsRow (w.heap.size + 2) 134 2 (.slice (some ⟨g1, 0, none⟩) (Na) cap1) (Na) (byteRow (glue (fun _ => (0, 0)) 0 ba) Na)) := o1
           have L1 : Hid (w.heap.size + 2 ≤ g1 ∧ g1 < v1.heap.size) := World.ownsRow.lt o1 g1 rfl
           first
             | (have QB1 : Hid (v1.heap[w2.heap.size]? = some (Obj.cells #[.int .u64 0, .slice none 0 0] 33 (0, 0))) := at_grown (by repeat (first | with_reducible exact at_alloc _ _ _ (by simp) | with_reducible refine at_drew ?_ | with_reducible refine at_past ?_ _)) gr1 (by simp)
                have N1 : Hid (w2.heap.size ≠ g1) := (by (try simp at at1); show _ ≠ _; omega)
                obtain ⟨q0, q1, q2, q3⟩ := box_facts QB1.out)
             | (have QB1 : Hid (v1.heap[w2.heap.size + 1]? = some (Obj.cells #[.int .u64 0, .slice none 0 0] 33 (0, 0))) := at_grown (by repeat (first | with_reducible exact at_alloc _ _ _ (by simp) | with_reducible refine at_drew ?_ | with_reducible refine at_past ?_ _)) gr1 (by simp)
                have N1 : Hid (w2.heap.size + 1 ≠ g1) := (by (try simp at at1); show _ ≠ _; omega)
                obtain ⟨q0, q1, q2, q3⟩ := box_facts QB1.out)
             | skip
           clear o1 gr1 at1)
        | (refine step_append_bytes (by rfl) _ _ (by rfl) (w.heap.size + 2) g1 (Na) cap1 (glue (fun _ => (0, 0)) 0 ba) (by rfl) (by repeat (first | exact O1.out | with_reducible refine World.ownsRow.drew ?_ | with_reducible refine World.ownsRow.alloc ?_ _)) _ Nb bb (by rfl) (by exact HBB.out.below (DIn.below (ca := #[.int .u64 s, .slice aa Na ca]) (cb := #[.int .u64 s, .slice ab Nb cb]) (by repeat (first | exact D2.out | exact E1.out | with_reducible refine DIn.drew ?_ | with_reducible refine DIn.alloc ?_ _)))) (by omega) (by refine DIn.size (ca := #[.int .u64 s, .slice aa Na ca]) (cb := #[.int .u64 s, .slice ab Nb cb]) ?_; repeat (first | exact D2.out | exact E1.out | with_reducible refine DIn.drew ?_ | with_reducible refine DIn.alloc ?_ _)) ?_
           intro g2 cap2 v2 o2 gr2 at2
           have E2 : Hid (DIn w v2 #[.int .u64 s, .slice aa Na ca] #[.int .u64 s, .slice ab Nb cb]) := DIn.grown (by repeat (first | exact D2.out | exact E1.out | with_reducible refine DIn.drew ?_ | with_reducible refine DIn.alloc ?_ _)) L1.out.1 gr2
           obtain ⟨m1, m2⟩ := E2.out.cells
           have O2 : Hid (∀ i, i < Na + Nb → v2.cell? ⟨g2, i * 2, none⟩ = some (.int .u64 ((glue (glue (fun _ => (0, 0)) 0 ba) (Na) bb i).1 : Nat))) := row_cells o2
           have L2 : Hid (w.heap.size + 2 ≤ g2 ∧ g2 < v2.heap.size) := World.ownsRow.lt o2 g2 rfl
           first
             | (have QB2 : Hid (v2.heap[w2.heap.size]? = some (Obj.cells #[.int .u64 0, .slice none 0 0] 33 (0, 0))) := at_grown (by repeat (first | exact QB1.out | with_reducible exact at_alloc _ _ _ (by simp) | with_reducible refine at_drew ?_ | with_reducible refine at_past ?_ _)) gr2 N1.out
                have N2 : Hid (w2.heap.size ≠ g2) := (by have := N1.out; have := (Array.getElem?_eq_some_iff.1 QB1.out).1; (try simp at at2); show _ ≠ _; omega)
                have zA : w2.heap.size ≠ w.heap.size := (by have := E1.out.size; omega)
                have zB : w2.heap.size ≠ w.heap.size + 1 := (by have := E1.out.size; omega)
                obtain ⟨p0, p1, p2, p3⟩ := box_facts QB2.out)
             | (have QB2 : Hid (v2.heap[w2.heap.size + 1]? = some (Obj.cells #[.int .u64 0, .slice none 0 0] 33 (0, 0))) := at_grown (by repeat (first | exact QB1.out | with_reducible exact at_alloc _ _ _ (by simp) | with_reducible refine at_drew ?_ | with_reducible refine at_past ?_ _)) gr2 N1.out
                have N2 : Hid (w2.heap.size + 1 ≠ g2) := (by have := N1.out; have := (Array.getElem?_eq_some_iff.1 QB1.out).1; (try simp at at2); show _ ≠ _; omega)
                have zA : w2.heap.size + 1 ≠ w.heap.size := (by have := E1.out.size; omega)
                have zB : w2.heap.size + 1 ≠ w.heap.size + 1 := (by have := E1.out.size; omega)
                obtain ⟨p0, p1, p2, p3⟩ := box_facts QB2.out)
             | (have QB2 : Hid (v2.heap[v1.heap.size]? = some (Obj.cells #[.int .u64 0, .slice none 0 0] 33 (0, 0))) := at_grown (by repeat (first | with_reducible exact at_alloc _ _ _ (by simp) | with_reducible refine at_drew ?_ | with_reducible refine at_past ?_ _)) gr2 (by have := L1.out.2; omega)
                have N2 : Hid (v1.heap.size ≠ g2) := (by have := L1.out.2; (try simp at at2); show _ ≠ _; omega)
                have zA : v1.heap.size ≠ w.heap.size := (by have := E1.out.size; omega)
                have zB : v1.heap.size ≠ w.heap.size + 1 := (by have := E1.out.size; omega)
                obtain ⟨p0, p1, p2, p3⟩ := box_facts QB2.out)
             | (have zA : v2.heap.size ≠ w.heap.size := (by have := E2.out.size; omega)
                have zB : v2.heap.size ≠ w.heap.size + 1 := (by have := E2.out.size; omega))
           clear o2 gr2 at2)))
    · go_wp2
      go_meet
      refine ⟨v2.heap.size, g2, cap2, rfl, E2.out.alloc _, heap_alloc_new v2 _, fun i hi => ?_, ?_⟩
      · rw [← O2.out i hi]; exact World.cell?_of_block (a := ⟨g2, i * 2, none⟩) (heap_alloc_old v2 _ L2.out.2)
      · have := L2.out.2; simp; omega
    · go_wp2
      go_meet
      refine ⟨v1.heap.size, g2, cap2, rfl, glued_set E2.out QB2.out N2.out (by have := E1.out.size; omega) O2.out L2.out.2⟩
    · go_wp2
      go_meet
      refine ⟨w2.heap.size + 1, g2, cap2, rfl, glued_set E2.out QB2.out N2.out (by omega) O2.out L2.out.2⟩
    · go_wp2
      go_meet
      refine ⟨w2.heap.size, g2, cap2, rfl, glued_set E2.out QB2.out N2.out (by omega) O2.out L2.out.2⟩
  case rest =>
    obtain ⟨bx, g, cap, rfl, hG⟩ := hcut
    obtain ⟨b0, b1, b2, b3⟩ := box_facts hG.box
    have G : Hid (Glued w wc #[.int .u64 s, .slice aa Na ca] #[.int .u64 s, .slice ab Nb cb] bx g cap (Na + Nb) (glue (glue (fun _ => (0, 0)) 0 ba) Na bb)) := hG
    clear hG c1 c2 hz D2
    go_wp2_with fail
    refine (touched_any (F := F) 0 G.out.row G.out.lt (by omega) (fun m hm => ?_)).mono ?_
    · have h := (glue_touch ba bb Na Nb _).1 ⟨m, hm, rfl⟩
      rcases h with ⟨i, h1, h2⟩ | ⟨i, h1, h2⟩
      · have := HX.out.1 i h1; omega
      · have := HX.out.2.1 i h1; omega
    rintro e w3 ⟨lv, ks, rfl, hn, hpw, hmem, hb3, hkl⟩
    obtain ⟨av, cv, rfl⟩ := hn.form
    have D3 : Hid (DIn w w3 #[.int .u64 s, .slice aa Na ca] #[.int .u64 s, .slice ab Nb cb]) := G.out.din.later hb3
    have hAe := touched_diff hpw hmem HX.out.2.2.1 HX.out.2.2.2
    have HK : Hid ((∀ x ∈ ks, x < 4294967296) ∧ ks.length ≤ 24400) := by
      have h1 : ∀ x ∈ ks, x < 4294967296 := fun x hx => by
        rcases (glue_touch ba bb Na Nb x).1 ((hmem x).1 hx) with ⟨i, h1, h2⟩ | ⟨i, h1, h2⟩
        · have := HX.out.1 i h1; omega
        · have := HX.out.2.1 i h1; omega
      refine ⟨h1, few_keys hpw (fun x hx => ?_)⟩
      rcases (glue_touch ba bb Na Nb x).1 ((hmem x).1 hx) with ⟨i, h1, h2⟩ | ⟨i, h1, h2⟩
      · have := HX.out.1 i h1; omega
      · have := HX.out.2.1 i h1; omega
    have HNN : Hid (Na ≤ 12200 ∧ Nb ≤ 200000) := ⟨hNa, hNb⟩
    clear hNa hNb
    have HN : Hid (Nums wc.heap.size w3 (.slice av ks.length cv) ks) := hn
    subst hAe
    clear hn hpw hmem hb3 hkl G b0 b1 b2 b3 HX
    have S0 : Hid (Scn w3 w3 (.slice none 0 0) ((ks.take 0).filter fun x => rget ba Na x != rget bb Nb x) most) := ⟨⟨rfl, .inl ⟨rfl, rfl⟩⟩, Below.refl _ _, .inr rfl⟩
    go_wp2_with fail
    go_loopw [9, 10] (fun v iv wr => ∃ i : Nat, i ≤ ks.length ∧ iv = .int .i64 i ∧ Scn w3 wr v ((ks.take i).filter fun x => rget ba Na x != rget bb Nb x) most) (fun _ iv _ => ks.length - (intOf iv).toNat)
    case atStart => exact ⟨0, by omega, rfl, S0.out⟩
    case round =>
      obtain ⟨i, hi, rfl, hsc⟩ := hrel
      clear S0
      obtain ⟨ao, co, rfl⟩ := hsc.span.form
      have SC : Hid (Scn w3 wr (.slice ao (spans ((ks.take i).filter fun x => rget ba Na x != rget bb Nb x)).length co) ((ks.take i).filter fun x => rget ba Na x != rget bb Nb x) most) := hsc
      clear hsc
      by_cases hil : i < ks.length
      · have hii : (i : Int) < ks.length := by omega
        obtain ⟨gk, rfl, hcs⟩ := nums_cell HN.out (by omega)
        have hgk : gk < w3.heap.size := block_lt_of_cell (hcs i hil)
        have hci := hcs i hil
        have hxk := HK.out.1 (ks.getD i 0) (by rw [List.getD_eq_getElem?_getD, List.getElem?_eq_getElem hil]; exact List.getElem_mem hil)
        have hft := filter_take (fun x => rget ba Na x != rget bb Nb x) ks i hil
        have hfs := filter_split (fun x => rget ba Na x != rget bb Nb x) ks (i + 1)
        have hlen := Nat.le_trans (spans_len ((ks.take i).filter fun x => rget ba Na x != rget bb Nb x)) (Nat.le_trans (List.length_filter_le _ _) (Nat.le_trans (List.length_take_le _ _) (Nat.le_trans (Nat.le_of_lt hil) HK.out.2)))
        have htop := spans_top ((ks.take i).filter fun x => rget ba Na x != rget bb Nb x) 4294967296 (fun a ha => HK.out.1 a (List.mem_of_mem_take (List.mem_filter.1 ha).1))
        generalize hX : ks.getD i 0 = x at *
        generalize hAi : ((ks.take i).filter fun x => rget ba Na x != rget bb Nb x) = Ai at *
        have FA : Hid (∀ V, Below wr.heap.size wr V → V.cell? ⟨w.heap.size, 0, none⟩ = some (.int .u64 s) ∧ V.cell? ⟨w.heap.size, 1, none⟩ = some (.slice aa Na ca) ∧ V.cell? ⟨w.heap.size + 1, 0, none⟩ = some (.int .u64 s) ∧ V.cell? ⟨w.heap.size + 1, 1, none⟩ = some (.slice ab Nb cb) ∧ V.cell? ⟨gk, i, none⟩ = some (.int .u64 (x : Nat)) ∧ RefIn F V (.slice aa Na ca) Na ba ∧ RefIn F V (.slice ab Nb cb) Nb bb) := fun V hV => by
          have hb := SC.out.below.trans (hV.mono SC.out.below.size)
          have hd := D3.out.later hb
          obtain ⟨f0, f1, _, _⟩ := box_facts hd.boxa
          obtain ⟨f2, f3, _, _⟩ := box_facts hd.boxb
          exact ⟨f0, f1, f2, f3, by rw [hb.cell (p := ⟨gk, i, none⟩) hgk]; exact hci, HA.out.below hd.below, HBB.out.below hd.below⟩
        obtain ⟨f0, f1, f2, f3, f4, _, _⟩ := FA.out wr (Below.refl _ _)
        have HF : Hid _ := hft
        have HS : Hid _ := hfs
        have HT : Hid _ := htop
        clear hft hfs htop hcs hci hX hAi
        have QA : Hid (∀ V, Below wr.heap.size wr V → Calls Tryz.prog 41 #[.agg #[.int .u64 s, .slice aa Na ca], .int .u64 (x : Nat)] V fun e w' => e = .returned (.int .u8 (rget ba Na x : Nat)) ∧ Below V.heap.size V w') := fun V hV => rget_any F V (.int .u64 s) (.slice aa Na ca) Na x ba (FA.out V hV).2.2.2.2.2.1 (by have := HNN.out; omega) (by omega)
        have QB : Hid (∀ V, Below wr.heap.size wr V → Calls Tryz.prog 41 #[.agg #[.int .u64 s, .slice ab Nb cb], .int .u64 (x : Nat)] V fun e w' => e = .returned (.int .u8 (rget bb Nb x : Nat)) ∧ Below V.heap.size V w') := fun V hV => rget_any F V (.int .u64 s) (.slice ab Nb cb) Nb x bb (FA.out V hV).2.2.2.2.2.2 (by have := HNN.out; omega) (by omega)
        generalize hra : rget ba Na x = ra at *
        generalize hrb : rget bb Nb x = rb at *
        have HRa : Hid _ := hra
        have HRb : Hid _ := hrb
        clear hra hrb
        obtain ⟨q, hq⟩ : ∃ q : Bool, ((ra : Int) == (rb : Int)) = q := ⟨_, rfl⟩
        have hib : (i : Int) < 24400 := by have := HK.out.2; omega
        go_wp2_with fail
        go_region_held3 (fun V => V.cell? ⟨w.heap.size, 0, none⟩ = some (.int .u64 s) ∧ V.cell? ⟨w.heap.size, 1, none⟩ = some (.slice aa Na ca) ∧ V.cell? ⟨w.heap.size + 1, 0, none⟩ = some (.int .u64 s) ∧ V.cell? ⟨w.heap.size + 1, 1, none⟩ = some (.slice ab Nb cb) ∧ V.cell? ⟨gk, i, none⟩ = some (.int .u64 (x : Nat))) (go_keep) (first | (go_at_call 41; (with_reducible refine Calls.mono (QA.out _ (by repeat (first | exact Z5.out | exact Z4.out | exact Below.refl _ _ | with_reducible refine Below.drew ?_))) ?_); rintro e w4 ⟨rfl, hb4⟩; have Z4 : Hid (Below wr.heap.size wr w4) := below_over (by repeat (first | exact Z5.out | exact Z4.out | exact Below.refl _ _ | with_reducible refine Below.drew ?_)) hb4; obtain ⟨k0, k1, k2, k3, k4, _, _⟩ := FA.out w4 Z4.out; clear hb4) | (go_at_call 41; (with_reducible refine Calls.mono (QB.out _ (by repeat (first | exact Z5.out | exact Z4.out | exact Below.refl _ _ | with_reducible refine Below.drew ?_))) ?_); rintro e w5 ⟨rfl, hb5⟩; have Z5 : Hid (Below wr.heap.size wr w5) := below_over (by repeat (first | exact Z5.out | exact Z4.out | exact Below.refl _ _ | with_reducible refine Below.drew ?_)) hb5; obtain ⟨j0, j1, j2, j3, j4, _, _⟩ := FA.out w5 Z5.out; clear hb5))
        have S5 : Hid (Scn w3 w5 (.slice ao (spans Ai).length co) Ai most) := SC.out.later Z5.out
        obtain ⟨i0, hinf, hz0, hz1, hz2⟩ := info_parts Tryz.info57
        clear Z4 Z5 k0 k1 k2 k3 f0 f1 f2 f3 f4 QA QB FA SC j0 j1 j2 j3
        have HQ : Hid (((ra : Int) == (rb : Int)) = q) := hq
        clear hq
        cases q with
        | true =>
          have e1 : Hid ((ks.take (i + 1)).filter (fun x => rget ba Na x != rget bb Nb x) = Ai) := by
            have h := HQ.out
            have h2 : ra = rb := by simp at h; omega
            show _ = _
            rw [HF.out]; simp [h2]
          clear HQ
          go_wp2_with fail
          go_roundw
          case rel => exact ⟨i + 1, by omega, by go_num, by rw [e1.out]; exact S5.out⟩
          case measure => simp [intOf]; omega
        | false =>
          have e2 : Hid ((ks.take (i + 1)).filter (fun x => rget ba Na x != rget bb Nb x) = Ai ++ [x]) := by
            have h := HQ.out
            have h2 : ¬ ra = rb := by simp at h; omega
            show _ = _
            rw [HF.out]; simp [h2]
          have STOP : Hid (most ≤ ((spans Ai).length : Nat) → stretchL (spans Ai) x = spans Ai ++ [(x, 1)] → (spans (ks.filter fun x => rget ba Na x != rget bb Nb x)).take most.toNat = spans Ai) := fun h1 h2 => by
            rw [HS.out, e2.out]; exact spans_stop Ai _ x most h2 h1 S5.out.few
          clear HQ HF HS
          rcases List.eq_nil_or_concat (spans Ai) with hnil | ⟨r, ⟨p, L⟩, hrl⟩
          · have hst : Hid (stretchL (spans Ai) x = spans Ai ++ [(x, 1)]) := by show _ = _; rw [hnil]; rfl
            have hl0 : (spans Ai).length = 0 := by rw [hnil]; rfl
            have HL0 : Hid ((spans Ai).length = 0) := hl0
            rw [hl0] at S5 ⊢
            clear hl0 hlen hnil
            by_cases hm : most ≤ 0
            · go_wp2_with fail
              go_quiet (fail)
              go_wp2_with fail
              go_ret
              have S6 := S5.out.later (below_drewN (Below.refl w5.heap.size w5) nq)
              have hD := D3.out.later S6.below
              exact ⟨_, rfl, by rw [STOP.out (by rw [HL0.out]; exact hm) hst.out]; exact S6.span.low D3.out.below.size, hD.below⟩
            · have hm1 : ¬ most ≤ 0 := hm
              go_wp2_with fail
              go_quiet (fail)
              have j5 : (w5.drewN nq).cell? ⟨gk, i, none⟩ = some (.int .u64 (x : Nat)) := j4
              have S6 : Hid (Scn w3 (w5.drewN nq) (.slice ao 0 co) Ai most) := S5.out.later (below_drewN (Below.refl w5.heap.size w5) nq)
              clear S5 j4
              generalize w5.drewN nq = w6 at *
              have SX : Hid (w6.ownsRow w3.heap.size 57 2 (.slice ao 0 co) 0 (spanRow (spans Ai))) := by
                have h := S6.out.span
                unfold SpanIn at h
                rw [HL0.out] at h
                exact h
              go_wp2_with (first | (at_builtin; refine wpList_append_own_at _ rfl _ _ 51 rfl w3.heap.size 57 i0 (.agg #[.int .u64 0, .int .u64 0]) 2 16 Tryz.underlying51 hinf hz0 hz1 hz2 rfl (by decide) _ (0) (spanRow (spans Ai)) rfl (World.ownsRow.alloc SX.out _) ⟨w6.heap.size, 0, none⟩ 1 1 [.int .u64 (x : Nat), .int .u64 (1 : Nat)] rfl rfl (two_new _ _ _ _) (by intro u hu; simp at hu; rcases hu with rfl | rfl <;> rfl) (by unfold maxLen; omega) (by omega) (by have := S6.out.below.size; simp; omega) ?_; intro v' w7 hown' hgrow hnil' hat))
              have ST := Scn.stretch S6.out (stretched_of_added (added_of (by rw [HL0.out]; exact hown') hgrow hat) hst.out) (by rw [hst.out, List.length_append, HL0.out]; simp; omega)
              have S7 : Hid (Scn w3 w7 v' (Ai ++ [x]) most) := ST
              clear ST hown' hgrow hnil' hat SX S6
              go_roundw
              case rel => exact ⟨i + 1, by omega, by go_num, by rw [e2.out]; exact S7.out⟩
              case measure => simp [intOf]; omega
          · rw [List.concat_eq_append] at hrl
            obtain ⟨g5, c5, hv, hc⟩ := S5.out.span.cells (by rw [hrl]; simp)
            simp only [Value.slice.injEq, true_and] at hv
            obtain ⟨rfl, rfl⟩ := hv
            obtain ⟨m, hm⟩ : ∃ m, r.length = m := ⟨_, rfl⟩
            have hl1 : (spans Ai).length = m + 1 := by rw [hrl]; simp [hm]
            obtain ⟨c1, c2⟩ := hc m (by omega)
            have e1 : (spans Ai).getD m (0, 0) = (p, L) := by rw [hrl, ← hm]; simp [List.getD]
            rw [e1] at c1 c2
            have hfz := World.ownsRow.frozenAt S5.out.span (m * 2 + 1)
            have hpl := HT.out (p, L) (by rw [hrl]; simp)
            simp only at hpl
            have HL0 : Hid ((spans Ai).length = m + 1) := hl1
            have HR : Hid (spans Ai = r ++ [(p, L)] ∧ r.length = m) := ⟨hrl, hm⟩
            have hml : m < 24400 := by omega
            have hmi : (m : Int) < 24400 := by omega
            rw [hl1] at S5 ⊢
            clear hl1 hlen hc e1 hrl hm HT
            by_cases hjo : p + L = x
            · subst hjo
              go_wp2_with fail
              go_quiet (fail)
              go_wp2_with fail
              go_roundw
              case rel =>
                refine ⟨i + 1, by omega, by go_num, ?_⟩
                have S6 := S5.out.later (below_drewN (Below.refl w5.heap.size w5) nq)
                have h0 := S6.span
                unfold SpanIn at h0
                rw [HL0.out, HR.out.1] at h0
                have hs := World.ownsRow.stored h0 (m * 2 + 1) (.int .u64 ((L : Int) + 1))
                have h1 := hs.1
                rw [show ((L : Int) + 1) = ((L + 1 : Nat) : Int) from by omega, ← HR.out.2, spanRow_set, HR.out.2] at h1
                rw [e2.out]
                refine Scn.stretch (v := .slice (some ⟨g5, 0, none⟩) (m + 1) co) S6 ⟨?_, hs.2, .inl rfl⟩ ?_
                · unfold SpanIn
                  rw [HR.out.1, stretchL_join, show (r ++ [(p, L + 1)]).length = m + 1 from by simp [HR.out.2]]
                  exact h1
                · rw [HR.out.1, stretchL_same, ← HR.out.1]
                  rcases S5.out.few with h | h
                  · exact h
                  · rw [HL0.out] at h; omega
              case measure => simp [intOf]; omega
            · have hst : Hid (stretchL (spans Ai) x = spans Ai ++ [(x, 1)]) := by show _ = _; rw [HR.out.1]; exact stretchL_new r p L x hjo
              have hjb : ((p : Int) + (L : Int) == (x : Int)) = false := by simp; omega
              by_cases hmo : most ≤ (m : Int) + 1
              · go_wp2_with fail
                go_quiet (fail)
                go_wp2_with fail
                go_ret
                have S6 := S5.out.later (below_drewN (Below.refl w5.heap.size w5) nq)
                have hD := D3.out.later S6.below
                exact ⟨_, rfl, by rw [STOP.out (by rw [HL0.out]; omega) hst.out]; exact S6.span.low D3.out.below.size, hD.below⟩
              · go_wp2_with fail
                go_quiet (fail)
                have j5 : (w5.drewN nq).cell? ⟨gk, i, none⟩ = some (.int .u64 (x : Nat)) := j4
                have S6 : Hid (Scn w3 (w5.drewN nq) (.slice (some ⟨g5, 0, none⟩) (m + 1) co) Ai most) := S5.out.later (below_drewN (Below.refl w5.heap.size w5) nq)
                clear S5 j4 c1 c2 hfz
                generalize w5.drewN nq = w6 at *
                have SX : Hid (w6.ownsRow w3.heap.size 57 2 (.slice (some ⟨g5, 0, none⟩) (m + 1) co) (m + 1) (spanRow (spans Ai))) := by
                  have h := S6.out.span
                  unfold SpanIn at h
                  rw [HL0.out] at h
                  exact h
                go_wp2_with (first | (at_builtin; refine wpList_append_own_at _ rfl _ _ 51 rfl w3.heap.size 57 i0 (.agg #[.int .u64 0, .int .u64 0]) 2 16 Tryz.underlying51 hinf hz0 hz1 hz2 rfl (by decide) _ (m + 1) (spanRow (spans Ai)) rfl (World.ownsRow.alloc SX.out _) ⟨w6.heap.size, 0, none⟩ 1 1 [.int .u64 (x : Nat), .int .u64 (1 : Nat)] rfl rfl (two_new _ _ _ _) (by intro u hu; simp at hu; rcases hu with rfl | rfl <;> rfl) (by unfold maxLen; omega) (by omega) (by have := S6.out.below.size; simp; omega) ?_; intro v' w7 hown' hgrow hnil' hat))
                have ST := Scn.stretch S6.out (stretched_of_added (added_of (by rw [HL0.out]; exact hown') hgrow hat) hst.out) (by rw [hst.out, List.length_append, HL0.out]; simp; omega)
                have S7 : Hid (Scn w3 w7 v' (Ai ++ [x]) most) := ST
                clear ST hown' hgrow hnil' hat SX S6
                go_roundw
                case rel => exact ⟨i + 1, by omega, by go_num, by rw [e2.out]; exact S7.out⟩
                case measure => simp [intOf]; omega
      · obtain rfl : i = ks.length := by omega
        go_wp2_with fail
        go_ret
        have h1 := SC.out.all
        have hD := D3.out.later SC.out.below
        rw [List.take_length] at h1
        exact ⟨_, rfl, by rw [List.take_length]; exact h1.low D3.out.below.size, hD.below⟩
end Go.Proofs.YtmjdnocilbnoaaaGreat

/- What differs between two memories of 8192 bytes. -/
namespace Go.Proofs.YtmjdnocilbnoaaaGreat
open Go.RowKit Go.Maps
set_option linter.unusedVariables false
set_option linter.unusedSimpArgs false
set_option maxRecDepth 100000
theorem rget_out {bs : Nat → Nat × Nat} {n s a : Nat} (h : Rng bs n s) (ha : a < 2147483648 ∨ 2147483648 + s ≤ a) : rget bs n a = 0 := by
  rcases Nat.eq_zero_or_pos (rget bs n a) with h0 | h0
  · exact h0
  · obtain ⟨i, h1, h2⟩ := rget_touch bs n a (by omega)
    have := h i h1
    omega
/-- two memories of 8192 bytes differ in two pages at most -/
theorem two_pages {bs cs : Nat → Nat × Nat} {n m : Nat} {M Mc : Nat → Nat} (h1 : Rng bs n 8192) (h2 : Rng cs m 8192) (e1 : ∀ a, rget bs n a = M a) (e2 : ∀ a, rget cs m a = Mc a) : ∀ k, Apart M Mc k → k = 524288 ∨ k = 524289 := by
  rintro k ⟨i, hi, hne⟩
  by_cases h : k = 524288 ∨ k = 524289
  · exact h
  · exfalso
    apply hne
    rw [← e1, ← e2, rget_out h1 (by omega), rget_out h2 (by omega)]
theorem two_len {ks : List Nat} {p1 p2 : Nat} (hk : ks.Pairwise (· < ·)) (h : ∀ k ∈ ks, k = p1 ∨ k = p2) : ks.length ≤ 2 := two_of (hk.imp (fun h => Nat.ne_of_lt h)) h
theorem few_spans {M Mc : Nat → Nat} {A : List Nat} {p1 p2 : Nat} (hA : A.Pairwise (· < ·)) (hM : ∀ x, x ∈ A ↔ M x ≠ Mc x) (hS : ∀ k, Apart M Mc k → k = p1 ∨ k = p2) : (spans A).length ≤ 10000 := by
  obtain ⟨ks, h1, h2⟩ := pages_rise p1 p2 hS
  have e : A = diffs M Mc ks := rise_one _ _ hA (diffs_rise M Mc ks h1) (fun x => by
    rw [hM, diffs_mem, h2]
    refine ⟨fun h => ⟨⟨x % 4096, Nat.mod_lt _ (by decide), ?_⟩, h⟩, fun h => h.2⟩
    rw [show x / 4096 * 4096 + x % 4096 = x from by omega]; exact h)
  have h3 := diffs_len M Mc ks
  have h4 : ks.length ≤ 2 := two_len h1 (fun k hk => hS k ((h2 k).1 hk))
  have h5 := spans_len A
  rw [e] at h5 ⊢
  omega
end Go.Proofs.YtmjdnocilbnoaaaGreat

/- What differs, on both sides; further aids of the statements. -/
namespace Go.Proofs.YtmjdnocilbnoaaaGreat
open Go.RowKit Go.Maps
set_option linter.unusedVariables false
set_option linter.unusedSimpArgs false
set_option maxRecDepth 100000
theorem dask_any {F : Nat → Prop} {w : World} {va : Option Addr} {nn vc : Nat} {bs : Nat → Nat × Nat} {M : Nat → Nat} (href : RefIn F w (.slice va nn vc) nn bs) (hgt : ∀ q, rget bs nn q = M q) (hle : ∀ a, M a ≤ 255) (hnn : nn ≤ 900000) (hF : ∀ k, F k → k < w.heap.size) (hrg : Rng bs nn 8192) {n D A U : Nat} {rd ev al : Bool} {fe us : Nat} (hg : Gd n D A U) (hfe : fe ≤ 65535) : Calls Tryz.prog 26 #[.agg #[.int .u64 8192, .slice va nn vc], .agg #[.int .i64 (n : Int), .int .u64 (D : Int), .int .u64 (A : Int), .int .u64 (U : Int), .bool rd, .int .i64 (fe : Int), .int .i64 (us : Int), .bool ev, .bool al]] w fun r w' => ∃ a' n' c' bs', r = .returned (.agg #[.int .u64 8192, .slice a' n' c']) ∧ n' ≤ nn + 2 ∧ RefIn F w' (.slice a' n' c') n' bs' ∧ (∀ q, rget bs' n' q = askM M n U fe ev q) ∧ Rng bs' n' 8192 ∧ Below w.heap.size w w' := by
  cases ev with
  | true => exact dask_yes href hgt hle hnn hF hrg hg hfe
  | false => exact dask_no href hgt hle hnn hrg
theorem span_base {B C : Nat} {w : World} {v : Value} {l : List (Nat × Nat)} (h : SpanIn B w v l) (hc : C ≤ B) : SpanIn C w v l := by
  refine ⟨h.1, ?_⟩
  rcases h.2 with hn | ⟨g, cap, cur, rfl, hb, rest⟩
  · exact .inl hn
  · exact .inr ⟨g, cap, cur, rfl, Nat.le_trans hc hb, rest⟩
/-- what differs is told alike on both sides -/
theorem spans_both {V : World} {F F2 G G2 : Nat → Prop} {rb rb2 κ : Nat} {M Mx : Nat → Nat} {a ya : Option Addr} {n c yn yc : Nat} {bs ys : Nat → Nat × Nat} (h1 : RamAt V F2 rb2 8192 12000 (.pointer none) M) (h2 : RamAt V F rb 8192 κ (.pointer none) Mx) (hκ : κ ≤ 1000000) (r1 : RefIn G V (.slice a n c) n bs) (r2 : RefIn G2 V (.slice ya yn yc) yn ys) (g1 : ∀ q, rget bs n q = M q) (g2 : ∀ q, rget ys yn q = Mx q) (s1 : Rng bs n 8192) (s2 : Rng ys yn 8192) (hn : n ≤ 12000) (hyn : yn ≤ 200000) (most : Int) :
    ∃ l : List (Nat × Nat), l.length ≤ 10000 ∧ (∀ V', Below V.heap.size V V' → Calls Tryz.prog 14 #[.pointer (some ⟨rb2, 0, none⟩), .pointer (some ⟨rb, 0, none⟩), .int .i64 most] V' fun e w' => ∃ v, e = .returned v ∧ SpanIn V'.heap.size w' v l ∧ Below V'.heap.size V' w') ∧ (∀ V', Below V.heap.size V V' → Calls Tryz.prog 15 #[.agg #[.int .u64 8192, .slice a n c], .agg #[.int .u64 8192, .slice ya yn yc], .int .i64 most] V' fun e w' => ∃ v, e = .returned v ∧ SpanIn V'.heap.size w' v l ∧ Below V'.heap.size V' w') := by
  have hS := two_pages s1 s2 g1 g2
  obtain ⟨Al, hA, hM⟩ := addresses_rise 524288 524289 hS
  have hMr : ∀ x, x ∈ Al ↔ rget bs n x ≠ rget ys yn x := by intro x; rw [hM, g1, g2]
  have LA := few_spans hA hM hS
  refine ⟨(spans Al).take most.toNat, by rw [List.length_take]; omega, ?_, ?_⟩
  · intro V' hV
    exact differ_any (h1.below hV) (h2.below hV) (by omega) (by omega) hκ 524288 524289 (by omega) (by omega) hS most Al hA hM
  · intro V' hV
    exact apart_any (F := fun _ => False) 8192 most ((r1.below hV).mono (fun _ h => h.elim)) ((r2.below hV).mono (fun _ h => h.elim)) (by omega) hyn (fun i hi => by have := s1 i hi; omega) (fun i hi => by have := s2 i hi; omega) Al hA hMr
theorem told_facts (t : Nat) : ∃ h : Nat, (t : Int).tmod 65536 = (h : Int) ∧ IntKind.u16.wrap (h : Int) = (h : Int) ∧ IntKind.i64.wrap (h : Int) = (h : Int) ∧ h ≤ 65535 := by
  have hl : t % 65536 ≤ 65535 := by have := Nat.mod_lt t (show 0 < 65536 by decide); omega
  exact ⟨t % 65536, ar_mod t, u16_id hl, wrapRl _ (by omega), hl⟩
theorem Ss.wide {W V : World} {G F2 : Nat → Prop} {L : List (Nat × Obj)} {rb2 : Nat} {M : Nat → Nat} {a : Option Addr} {n c : Nat} {bs : Nat → Nat × Nat} (h : Ss W V G L rb2 F2 M a n c bs) {q : Nat} (h1 : ∀ x ∈ L, x.1 ≠ q) (h2 : W.heap.size ≤ q) (h3 : ¬ F2 q) (h4 : ∀ z, (Value.slice a n c).ownBlock = some z → 0 < n → z ≠ q) : Ss W V (fun k => G k ∨ k = q) L rb2 F2 M a n c bs :=
  ⟨⟨h.1.1, fun x hx => ⟨(h.1.2.1 x hx).1, fun hc => hc.elim (h.1.2.1 x hx).2 (h1 x hx)⟩, fun k hk => hk.elim (h.1.2.2 k) (fun e => by rw [e]; exact h2)⟩, ⟨h.2.1.1, fun k hk hc => hc.elim (h.2.1.2 k hk) (fun e => h3 (e ▸ hk))⟩, ref_or h.2.2 h4⟩
theorem step_row (w : World) (g : Nat) (row : Array Value) : Step (fun k => k = g) w (fun k => k = g) (w.setRow g row) := ⟨rfl, rfl, rfl, by simp [World.setRow], fun k _ hk => setRow_other _ _ _ _ hk, fun _ h => .inl h, fun _ h => h⟩
theorem ss_keys {W V : World} {G F2 : Nat → Prop} {L : List (Nat × Obj)} {rb2 : Nat} {M : Nat → Nat} {a : Option Addr} {n c : Nat} {bs : Nat → Nat × Nat} (h : Ss W V G L rb2 F2 M a n c bs) : ∀ x ∈ L, x.1 < V.heap.size := fun x hx => (Array.getElem?_eq_some_iff.1 (h.1.2.1 x hx).1).1
end Go.Proofs.YtmjdnocilbnoaaaGreat
