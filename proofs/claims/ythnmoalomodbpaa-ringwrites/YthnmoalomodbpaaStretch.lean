/- The call stretch of layer 2: a list of pieces with a byte more. -/
import Derived.Test.YthnmoalomodbpaaUnlike
import Derived.Test.YthnmoalomodbpaaSpans
import Derived.Laws.OwnMore
namespace Go.Proofs.Ythnmoalomodbpaa
open Go.RowKit Go.Maps
set_option linter.unusedVariables false
/-- the pieces with a byte more, whose address lies above them -/
def stretchL (l : List (Nat × Nat)) (x : Nat) : List (Nat × Nat) :=
  match l.getLast? with
  | some p => if p.1 + p.2 = x then l.dropLast ++ [(p.1, p.2 + 1)] else l ++ [(x, 1)]
  | none => [(x, 1)]
theorem stretchL_nil (x : Nat) : stretchL [] x = [(x, 1)] := rfl
theorem stretchL_join (l : List (Nat × Nat)) (p L : Nat) : stretchL (l ++ [(p, L)]) (p + L) = l ++ [(p, L + 1)] := by simp [stretchL]
theorem stretchL_new (l : List (Nat × Nat)) (p L x : Nat) (h : p + L ≠ x) : stretchL (l ++ [(p, L)]) x = l ++ [(p, L)] ++ [(x, 1)] := by simp [stretchL, h]
/-- what stretch leaves -/
def Stretched (B : Nat) (w w' : World) (v v' : Value) (l : List (Nat × Nat)) (x : Nat) : Prop :=
  SpanIn B w' v' (stretchL l x) ∧ w.grownBy w' v.ownBlock ∧ (v'.ownBlock = v.ownBlock ∨ ∃ g, v'.ownBlock = some g ∧ w.heap.size ≤ g)
theorem stretched_of_added {B : Nat} {w w' : World} {v v' : Value} {l : List (Nat × Nat)} {x : Nat} (h : Added B w w' v v' l x 1) (e : stretchL l x = l ++ [(x, 1)]) : Stretched B w w' v v' l x := by
  unfold Stretched; rw [e]; exact h
theorem grown_drews (w : World) (n : Nat) (row : Option Nat) : w.grownBy (w.drewN n) row := ⟨rfl, rfl, rfl, Nat.le_refl _, fun _ _ _ => rfl⟩
theorem stretched_drew {B : Nat} {w w' : World} {q : Nat} {v v' : Value} {l : List (Nat × Nat)} {x : Nat} (h : Added B (w.drewN q) w' v v' l x 1) (e : stretchL l x = l ++ [(x, 1)]) : Stretched B w w' v v' l x :=
  stretched_of_added (w := w) ⟨h.1, (grown_drews w q _).trans h.2.1, by simpa using h.2.2⟩ e
theorem spanRow_length (l : List (Nat × Nat)) : (spanRow l).length = l.length * 2 := by
  induction l with
  | nil => rfl
  | cons p r ih => simp [spanRow] at ih ⊢; omega
theorem spanRow_set (l : List (Nat × Nat)) (p L L' : Nat) : (spanRow (l ++ [(p, L)])).set (l.length * 2 + 1) (.int .u64 (L' : Nat)) = spanRow (l ++ [(p, L')]) := by
  rw [spanRow_snoc, spanRow_snoc, List.set_append_right _ _ (by rw [spanRow_length]; omega), spanRow_length, show l.length * 2 + 1 - l.length * 2 = 1 from by omega]
  rfl
set_option maxRecDepth 100000 in
set_option maxHeartbeats 1000000 in
theorem stretch_any {B : Nat} {w : World} {v : Value} {l : List (Nat × Nat)} (h : SpanIn B w v l) (x : Nat) (hx : x < 18446744073709551616) (hl : l.length < 10000) (hB : B ≤ w.heap.size) (hlo : ∀ p ∈ l, p.1 + p.2 < 18446744073709551615) :
    Calls Try.prog 62 #[v, .int .u64 (x : Nat)] w fun e w' => ∃ v', e = .returned v' ∧ Stretched B w w' v v' l x := by
  obtain ⟨i0, hi, hz0, hz1, hz2⟩ := info_parts Try.info37
  rcases List.eq_nil_or_concat l with rfl | ⟨r, ⟨p, L⟩, rfl⟩
  · obtain ⟨a, c, rfl⟩ := h.form
    have H : Hid _ := h
    clear h
    go_enter Try.func62, Try.ntmps62
    go_wp2
    go_quiet (fail)
    go_wp2_with (first | (at_builtin; refine wpList_append_own_at _ rfl _ _ 40 rfl B 37 i0 (.agg #[.int .u64 0, .int .u64 0]) 2 16 Try.underlying40 hi hz0 hz1 hz2 rfl (by decide) _ 0 (spanRow []) rfl (World.ownsRow.alloc H.out _) ⟨w.heap.size, 0, none⟩ 1 1 [.int .u64 (x : Nat), .int .u64 (1 : Nat)] rfl rfl (two_new _ _ _ _) (by intro u hu; simp at hu; rcases hu with rfl | rfl <;> rfl) (by unfold maxLen; omega) (by omega) (by simp; omega) ?_; intro v' w1 hown' hgrow hnil hat))
    go_ret
    exact ⟨v', rfl, stretched_drew (added_of hown' hgrow hat) (stretchL_nil x)⟩
  · rw [List.concat_eq_append] at *
    obtain ⟨g, c, rfl, hc⟩ := h.cells (by simp)
    have hL := hlo (p, L) (by simp)
    have hlen : (r ++ [(p, L)]).length = r.length + 1 := by simp
    obtain ⟨c1, c2⟩ := hc r.length (by omega)
    have e1 : (r ++ [(p, L)]).getD r.length (0, 0) = (p, L) := by simp [List.getD]
    rw [e1] at c1 c2
    have hfz := World.ownsRow.frozenAt h (r.length * 2 + 1)
    have H : Hid _ := h
    clear h hc hlo e1
    rw [hlen] at hl H ⊢
    generalize hm : r.length = m at *
    have hm1 : (m : Int) < 10000 := by omega
    by_cases hjo : p + L = x
    · subst hjo
      go_enter Try.func62, Try.ntmps62
      go_wp2
      go_quiet (fail)
      go_wp2
      go_ret
      have hs := World.ownsRow.stored (w := w.drewN nq) H.out (m * 2 + 1) (.int .u64 ((L : Int) + 1))
      refine ⟨_, rfl, ?_, (grown_drews w nq _).trans hs.2, .inl rfl⟩
      have h1 := hs.1
      rw [show ((L : Int) + 1) = ((L + 1 : Nat) : Int) from by omega, ← hm, spanRow_set] at h1
      unfold SpanIn
      rw [stretchL_join]
      simp only [List.length_append, List.length_cons, List.length_nil, Nat.zero_add]
      rw [← hm]
      exact h1
    · go_enter Try.func62, Try.ntmps62
      go_wp2
      go_quiet (fail)
      go_wp2_with (first | (at_builtin; refine wpList_append_own_at _ rfl _ _ 40 rfl B 37 i0 (.agg #[.int .u64 0, .int .u64 0]) 2 16 Try.underlying40 hi hz0 hz1 hz2 rfl (by decide) _ (m + 1) (spanRow (r ++ [(p, L)])) rfl (World.ownsRow.alloc H.out _) ⟨w.heap.size, 0, none⟩ 1 1 [.int .u64 (x : Nat), .int .u64 (1 : Nat)] rfl rfl (two_new _ _ _ _) (by intro u hu; simp at hu; rcases hu with rfl | rfl <;> rfl) (by unfold maxLen; omega) (by omega) (by simp; omega) ?_; intro v' w1 hown' hgrow hnil hat))
      go_ret
      exact ⟨v', rfl, stretched_drew (added_of (by rw [hlen]; exact hown') hgrow hat) (stretchL_new r p L x hjo)⟩
end Go.Proofs.Ythnmoalomodbpaa
