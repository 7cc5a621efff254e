/- The document's call Differ of layer 2. -/
import Derived.Test.YthnmoalomodbpaaTouch
namespace Go.Proofs.Ythnmoalomodbpaa
open Go.RowKit Go.Maps
set_option linter.unusedVariables false
set_option linter.unusedSimpArgs false
theorem spans_stop (A C : List Nat) (x : Nat) (most : Int) (h1 : stretchL (spans A) x = spans A ++ [(x, 1)]) (h2 : most ≤ ((spans A).length : Nat)) (h3 : ((spans A).length : Int) ≤ most ∨ (spans A).length = 0) : (spans (A ++ [x] ++ C)).take most.toNat = spans A := by
  have e : most.toNat = (spans A).length := by omega
  rw [e, spans_take (A ++ [x]) C _ (by rw [spans_snoc, h1]; simp), spans_snoc, h1]
  simp
theorem filter_take (p : Nat → Bool) (ks : List Nat) (i : Nat) (h : i < ks.length) : (ks.take (i + 1)).filter p = (ks.take i).filter p ++ if p (ks.getD i 0) then [ks.getD i 0] else [] := by
  have e : ks.take (i + 1) = ks.take i ++ [ks.getD i 0] := by
    rw [List.take_add_one, List.getD_eq_getElem?_getD, List.getElem?_eq_getElem h]; rfl
  rw [e, List.filter_append]
  congr 1
  generalize ks.getD i 0 = y
  by_cases hp : p y = true <;> simp [hp]
theorem filter_split (p : Nat → Bool) (ks : List Nat) (i : Nat) : ks.filter p = (ks.take i).filter p ++ (ks.drop i).filter p := by
  rw [← List.filter_append, List.take_append_drop]
/-- bytes with their addresses, as cells -/
def byteRow (bs : Nat → Nat × Nat) : Nat → List Value
  | 0 => []
  | n + 1 => byteRow bs n ++ [.int .u64 ((bs n).1 : Nat), .int .u8 ((bs n).2 : Nat)]
theorem byteRow_len (bs : Nat → Nat × Nat) : ∀ n, (byteRow bs n).length = n * 2
  | 0 => rfl
  | n + 1 => by simp [byteRow, byteRow_len bs n]; omega
theorem byteRow_one (bs : Nat → Nat × Nat) : ∀ n, ∀ u ∈ byteRow bs n, u.oneCell' = true
  | 0 => by simp [byteRow]
  | n + 1 => by
    intro u hu
    simp only [byteRow, List.mem_append, List.mem_cons, List.not_mem_nil, or_false] at hu
    rcases hu with hu | rfl | rfl
    · exact byteRow_one bs n u hu
    · rfl
    · rfl
/-- the first n of the one, then the other -/
def glue (bs : Nat → Nat × Nat) (n : Nat) (cs : Nat → Nat × Nat) : Nat → Nat × Nat := fun i => if i < n then bs i else cs (i - n)
theorem byteRow_same (bs cs : Nat → Nat × Nat) : ∀ n, (∀ i, i < n → bs i = cs i) → byteRow bs n = byteRow cs n
  | 0, _ => rfl
  | n + 1, h => by simp only [byteRow]; rw [byteRow_same bs cs n (fun i hi => h i (by omega)), h n (by omega)]
theorem byteRow_glue (bs cs : Nat → Nat × Nat) (n : Nat) : ∀ m, byteRow (glue bs n cs) (n + m) = byteRow bs n ++ byteRow cs m
  | 0 => by simp only [byteRow, List.append_nil, Nat.add_zero]; exact byteRow_same _ _ n (fun i hi => by simp [glue, hi])
  | m + 1 => by
    have e : glue bs n cs (n + m) = cs m := by simp [glue]; omega
    rw [← Nat.add_assoc]
    simp only [byteRow]
    rw [byteRow_glue bs cs n m, e, List.append_assoc]
theorem byteRow_cells {w : World} {g : Nat} {bs : Nat → Nat × Nat} : ∀ n, (∀ i, i < n → w.cell? ⟨g, i * 2, none⟩ = some (.int .u64 ((bs i).1 : Nat)) ∧ w.cell? ⟨g, i * 2 + 1, none⟩ = some (.int .u8 ((bs i).2 : Nat))) → ∀ j u, (byteRow bs n)[j]? = some u → w.cell? ((⟨g, 0, none⟩ : Addr).add j) = some u
  | 0, _, j, u, hu => by simp [byteRow] at hu
  | n + 1, h, j, u, hu => by
    simp only [byteRow] at hu
    by_cases hj : j < n * 2
    · rw [List.getElem?_append_left (by rw [byteRow_len]; exact hj)] at hu
      exact byteRow_cells n (fun i hi => h i (by omega)) j u hu
    · rw [List.getElem?_append_right (by rw [byteRow_len]; omega), byteRow_len] at hu
      rw [addr_add, Nat.zero_add]
      obtain ⟨h1, h2⟩ := h n (by omega)
      obtain ⟨d, rfl⟩ : ∃ d, j = n * 2 + d := ⟨j - n * 2, by omega⟩
      rw [Nat.add_sub_cancel_left] at hu
      match d, hu with
      | 0, hu => simp at hu; subst hu; exact h1
      | 1, hu => simp at hu; subst hu; exact h2
theorem byteRow_get (bs : Nat → Nat × Nat) : ∀ n i, i < n → (byteRow bs n)[i * 2]? = some (.int .u64 ((bs i).1 : Nat)) ∧ (byteRow bs n)[i * 2 + 1]? = some (.int .u8 ((bs i).2 : Nat))
  | n + 1, i, hi => by
    simp only [byteRow]
    by_cases h : i < n
    · rw [List.getElem?_append_left (by rw [byteRow_len]; omega), List.getElem?_append_left (by rw [byteRow_len]; omega)]
      exact byteRow_get bs n i h
    · obtain rfl : i = n := by omega
      rw [List.getElem?_append_right (by rw [byteRow_len]; omega), List.getElem?_append_right (by rw [byteRow_len]; omega), byteRow_len]
      simp
theorem src26 {w : World} {x : Option Addr} {c : Nat} : Src Try.prog 2 27 (.slice x 0 c) 0 [] w := by
  cases x with
  | none => exact Src.ofNil w Try.underlying27 c
  | some a => exact Src.ofSlice w Try.underlying27 a 0 c [] rfl (by simp) (by simp)
/-- a list of bytes is appended to one that the call owns, at a step of a region that draws -/
theorem step_append_bytes {F : Nat → Prop} {w : World} {ops : Array Oper} {o : Oper} {a : Act} {K : Act → World → Prop} {Q : Exit → Act → World → Prop} {E : Prop} (hgd : o.guard = none) (s x : Operand)
    (ho : o.op = .call { callee := .builtin .append, args := #[s, x], argTypes := #[27, 27] }) (B g n c : Nat) (bs : Nat → Nat × Nat) (hs : a.eval s = .slice (some ⟨g, 0, none⟩) n c) (hown : w.ownsRow B 110 2 (.slice (some ⟨g, 0, none⟩) n c) n (byteRow bs n))
    (v : Value) (m : Nat) (cs : Nat → Nat × Nat) (hx : a.eval x = v) (hr : RefIn F w v m cs) (hn : n + m ≤ 100000) (hB : B ≤ w.heap.size)
    (h : ∀ g' cap w', w'.ownsRow B 110 2 (.slice (some ⟨g', 0, none⟩) (n + m) cap) (n + m) (byteRow (glue bs n cs) (n + m)) → w.grownBy w' (some g) → (g' = g ∨ g' = w.heap.size) → K (a.put o.dst (.slice (some ⟨g', 0, none⟩) (n + m) cap)) w') :
    if Region.wanted o (yielded ops a.tmps) = true then Oper.wp Try.prog o a w K Q else E := by
  obtain ⟨i0, hi, hz0, hz1, hz2⟩ := info_parts Try.info110
  have hw : Region.wanted o (yielded ops a.tmps) = true := by simp [Region.wanted, hgd]
  rw [if_pos hw]
  have hzero : ∀ ax cx, m = 0 → v = .slice ax 0 cx → Oper.wp Try.prog o a w K Q := by
    rintro ax cx rfl rfl
    have hL : n ≤ c := by
      rcases hown.2 with ⟨h', _⟩ | ⟨g', cap', cur, h', hb, hg, hnc, hcm, hcs, htake⟩
      · simp at h'
      · simp only [Value.slice.injEq] at h'; omega
    have hrun := run_append_nothing (P := Try.prog) w 27 27 o.type 110 i0 Try.underlying27 hi (some ⟨g, 0, none⟩) n c hL (.slice ax 0 cx) (by rw [hz1]; exact src26)
    unfold Oper.wp
    simp [execOp, ho, resolve, invoke, builtin, hs, hx, hrun, Result.andThen]
    exact h g c w (by rw [byteRow_glue]; simpa [byteRow] using hown) (grown_drews w 0 _) (.inl rfl)
  rcases hr with ⟨hm, ax, cx, hv⟩ | ⟨gx, cx, hv, _, hc⟩
  · exact hzero ax cx hm hv
  · by_cases hm : m = 0
    · exact hzero _ cx hm (by rw [hv, hm])
    · refine wp_append_lies w s x 27 ho B 110 i0 (.agg #[.int .u64 0, .int .u8 0]) 2 16 Try.underlying27 hi hz0 hz1 hz2 rfl (by decide) _ n (byteRow bs n) hs hown ⟨gx, 0, none⟩ m cx (byteRow cs m) (by rw [hx, hv]) (byteRow_len _ _) (byteRow_cells m hc) (byteRow_one _ _) (by omega) (by unfold maxLen; omega) (by omega) hB _ rfl ?_
      intro g' cap w' h1 h2 h3 h4
      refine h g' cap w' (by rw [byteRow_glue]; exact h1) h2 ?_
      rcases h3 with h3 | h3
      · left
        have : some g = some g' := h3
        simpa using this.symm
      · exact .inr h3
end Go.Proofs.Ythnmoalomodbpaa
