/- The statement on Hex, Dec, Parse and ParseInt of layer 1 returns true for every word and number. -/
import Derived.Test.YtooaafbdjnlmfaaDoorDeci
namespace Go.Proofs.YtooaafbdjnlmfaaDoor
open Go.RowKit Go.Deep
theorem ext_list (l : List UInt8) (i j : Nat) : (⟨l.toArray⟩ : ByteArray).extract i j = ⟨((l.take j).drop i).toArray⟩ := by
  apply ByteArray.ext
  rw [ByteArray.data_extract]
  apply Array.toList_inj.1
  simp [List.drop_take]
theorem list_mk (l : List UInt8) : (⟨l.toArray⟩ : ByteArray).toList = l := by rw [ByteArray.toList_eq]
theorem fB_mk (l : List UInt8) (i : Nat) (h : i < l.length) : fB ⟨l.toArray⟩ i = (l[i]).toNat := by
  rw [fB_at _ _ (by rw [size_mk]; exact h)]
  rfl
theorem p_dtext (b f x : Nat) (hb : b ≤ 16) (hb2 : 2 ≤ b) (hx : x < 18446744073709551616) (h : x < b ^ (f + 1)) :
    pnum b ⟨(dtext b (f + 1) x).toArray⟩ = x ∧ pok b ⟨(dtext b (f + 1) x).toArray⟩ = true := by
  have hp := pdig_dtext b hb hb2 ⟨(dtext b (f + 1) x).toArray⟩ f x hx h (fun i hi => fB_mk _ i hi)
  rw [← size_mk] at hp
  obtain ⟨h1, h2⟩ := p_end hp
  refine ⟨h1, ?_⟩
  rw [h2, size_mk]
  have := dtext_pos b f x
  simp only [ne_eq, decide_eq_true_eq]
  omega
theorem hexS_eq (x : Nat) : hexS x = ⟨(48 :: 120 :: dtext 16 16 x).toArray⟩ := by
  unfold hexS
  apply ByteArray.ext
  rw [ByteArray.data_append]
  simp
theorem hex_back (x : Nat) (hx : x < 18446744073709551616) : parseN (hexS x) = x ∧ parseOk (hexS x) = true := by
  have hl := dtext_pos 16 15 x
  have hh : isHex (hexS x) := by
    rw [hexS_eq]
    refine ⟨by rw [size_mk]; simp; omega, ?_⟩
    rw [ext_list, list_mk]
    simp
  have ht : (hexS x).extract 2 (hexS x).size = ⟨(dtext 16 (15 + 1) x).toArray⟩ := by
    rw [hexS_eq, size_mk, ext_list]
    simp
  unfold parseN parseOk
  rw [if_pos hh, if_pos hh, ht]
  exact p_dtext 16 15 x (by omega) (by omega) hx (by omega)
theorem dch_dec (d : Nat) (h : d < 10) : 48 ≤ (dch d).toNat ∧ (dch d).toNat ≤ 57 := by
  have : ∀ d : Fin 10, 48 ≤ (dch d.val).toNat ∧ (dch d.val).toNat ≤ 57 := by decide +kernel
  exact this ⟨d, h⟩
theorem dtext_dig : ∀ (f x i : Nat) (h : i < (dtext 10 f x).length), 48 ≤ ((dtext 10 f x)[i]).toNat ∧ ((dtext 10 f x)[i]).toNat ≤ 57
  | 0, x, i, h => by simp [dtext] at h
  | f + 1, x, i, h => by
    by_cases hx : x < 10
    · have e : dtext 10 (f + 1) x = [dch x] := by rw [dtext, if_pos hx]
      simp only [e] at h ⊢
      simp at h
      subst h
      exact dch_dec x hx
    · have e : dtext 10 (f + 1) x = dtext 10 f (x / 10) ++ [dch (x % 10)] := by rw [dtext, if_neg hx]
      simp only [e] at h ⊢
      by_cases hi : i < (dtext 10 f (x / 10)).length
      · rw [List.getElem_append_left hi]; exact dtext_dig f (x / 10) i hi
      · rw [List.getElem_append_right (by omega)]
        simp
        exact dch_dec _ (by omega)
theorem dec_nat (x : Nat) (hx : x < 18446744073709551616) : parseN ⟨(dtext 10 20 x).toArray⟩ = x ∧ parseOk ⟨(dtext 10 20 x).toArray⟩ = true := by
  have hh : ¬ isHex ⟨(dtext 10 20 x).toArray⟩ := by
    intro h
    have h2 : 2 < (dtext 10 20 x).length := by have := h.1; rw [size_mk] at this; exact this
    have h3 := h.2
    rw [ext_list, list_mk] at h3
    have h4 : ((dtext 10 20 x).take 2)[1]? = some 120 := by rw [List.drop_zero] at h3; rw [h3]; rfl
    rw [List.getElem?_take_of_lt (by omega), List.getElem?_eq_getElem (by omega)] at h4
    have h5 := dtext_dig 20 x 1 (by omega)
    simp only [Option.some.injEq] at h4
    rw [h4] at h5
    exact absurd h5.2 (by decide)
  unfold parseN parseOk
  rw [if_neg hh, if_neg hh]
  exact p_dtext 10 19 x (by omega) (by omega) hx (by omega)
theorem dec_back (n : Int) (h0 : -9223372036854775808 ≤ n) (h1 : n ≤ 9223372036854775807) : intN (decS n) = n ∧ intOk (decS n) = true := by
  by_cases hn : n < 0
  · obtain ⟨x, rfl⟩ : ∃ x : Nat, n = -(x : Int) := ⟨n.natAbs, by omega⟩
    have hx : x < 18446744073709551616 := by omega
    have e : decS (-(x : Int)) = ⟨(45 :: dtext 10 20 x).toArray⟩ := by
      rw [decS_neg x (by omega) hx]
      apply ByteArray.ext
      rw [ByteArray.data_append]
      simp
    rw [e]
    have hg : isNeg ⟨(45 :: dtext 10 20 x).toArray⟩ := ⟨by rw [size_mk]; simp, by rw [ext_list, list_mk]; simp⟩
    have ht : tailS ⟨(45 :: dtext 10 20 x).toArray⟩ = ⟨(dtext 10 20 x).toArray⟩ := by
      unfold tailS
      rw [size_mk, ext_list]
      simp
    obtain ⟨p1, p2⟩ := dec_nat x hx
    unfold intN intOk
    rw [if_pos hg, if_pos hg, ht, p1, p2, if_pos ⟨rfl, by omega⟩]
    exact ⟨rfl, by simp; omega⟩
  · obtain ⟨x, rfl⟩ : ∃ x : Nat, n = (x : Int) := ⟨n.toNat, by omega⟩
    have hx : x < 18446744073709551616 := by omega
    rw [decS_pos x hx]
    have hg : ¬ isNeg ⟨(dtext 10 20 x).toArray⟩ := by
      intro h
      have h2 := dtext_pos 10 19 x
      have h3 := h.2
      rw [ext_list, list_mk] at h3
      have h4 : ((dtext 10 20 x).take 1)[0]? = some 45 := by rw [List.drop_zero] at h3; rw [h3]; rfl
      rw [List.getElem?_take_of_lt (by omega), List.getElem?_eq_getElem (by omega)] at h4
      have h5 := dtext_dig 20 x 0 (by omega)
      simp only [Option.some.injEq] at h4
      rw [h4] at h5
      exact absurd h5.1 (by decide)
    obtain ⟨p1, p2⟩ := dec_nat x hx
    unfold intN intOk
    rw [if_neg hg, if_neg hg, p1, p2, if_pos ⟨rfl, by omega⟩]
    exact ⟨rfl, by simp; omega⟩
theorem hexS_size (x : Nat) : (hexS x).size ≤ 9223372036854775807 := by
  have := dtext_len 16 16 x
  rw [hexS_eq, size_mk]
  simp
  omega
theorem decS_size (n : Int) (h0 : -9223372036854775808 ≤ n) (h1 : n ≤ 9223372036854775807) : (decS n).size ≤ 9223372036854775807 := by
  have := Lib.itoa_length_le n h0 h1
  unfold decS
  rw [size_mk]
  omega
/-- the library's two tables that are read lie where their variables are -/
structure TabsLie (w : World) : Prop where
  low : w.cell? ⟨8, 15, none⟩ = some (.int .u8 4)
  pow : Lib.TabIs Tryd.prog w "internal/strconv.uint64pow10" .u64 Lib.pow10Tab
theorem gPow : Tryd.prog.globalNamed "internal/strconv.uint64pow10" = some 6 := by kernel_rfl
theorem tabs_below {w w' : World} (h : TabsLie w) (hb : Below w.heap.size w w') : TabsLie w' := by
  have hs := block_lt_of_cell h.low
  refine ⟨by rw [hb.cell (p := ⟨8, 15, none⟩) hs]; exact h.low, ?_⟩
  exact var?_below hb gPow (by have : 8 < w.heap.size := hs; omega) h.pow
end Go.Proofs.YtooaafbdjnlmfaaDoor
