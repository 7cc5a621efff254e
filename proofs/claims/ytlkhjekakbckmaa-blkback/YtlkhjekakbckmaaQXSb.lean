/- Bytes over and over. -/
import Derived.Test.YtlkhjekakbckmaaQXDd
import Derived.Deep.Upon
namespace Go.Proofs.Ytlkhjekakbckmaa.D
open Go.RowKit Go.Maps
set_option linter.unusedVariables false
set_option linter.unusedSimpArgs false
set_option maxRecDepth 100000
theorem below_drewN (w : World) (q : Nat) : Below w.heap.size w (w.drewN q) := ⟨rfl, rfl, rfl, Nat.le_refl _, fun _ _ => rfl⟩
theorem wrap64_in {x : Int} (h1 : -9223372036854775808 ≤ x) (h2 : x ≤ 9223372036854775807) : wrap64 x = x := by unfold wrap64; omega
def overF (f : Nat → Nat) (l i : Nat) : Nat := f (i % l)
theorem overF_le {f : Nat → Nat} (l : Nat) (h : ∀ i, f i ≤ 255) (i : Nat) : overF f l i ≤ 255 := h _
theorem overF_next (f : Nat → Nat) (l k : Nat) : rowK .u8 (overF f l) (k * l) ++ rowK .u8 f l = rowK .u8 (overF f l) ((k + 1) * l) := by
  apply List.ext_getElem?
  intro i
  have e2 : (k + 1) * l = k * l + l := by rw [Nat.add_mul, Nat.one_mul]
  by_cases h : i < k * l
  · rw [List.getElem?_append_left (by rw [rowK_length]; exact h), rowK_get _ _ _ _ h, rowK_get _ _ _ _ (by omega)]
  · rw [List.getElem?_append_right (by rw [rowK_length]; omega), rowK_length]
    by_cases h2 : i < (k + 1) * l
    · rw [rowK_get _ _ _ _ (by omega), rowK_get _ _ _ _ h2]
      unfold overF
      have e3 : i % l = i - k * l := by
        obtain ⟨d, rfl⟩ : ∃ d, i = k * l + d := ⟨i - k * l, by omega⟩
        rw [Nat.add_comm, Nat.add_mul_mod_self_right, Nat.mod_eq_of_lt (by omega)]
        omega
      rw [e3]
    · rw [List.getElem?_eq_none (by rw [rowK_length]; omega), List.getElem?_eq_none (by rw [rowK_length]; omega)]
theorem wpList_append_data {w : World} {ops : Array Oper} {rest : List Oper} {o : Oper} {a : Act} {Q : Exit → Act → World → Prop} (hgd : o.guard = none) (s x : Operand) (ho : o.op = .call { callee := .builtin .append, args := #[s, x], argTypes := #[22, 22] })
    (B n : Nat) (v : Value) (xs : List Value) (hs : a.eval s = v) (hown : w.ownsRow B 5 1 v n xs) (u : Value) (hx : a.eval x = u) (L : Nat) (f : Nat → Nat) (hr : Reads .u8 w u L f) (hL : n + L ≤ 1000000) (hB : B ≤ w.heap.size)
    (h : ∀ v' w', w'.ownsRow B 5 1 v' (n + L) (xs ++ rowK .u8 f L) → w.grownBy w' v.ownBlock → wpList Try.prog ops Q rest (a.put o.dst v') w') : wpList Try.prog ops Q (o :: rest) a w := by
  obtain ⟨i0, hi, hz0, hz1, hz2⟩ := info_parts Try.info5
  rcases hr with ⟨rfl, ax, c, rfl⟩ | ⟨b, off, c, rfl, hc⟩
  · refine wpList_plain hgd fun K hK => ?_
    obtain ⟨bs, cap, rfl, hle⟩ : ∃ bs cap, v = .slice bs n cap ∧ n ≤ cap := by
      rcases hown.2 with ⟨rfl, rfl⟩ | ⟨g, cap, cur, rfl, _, _, h1, _⟩
      · exact ⟨none, 0, rfl, Nat.le_refl _⟩
      · exact ⟨_, cap, rfl, h1⟩
    have hrun := run_append_nothing (P := Try.prog) w 22 22 o.type 5 i0 Try.underlying22 hi bs n cap hle (.slice ax 0 c) (by rw [hz1]; exact src_zero)
    unfold Oper.wp
    simp [execOp, ho, resolve, invoke, builtin, hs, hx, hrun, Result.andThen]
    exact hK _ _ (h _ w (by rw [rowK_nil, List.append_nil]; exact hown) (World.grownBy.refl _ _))
  · refine wpList_append_own w hgd s x 22 ho B 5 i0 (.int .u8 0) 1 1 Try.underlying22 hi hz0 hz1 hz2 rfl (by decide) v n xs hs hown ⟨b, off, none⟩ L c (rowK .u8 f L) hx (by rw [rowK_length]; omega) (fun j u hu => by obtain ⟨h1, rfl⟩ := rowK_at _ _ _ _ _ hu; rw [addr_add]; exact hc j h1) (rowK_one _ _ _) (by unfold maxLen; omega) (by omega) hB ?_
    intro v' w' hown' hgrow _
    exact h v' w' hown' hgrow
theorem owns_form {w : World} {B : Nat} {v : Value} {n : Nat} {xs : List Value} (h : w.ownsRow B 5 1 v n xs) : ∃ a c, v = .slice a n c := by
  rcases h.2 with ⟨rfl, rfl⟩ | ⟨g, cap, cur, rfl, _⟩
  · exact ⟨_, _, rfl⟩
  · exact ⟨_, _, rfl⟩
theorem owns_readsF {F : Nat → Prop} {w : World} {base : Nat} {v : Value} {n : Nat} {f : Nat → Nat} (h : w.ownsRow base 5 1 v n (rowK .u8 f n)) (hF : ∀ k, F k → k < base) : ReadsF F w v n f := by
  rcases h.2 with ⟨rfl, rfl⟩ | ⟨g, cap, cur, rfl, hb, _, h1, h2, _⟩
  · exact .inl ⟨rfl, _, _, by omega, rfl⟩
  · refine .inr ⟨g, 0, cap, rfl, fun hf => by have := hF g hf; omega, h1, by unfold maxLen at h2; omega, fun i hi => by rw [Nat.zero_add, h.cellAt i (by omega)]; exact rowK_get _ _ _ _ hi⟩
end Go.Proofs.Ytlkhjekakbckmaa.D
