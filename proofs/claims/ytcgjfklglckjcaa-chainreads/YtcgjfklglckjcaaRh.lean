/- The bytes of a descriptor on both sides; RingBytes. -/
import Derived.Test.YtcgjfklglckjcaaRe
import Derived.Test.YtcgjfklglckjcaaRd
import Derived.Deep.RegionHeld3
namespace Go.Proofs.Ytcgjfklglckjcaa
open Go.RowKit Go.Maps
set_option linter.unusedVariables false
set_option linter.unusedSimpArgs false
set_option maxRecDepth 100000
theorem own_below {B : Nat} {e : TypeId} {k : Nat} {v : Value} {n : Nat} {xs : List Value} {w w' : World} (h : w.ownsRow B e k v n xs) (hb : Below w.heap.size w w') : w'.ownsRow B e k v n xs :=
  h.kept (row := none) ⟨hb.os, hb.tape, hb.output, hb.size, fun k hk _ => hb.block k hk⟩ (by cases v.ownBlock <;> simp)
theorem own_low {B B2 : Nat} {e : TypeId} {k : Nat} {v : Value} {n : Nat} {xs : List Value} {w : World} (h : w.ownsRow B e k v n xs) (hb : B2 ≤ B) : w.ownsRow B2 e k v n xs := by
  refine ⟨h.1, ?_⟩
  rcases h.2 with h | ⟨g, cap, cur, h1, h2, h3⟩
  · exact .inl h
  · exact .inr ⟨g, cap, cur, h1, Nat.le_trans hb h2, h3⟩
theorem below_to {w w1 w2 : World} (h1 : Below w.heap.size w w1) (h2 : Below w1.heap.size w1 w2) : Below w.heap.size w w2 := h1.trans (h2.mono h1.size)
/-- one row behind another -/
def catF (f : Nat → Nat) (n : Nat) (g : Nat → Nat) (i : Nat) : Nat := if i < n then f i else g (i - n)
theorem rowK_cat (k : IntKind) (f g : Nat → Nat) (n : Nat) : ∀ L, rowK k f n ++ rowK k g L = rowK k (catF f n g) (n + L)
  | 0 => by
    rw [show rowK k g 0 = [] from rfl, List.append_nil, Nat.add_zero]
    exact rowK_congr k f _ n (fun i hi => by unfold catF; rw [if_pos hi])
  | L + 1 => by
    rw [rowK_succ, ← List.append_assoc, rowK_cat k f g n L, show n + (L + 1) = n + L + 1 from rfl, rowK_succ]
    unfold catF
    rw [if_neg (by omega), show n + L - n = L from by omega]
theorem wpList_append_more {w : World} {ops : Array Oper} {rest : List Oper} {o : Oper} {a : Act} {Q : Exit → Act → World → Prop} (hgd : o.guard = none) (s x : Operand) (ho : o.op = .call { callee := .builtin .append, args := #[s, x], argTypes := #[64, 64] })
    (B n : Nat) (f : Nat → Nat) (v : Value) (hs : a.eval s = v) (hown : w.ownsRow B 5 1 v n (rowK .u8 f n)) (v2 : Value) (hx : a.eval x = v2) (L : Nat) (f2 : Nat → Nat) (hr : Reads .u8 w v2 L f2) (h0 : 0 < L) (hL : n + L ≤ 1000) (hB : B ≤ w.heap.size)
    (h : ∀ g' cap w', w'.ownsRow B 5 1 (.slice (some ⟨g', 0, none⟩) (n + L) cap) (n + L) (rowK .u8 (catF f n f2) (n + L)) → Below B w w' → wpList Try.prog ops Q rest (a.put o.dst (.slice (some ⟨g', 0, none⟩) (n + L) cap)) w') : wpList Try.prog ops Q (o :: rest) a w := by
  obtain ⟨i0, hi, hz0, hz1, hz2⟩ := info_parts Try.info5
  rcases hr with ⟨rfl, ax, c, rfl⟩ | ⟨b, off, c, rfl, hc⟩
  · omega
  · refine wpList_append_own w hgd s x 64 ho B 5 i0 (.int .u8 0) 1 1 Try.underlying64 hi hz0 hz1 hz2 rfl (by decide) _ n (rowK .u8 f n) hs hown ⟨b, off, none⟩ L c (rowK .u8 f2 L) hx (by rw [rowK_length]; omega) (fun j u hu => by obtain ⟨h1, rfl⟩ := rowK_at _ _ _ _ _ hu; rw [addr_add]; exact hc j h1) (rowK_one _ _ _) (by unfold maxLen; omega) (by omega) hB ?_
    intro v' w' hown' hgrow hnil
    rw [rowK_cat] at hown'
    have hlow : ∀ g, v.ownBlock = some g → B ≤ g := fun g hg => (hown.lt g hg).1
    rcases hown'.2 with ⟨rfl, _⟩ | ⟨g', cap, cur, rfl, hb', _⟩
    · have := hnil.1 rfl; omega
    · exact h g' cap w' hown' (Below.grown (Below.refl _ _) hgrow hB hlow)
/-- the bytes of a descriptor -/
def dB (ad ln fl nx : Nat) : Nat → Nat := catF (catF (catF (byteAt ad) 8 (byteAt ln)) 12 (byteAt fl)) 14 (byteAt nx)
theorem own_form {B n : Nat} {v : Value} {w : World} {xs : List Value} (h : w.ownsRow B 5 1 v n xs) : ∃ a c, v = .slice a n c := by
  rcases h.2 with ⟨rfl, rfl, _⟩ | ⟨g, cap, cur, rfl, _⟩
  · exact ⟨_, _, rfl⟩
  · exact ⟨_, _, rfl⟩
end Go.Proofs.Ytcgjfklglckjcaa
