/- The bytes of a descriptor on both sides; RingBytes. -/
import Derived.Test.YthnmoalomodbpaaRe
import Derived.Test.YthnmoalomodbpaaRd
import Derived.Deep.RegionHeld3
namespace Go.Proofs.Ythnmoalomodbpaa
open Go.RowKit Go.Maps
set_option linter.unusedVariables false
set_option linter.unusedSimpArgs false
set_option maxRecDepth 100000
theorem own_below {B : Nat} {e : TypeId} {k : Nat} {v : Value} {n : Nat} {xs : List Value} {w w' : World} (h : w.ownsRow B e k v n xs) (hb : Below w.heap.size w w') : w'.ownsRow B e k v n xs :=
  h.kept (row := none) ⟨hb.os, hb.tape, hb.output, hb.size, fun k hk _ => hb.block k hk⟩ (by cases v.ownBlock <;> simp)
theorem own_low {B B2 : Nat} {e : TypeId} {k : Nat} {v : Value} {n : Nat} {xs : List Value} {w : World} (h : w.ownsRow B e k v n xs) (hb : B2 ≤ B) : w.ownsRow B2 e k v n xs := by
  refine ⟨h.1, ?_⟩
  rcases h.2 with h | ⟨g, cap, cur, h1, h2, h3⟩
  · exact .inl h
  · exact .inr ⟨g, cap, cur, h1, Nat.le_trans hb h2, h3⟩
theorem below_to {w w1 w2 : World} (h1 : Below w.heap.size w w1) (h2 : Below w1.heap.size w1 w2) : Below w.heap.size w w2 := h1.trans (h2.mono h1.size)
/-- one row behind another -/
def catF (f : Nat → Nat) (n : Nat) (g : Nat → Nat) (i : Nat) : Nat := if i < n then f i else g (i - n)
theorem rowK_cat (k : IntKind) (f g : Nat → Nat) (n : Nat) : ∀ L, rowK k f n ++ rowK k g L = rowK k (catF f n g) (n + L)
  | 0 => by
    rw [show rowK k g 0 = [] from rfl, List.append_nil, Nat.add_zero]
    exact rowK_congr k f _ n (fun i hi => by unfold catF; rw [if_pos hi])
  | L + 1 => by
    rw [rowK_succ, ← List.append_assoc, rowK_cat k f g n L, show n + (L + 1) = n + L + 1 from rfl, rowK_succ]
    unfold catF
    rw [if_neg (by omega), show n + L - n = L from by omega]
theorem wpList_append_more {w : World} {ops : Array Oper} {rest : List Oper} {o : Oper} {a : Act} {Q : Exit → Act → World → Prop} (hgd : o.guard = none) (s x : Operand) (ho : o.op = .call { callee := .builtin .append, args := #[s, x], argTypes := #[51, 51] })
    (B n : Nat) (f : Nat → Nat) (v : Value) (hs : a.eval s = v) (hown : w.ownsRow B 5 1 v n (rowK .u8 f n)) (v2 : Value) (hx : a.eval x = v2) (L : Nat) (f2 : Nat → Nat) (hr : Reads .u8 w v2 L f2) (h0 : 0 < L) (hL : n + L ≤ 1000) (hB : B ≤ w.heap.size)
    (h : ∀ g' cap w', w'.ownsRow B 5 1 (.slice (some ⟨g', 0, none⟩) (n + L) cap) (n + L) (rowK .u8 (catF f n f2) (n + L)) → Below B w w' → wpList Try.prog ops Q rest (a.put o.dst (.slice (some ⟨g', 0, none⟩) (n + L) cap)) w') : wpList Try.prog ops Q (o :: rest) a w := by
  obtain ⟨i0, hi, hz0, hz1, hz2⟩ := info_parts Try.info5
  rcases hr with ⟨rfl, ax, c, rfl⟩ | ⟨b, off, c, rfl, hc⟩
  · omega
  · refine wpList_append_own w hgd s x 51 ho B 5 i0 (.int .u8 0) 1 1 Try.underlying51 hi hz0 hz1 hz2 rfl (by decide) _ n (rowK .u8 f n) hs hown ⟨b, off, none⟩ L c (rowK .u8 f2 L) hx (by rw [rowK_length]; omega) (fun j u hu => by obtain ⟨h1, rfl⟩ := rowK_at _ _ _ _ _ hu; rw [addr_add]; exact hc j h1) (rowK_one _ _ _) (by unfold maxLen; omega) (by omega) hB ?_
    intro v' w' hown' hgrow hnil
    rw [rowK_cat] at hown'
    have hlow : ∀ g, v.ownBlock = some g → B ≤ g := fun g hg => (hown.lt g hg).1
    rcases hown'.2 with ⟨rfl, _⟩ | ⟨g', cap, cur, rfl, hb', _⟩
    · have := hnil.1 rfl; omega
    · exact h g' cap w' hown' (Below.grown (Below.refl _ _) hgrow hB hlow)
/-- the bytes of a descriptor -/
def dB (ad ln fl nx : Nat) : Nat → Nat := catF (catF (catF (byteAt ad) 8 (byteAt ln)) 12 (byteAt fl)) 14 (byteAt nx)
theorem own_form {B n : Nat} {v : Value} {w : World} {xs : List Value} (h : w.ownsRow B 5 1 v n xs) : ∃ a c, v = .slice a n c := by
  rcases h.2 with ⟨rfl, rfl, _⟩ | ⟨g, cap, cur, rfl, _⟩
  · exact ⟨_, _, rfl⟩
  · exact ⟨_, _, rfl⟩
theorem bytes_desc (ad ln fl nx : Nat) (had : ad < 18446744073709551616) (hln : ln ≤ 4294967295) (hfl : fl ≤ 65535) (hnx : nx ≤ 65535) (w : World) :
    Calls Try.prog 21 #[.agg #[.int .u64 (ad : Int), .int .u32 (ln : Int), .int .u16 (fl : Int), .int .u16 (nx : Int)]] w fun e w' => ∃ g c, e = .returned (.slice (some ⟨g, 0, none⟩) 16 c) ∧ w'.ownsRow w.heap.size 5 1 (.slice (some ⟨g, 0, none⟩) 16 c) 16 (rowK .u8 (dB ad ln fl nx) 16) ∧ Below w.heap.size w w' := by
  have e1 : IntKind.u64.wrap (ln : Int) = (ln : Int) := by rw [wrap_u64]; omega
  have e2 : IntKind.u64.wrap (fl : Int) = (fl : Int) := by rw [wrap_u64]; omega
  have e3 : IntKind.u64.wrap (nx : Int) = (nx : Int) := by rw [wrap_u64]; omega
  have H : Hid (ad < 18446744073709551616 ∧ ln < 18446744073709551616 ∧ fl < 18446744073709551616 ∧ nx < 18446744073709551616) := ⟨had, by omega, by omega, by omega⟩
  clear had hln hfl hnx
  have B0 : Hid ((w.alloc (.cells #[.int .u64 (ad : Int), .int .u32 (ln : Int), .int .u16 (fl : Int), .int .u16 (nx : Int)] 47)).heap[w.heap.size]? = some (.cells #[.int .u64 (ad : Int), .int .u32 (ln : Int), .int .u16 (fl : Int), .int .u16 (nx : Int)] 47 (0, 0)) ∧ Below w.heap.size w (w.alloc (.cells #[.int .u64 (ad : Int), .int .u32 (ln : Int), .int .u16 (fl : Int), .int .u16 (nx : Int)] 47))) := ⟨heap_alloc_new _ _, (Below.refl _ _).alloc (Nat.le_refl _) _⟩
  go_enter Try.func21, Try.ntmps21
  go_upto_region 1 with fail
  generalize w.alloc (.cells #[.int .u64 (ad : Int), .int .u32 (ln : Int), .int .u16 (fl : Int), .int .u16 (nx : Int)] 47) = w0 at *
  obtain ⟨c0, c1, c2, c3⟩ := box4_facts B0.out.1
  go_wp2_with fail
  refine (bytes_any ad 8 8 H.out.1 (by decide) _).mono ?_
  rintro e w1 ⟨v1, rfl, ho1, hb1⟩
  have Y1 : Hid (w1.heap[w.heap.size]? = some (.cells #[.int .u64 (ad : Int), .int .u32 (ln : Int), .int .u16 (fl : Int), .int .u16 (nx : Int)] 47 (0, 0)) ∧ Below w.heap.size w w1 ∧ w1.ownsRow (w.heap.size + 1) 5 1 v1 8 (rowK .u8 (byteAt ad) 8)) := ⟨below_box B0.out.1 hb1, B0.out.2.trans (hb1.mono B0.out.2.size), own_low ho1 (Array.getElem?_eq_some_iff.1 B0.out.1).1⟩
  clear ho1 hb1 B0 c0 c1 c2 c3
  obtain ⟨a1, k1, hv1⟩ := own_form Y1.out.2.2
  subst hv1
  obtain ⟨c0, c1, c2, c3⟩ := box4_facts Y1.out.1
  go_wp2_with fail
  refine (bytes_any ln 4 4 H.out.2.1 (by decide) _).mono ?_
  rintro e w2 ⟨v2, rfl, ho, hb⟩
  have Y2 : Hid (w2.heap[w.heap.size]? = some (.cells #[.int .u64 (ad : Int), .int .u32 (ln : Int), .int .u16 (fl : Int), .int .u16 (nx : Int)] 47 (0, 0)) ∧ Below w.heap.size w w2 ∧ w2.ownsRow (w.heap.size + 1) 5 1 (.slice a1 8 k1) 8 (rowK .u8 (byteAt ad) 8) ∧ Reads .u8 w2 v2 4 (byteAt ln)) := ⟨below_box Y1.out.1 hb, Y1.out.2.1.trans (hb.mono Y1.out.2.1.size), own_below Y1.out.2.2 hb, reads_own ho⟩
  clear ho hb Y1 c0 c1 c2 c3
  obtain ⟨a2, k2, hv⟩ := reads_form Y2.out.2.2.2
  subst hv
  go_wp2_with (first | (at_builtin; refine wpList_append_more rfl _ _ rfl (w.heap.size + 1) 8 (byteAt ad) (.slice a1 8 k1) rfl Y2.out.2.2.1 (.slice a2 4 k2) rfl 4 (byteAt ln) Y2.out.2.2.2 (by decide) (by decide) (Array.getElem?_eq_some_iff.1 Y2.out.1).1 ?_; intro g2 q2 w3 ho hb; have Y3 : Hid (w3.heap[w.heap.size]? = some (.cells #[.int .u64 (ad : Int), .int .u32 (ln : Int), .int .u16 (fl : Int), .int .u16 (nx : Int)] 47 (0, 0)) ∧ Below w.heap.size w w3 ∧ w3.ownsRow (w.heap.size + 1) 5 1 (.slice (some ⟨g2, 0, none⟩) 12 q2) 12 (rowK .u8 (catF (byteAt ad) 8 (byteAt ln)) 12)) := ⟨(hb.block _ (Nat.lt_succ_self _)).trans Y2.out.1, Y2.out.2.1.trans (hb.mono (Nat.le_succ _)), ho⟩; clear ho hb Y2; obtain ⟨c0, c1, c2, c3⟩ := box4_facts Y3.out.1))
  refine (bytes_any fl 2 2 H.out.2.2.1 (by decide) _).mono ?_
  rintro e w4 ⟨v4, rfl, ho, hb⟩
  have Y4 : Hid (w4.heap[w.heap.size]? = some (.cells #[.int .u64 (ad : Int), .int .u32 (ln : Int), .int .u16 (fl : Int), .int .u16 (nx : Int)] 47 (0, 0)) ∧ Below w.heap.size w w4 ∧ w4.ownsRow (w.heap.size + 1) 5 1 (.slice (some ⟨g2, 0, none⟩) 12 q2) 12 (rowK .u8 (catF (byteAt ad) 8 (byteAt ln)) 12) ∧ Reads .u8 w4 v4 2 (byteAt fl)) := ⟨below_box Y3.out.1 hb, Y3.out.2.1.trans (hb.mono Y3.out.2.1.size), own_below Y3.out.2.2 hb, reads_own ho⟩
  clear ho hb Y3 c0 c1 c2 c3
  obtain ⟨a4, k4, hv⟩ := reads_form Y4.out.2.2.2
  subst hv
  go_wp2_with (first | (at_builtin; refine wpList_append_more rfl _ _ rfl (w.heap.size + 1) 12 (catF (byteAt ad) 8 (byteAt ln)) (.slice (some ⟨g2, 0, none⟩) 12 q2) rfl Y4.out.2.2.1 (.slice a4 2 k4) rfl 2 (byteAt fl) Y4.out.2.2.2 (by decide) (by decide) (Array.getElem?_eq_some_iff.1 Y4.out.1).1 ?_; intro g4 q4 w5 ho hb; have Y5 : Hid (w5.heap[w.heap.size]? = some (.cells #[.int .u64 (ad : Int), .int .u32 (ln : Int), .int .u16 (fl : Int), .int .u16 (nx : Int)] 47 (0, 0)) ∧ Below w.heap.size w w5 ∧ w5.ownsRow (w.heap.size + 1) 5 1 (.slice (some ⟨g4, 0, none⟩) 14 q4) 14 (rowK .u8 (catF (catF (byteAt ad) 8 (byteAt ln)) 12 (byteAt fl)) 14)) := ⟨(hb.block _ (Nat.lt_succ_self _)).trans Y4.out.1, Y4.out.2.1.trans (hb.mono (Nat.le_succ _)), ho⟩; clear ho hb Y4; obtain ⟨c0, c1, c2, c3⟩ := box4_facts Y5.out.1))
  refine (bytes_any nx 2 2 H.out.2.2.2 (by decide) _).mono ?_
  rintro e w6 ⟨v6, rfl, ho, hb⟩
  have Y6 : Hid (w6.heap[w.heap.size]? = some (.cells #[.int .u64 (ad : Int), .int .u32 (ln : Int), .int .u16 (fl : Int), .int .u16 (nx : Int)] 47 (0, 0)) ∧ Below w.heap.size w w6 ∧ w6.ownsRow (w.heap.size + 1) 5 1 (.slice (some ⟨g4, 0, none⟩) 14 q4) 14 (rowK .u8 (catF (catF (byteAt ad) 8 (byteAt ln)) 12 (byteAt fl)) 14) ∧ Reads .u8 w6 v6 2 (byteAt nx)) := ⟨below_box Y5.out.1 hb, Y5.out.2.1.trans (hb.mono Y5.out.2.1.size), own_below Y5.out.2.2 hb, reads_own ho⟩
  clear ho hb Y5 c0 c1 c2 c3
  obtain ⟨a6, k6, hv⟩ := reads_form Y6.out.2.2.2
  subst hv
  go_wp2_with (first | (at_builtin; refine wpList_append_more rfl _ _ rfl (w.heap.size + 1) 14 (catF (catF (byteAt ad) 8 (byteAt ln)) 12 (byteAt fl)) (.slice (some ⟨g4, 0, none⟩) 14 q4) rfl Y6.out.2.2.1 (.slice a6 2 k6) rfl 2 (byteAt nx) Y6.out.2.2.2 (by decide) (by decide) (Array.getElem?_eq_some_iff.1 Y6.out.1).1 ?_; intro g6 q6 w7 ho hb))
  go_ret
  exact ⟨_, _, rfl, own_low ho (Nat.le_succ _), Y6.out.2.1.trans (hb.mono (Nat.le_succ _))⟩
theorem rbytes_desc (ad ln fl nx : Nat) (had : ad < 18446744073709551616) (hln : ln ≤ 4294967295) (hfl : fl ≤ 65535) (hnx : nx ≤ 65535) (w : World) :
    Calls Try.prog 22 #[.agg #[.int .u64 (ad : Int), .int .u32 (ln : Int), .int .u16 (fl : Int), .int .u16 (nx : Int)]] w fun e w' => ∃ g c, e = .returned (.slice (some ⟨g, 0, none⟩) 16 c) ∧ w'.ownsRow w.heap.size 5 1 (.slice (some ⟨g, 0, none⟩) 16 c) 16 (rowK .u8 (dB ad ln fl nx) 16) ∧ Below w.heap.size w w' := by
  have e1 : IntKind.u64.wrap (ln : Int) = (ln : Int) := by rw [wrap_u64]; omega
  have e2 : IntKind.u64.wrap (fl : Int) = (fl : Int) := by rw [wrap_u64]; omega
  have e3 : IntKind.u64.wrap (nx : Int) = (nx : Int) := by rw [wrap_u64]; omega
  have H : Hid (ad < 18446744073709551616 ∧ ln < 18446744073709551616 ∧ fl < 18446744073709551616 ∧ nx < 18446744073709551616) := ⟨had, by omega, by omega, by omega⟩
  clear had hln hfl hnx
  have B0 : Hid ((w.alloc (.cells #[.int .u64 (ad : Int), .int .u32 (ln : Int), .int .u16 (fl : Int), .int .u16 (nx : Int)] 47)).heap[w.heap.size]? = some (.cells #[.int .u64 (ad : Int), .int .u32 (ln : Int), .int .u16 (fl : Int), .int .u16 (nx : Int)] 47 (0, 0)) ∧ Below w.heap.size w (w.alloc (.cells #[.int .u64 (ad : Int), .int .u32 (ln : Int), .int .u16 (fl : Int), .int .u16 (nx : Int)] 47))) := ⟨heap_alloc_new _ _, (Below.refl _ _).alloc (Nat.le_refl _) _⟩
  go_enter Try.func22, Try.ntmps22
  go_upto_region 1 with fail
  generalize w.alloc (.cells #[.int .u64 (ad : Int), .int .u32 (ln : Int), .int .u16 (fl : Int), .int .u16 (nx : Int)] 47) = w0 at *
  obtain ⟨c0, c1, c2, c3⟩ := box4_facts B0.out.1
  go_wp2_with fail
  refine (rbytes_any ad 8 8 H.out.1 (by decide) _).mono ?_
  rintro e w1 ⟨v1, rfl, ho1, hb1⟩
  have Y1 : Hid (w1.heap[w.heap.size]? = some (.cells #[.int .u64 (ad : Int), .int .u32 (ln : Int), .int .u16 (fl : Int), .int .u16 (nx : Int)] 47 (0, 0)) ∧ Below w.heap.size w w1 ∧ w1.ownsRow (w.heap.size + 1) 5 1 v1 8 (rowK .u8 (byteAt ad) 8)) := ⟨below_box B0.out.1 hb1, B0.out.2.trans (hb1.mono B0.out.2.size), own_low ho1 (Array.getElem?_eq_some_iff.1 B0.out.1).1⟩
  clear ho1 hb1 B0 c0 c1 c2 c3
  obtain ⟨a1, k1, hv1⟩ := own_form Y1.out.2.2
  subst hv1
  obtain ⟨c0, c1, c2, c3⟩ := box4_facts Y1.out.1
  go_wp2_with fail
  refine (rbytes_any ln 4 4 H.out.2.1 (by decide) _).mono ?_
  rintro e w2 ⟨v2, rfl, ho, hb⟩
  have Y2 : Hid (w2.heap[w.heap.size]? = some (.cells #[.int .u64 (ad : Int), .int .u32 (ln : Int), .int .u16 (fl : Int), .int .u16 (nx : Int)] 47 (0, 0)) ∧ Below w.heap.size w w2 ∧ w2.ownsRow (w.heap.size + 1) 5 1 (.slice a1 8 k1) 8 (rowK .u8 (byteAt ad) 8) ∧ Reads .u8 w2 v2 4 (byteAt ln)) := ⟨below_box Y1.out.1 hb, Y1.out.2.1.trans (hb.mono Y1.out.2.1.size), own_below Y1.out.2.2 hb, reads_own ho⟩
  clear ho hb Y1 c0 c1 c2 c3
  obtain ⟨a2, k2, hv⟩ := reads_form Y2.out.2.2.2
  subst hv
  go_wp2_with (first | (at_builtin; refine wpList_append_more rfl _ _ rfl (w.heap.size + 1) 8 (byteAt ad) (.slice a1 8 k1) rfl Y2.out.2.2.1 (.slice a2 4 k2) rfl 4 (byteAt ln) Y2.out.2.2.2 (by decide) (by decide) (Array.getElem?_eq_some_iff.1 Y2.out.1).1 ?_; intro g2 q2 w3 ho hb; have Y3 : Hid (w3.heap[w.heap.size]? = some (.cells #[.int .u64 (ad : Int), .int .u32 (ln : Int), .int .u16 (fl : Int), .int .u16 (nx : Int)] 47 (0, 0)) ∧ Below w.heap.size w w3 ∧ w3.ownsRow (w.heap.size + 1) 5 1 (.slice (some ⟨g2, 0, none⟩) 12 q2) 12 (rowK .u8 (catF (byteAt ad) 8 (byteAt ln)) 12)) := ⟨(hb.block _ (Nat.lt_succ_self _)).trans Y2.out.1, Y2.out.2.1.trans (hb.mono (Nat.le_succ _)), ho⟩; clear ho hb Y2; obtain ⟨c0, c1, c2, c3⟩ := box4_facts Y3.out.1))
  refine (rbytes_any fl 2 2 H.out.2.2.1 (by decide) _).mono ?_
  rintro e w4 ⟨v4, rfl, ho, hb⟩
  have Y4 : Hid (w4.heap[w.heap.size]? = some (.cells #[.int .u64 (ad : Int), .int .u32 (ln : Int), .int .u16 (fl : Int), .int .u16 (nx : Int)] 47 (0, 0)) ∧ Below w.heap.size w w4 ∧ w4.ownsRow (w.heap.size + 1) 5 1 (.slice (some ⟨g2, 0, none⟩) 12 q2) 12 (rowK .u8 (catF (byteAt ad) 8 (byteAt ln)) 12) ∧ Reads .u8 w4 v4 2 (byteAt fl)) := ⟨below_box Y3.out.1 hb, Y3.out.2.1.trans (hb.mono Y3.out.2.1.size), own_below Y3.out.2.2 hb, reads_own ho⟩
  clear ho hb Y3 c0 c1 c2 c3
  obtain ⟨a4, k4, hv⟩ := reads_form Y4.out.2.2.2
  subst hv
  go_wp2_with (first | (at_builtin; refine wpList_append_more rfl _ _ rfl (w.heap.size + 1) 12 (catF (byteAt ad) 8 (byteAt ln)) (.slice (some ⟨g2, 0, none⟩) 12 q2) rfl Y4.out.2.2.1 (.slice a4 2 k4) rfl 2 (byteAt fl) Y4.out.2.2.2 (by decide) (by decide) (Array.getElem?_eq_some_iff.1 Y4.out.1).1 ?_; intro g4 q4 w5 ho hb; have Y5 : Hid (w5.heap[w.heap.size]? = some (.cells #[.int .u64 (ad : Int), .int .u32 (ln : Int), .int .u16 (fl : Int), .int .u16 (nx : Int)] 47 (0, 0)) ∧ Below w.heap.size w w5 ∧ w5.ownsRow (w.heap.size + 1) 5 1 (.slice (some ⟨g4, 0, none⟩) 14 q4) 14 (rowK .u8 (catF (catF (byteAt ad) 8 (byteAt ln)) 12 (byteAt fl)) 14)) := ⟨(hb.block _ (Nat.lt_succ_self _)).trans Y4.out.1, Y4.out.2.1.trans (hb.mono (Nat.le_succ _)), ho⟩; clear ho hb Y4; obtain ⟨c0, c1, c2, c3⟩ := box4_facts Y5.out.1))
  refine (rbytes_any nx 2 2 H.out.2.2.2 (by decide) _).mono ?_
  rintro e w6 ⟨v6, rfl, ho, hb⟩
  have Y6 : Hid (w6.heap[w.heap.size]? = some (.cells #[.int .u64 (ad : Int), .int .u32 (ln : Int), .int .u16 (fl : Int), .int .u16 (nx : Int)] 47 (0, 0)) ∧ Below w.heap.size w w6 ∧ w6.ownsRow (w.heap.size + 1) 5 1 (.slice (some ⟨g4, 0, none⟩) 14 q4) 14 (rowK .u8 (catF (catF (byteAt ad) 8 (byteAt ln)) 12 (byteAt fl)) 14) ∧ Reads .u8 w6 v6 2 (byteAt nx)) := ⟨below_box Y5.out.1 hb, Y5.out.2.1.trans (hb.mono Y5.out.2.1.size), own_below Y5.out.2.2 hb, reads_own ho⟩
  clear ho hb Y5 c0 c1 c2 c3
  obtain ⟨a6, k6, hv⟩ := reads_form Y6.out.2.2.2
  subst hv
  go_wp2_with (first | (at_builtin; refine wpList_append_more rfl _ _ rfl (w.heap.size + 1) 14 (catF (catF (byteAt ad) 8 (byteAt ln)) 12 (byteAt fl)) (.slice (some ⟨g4, 0, none⟩) 14 q4) rfl Y6.out.2.2.1 (.slice a6 2 k6) rfl 2 (byteAt nx) Y6.out.2.2.2 (by decide) (by decide) (Array.getElem?_eq_some_iff.1 Y6.out.1).1 ?_; intro g6 q6 w7 ho hb))
  go_ret
  exact ⟨_, _, rfl, own_low ho (Nat.le_succ _), Y6.out.2.1.trans (hb.mono (Nat.le_succ _))⟩
theorem bytes_core (W : World) (ad ln fl nx : Nat) (had : ad < 18446744073709551616) (hln : ln ≤ 4294967295) (hfl : fl ≤ 65535) (hnx : nx ≤ 65535) : Calls Try.prog 5 #[.agg #[.int .u64 (ad : Int), .int .u32 (ln : Int), .int .u16 (fl : Int), .int .u16 (nx : Int)]] W fun e w' => e = .returned (.bool true) ∧ Below W.heap.size W w' := by
  have B0 : Hid ((W.alloc (.cells #[.int .u64 (ad : Int), .int .u32 (ln : Int), .int .u16 (fl : Int), .int .u16 (nx : Int)] 47)).heap[W.heap.size]? = some (.cells #[.int .u64 (ad : Int), .int .u32 (ln : Int), .int .u16 (fl : Int), .int .u16 (nx : Int)] 47 (0, 0)) ∧ Below W.heap.size W (W.alloc (.cells #[.int .u64 (ad : Int), .int .u32 (ln : Int), .int .u16 (fl : Int), .int .u16 (nx : Int)] 47))) := ⟨heap_alloc_new _ _, (Below.refl _ _).alloc (Nat.le_refl _) _⟩
  have K21 : Hid (∀ V, Calls Try.prog 21 #[.agg #[.int .u64 (ad : Int), .int .u32 (ln : Int), .int .u16 (fl : Int), .int .u16 (nx : Int)]] V fun e w' => ∃ g c, e = .returned (.slice (some ⟨g, 0, none⟩) 16 c) ∧ Reads .u8 w' (.slice (some ⟨g, 0, none⟩) 16 c) 16 (dB ad ln fl nx) ∧ Below V.heap.size V w') := fun V => (bytes_desc ad ln fl nx had hln hfl hnx V).mono fun e w' ⟨g, c, he, ho, hb⟩ => ⟨g, c, he, reads_own ho, hb⟩
  have K22 : Hid (∀ V, Calls Try.prog 22 #[.agg #[.int .u64 (ad : Int), .int .u32 (ln : Int), .int .u16 (fl : Int), .int .u16 (nx : Int)]] V fun e w' => ∃ g c, e = .returned (.slice (some ⟨g, 0, none⟩) 16 c) ∧ Reads .u8 w' (.slice (some ⟨g, 0, none⟩) 16 c) 16 (dB ad ln fl nx) ∧ Below V.heap.size V w') := fun V => (rbytes_desc ad ln fl nx had hln hfl hnx V).mono fun e w' ⟨g, c, he, ho, hb⟩ => ⟨g, c, he, reads_own ho, hb⟩
  clear had hln hfl hnx
  go_enter Try.func5, Try.ntmps5
  go_upto_region 1 with fail
  generalize W.alloc (.cells #[.int .u64 (ad : Int), .int .u32 (ln : Int), .int .u16 (fl : Int), .int .u16 (nx : Int)] 47) = w0 at *
  have Bd : Hid (w0.drew.heap[W.heap.size]? = some (.cells #[.int .u64 (ad : Int), .int .u32 (ln : Int), .int .u16 (fl : Int), .int .u16 (nx : Int)] 47 (0, 0)) ∧ Below W.heap.size W w0.drew) := ⟨B0.out.1, B0.out.2.drew⟩
  obtain ⟨c0, c1, c2, c3⟩ := box4_facts B0.out.1
  go_region_held3 (fun Z => Z.cell? ⟨W.heap.size, 0, none⟩ = some (.int .u64 (ad : Int)) ∧ Z.cell? ⟨W.heap.size, 1, none⟩ = some (.int .u32 (ln : Int)) ∧ Z.cell? ⟨W.heap.size, 2, none⟩ = some (.int .u16 (fl : Int)) ∧ Z.cell? ⟨W.heap.size, 3, none⟩ = some (.int .u16 (nx : Int))) (go_keep) (first | (go_at_call 9; refine (awake_any _).mono ?_; rintro e w1 ⟨rfl, hb1⟩; have X1 : Hid (w1.heap[W.heap.size]? = some (.cells #[.int .u64 (ad : Int), .int .u32 (ln : Int), .int .u16 (fl : Int), .int .u16 (nx : Int)] 47 (0, 0)) ∧ Below W.heap.size W w1) := ⟨below_box Bd.out.1 hb1, below_to Bd.out.2 hb1⟩; clear hb1; obtain ⟨d0, d1, d2, d3⟩ := box4_facts X1.out.1) | (go_at_call 21; refine (K21.out _).mono ?_; rintro e w2 ⟨g2, q2, rfl, hr2, hb2⟩; have X2 : Hid ((w2.heap[W.heap.size]? = some (.cells #[.int .u64 (ad : Int), .int .u32 (ln : Int), .int .u16 (fl : Int), .int .u16 (nx : Int)] 47 (0, 0)) ∧ Below W.heap.size W w2) ∧ Reads .u8 w2 (.slice (some ⟨g2, 0, none⟩) 16 q2) 16 (dB ad ln fl nx)) := ⟨⟨below_box X1.out.1 hb2, below_to X1.out.2 hb2⟩, hr2⟩; clear hb2 hr2; obtain ⟨e0, e1, e2, e3⟩ := box4_facts X2.out.1.1) | (go_at_call 22; refine (K22.out _).mono ?_; rintro e w3 ⟨g3, q3, rfl, hr3, hb3⟩; have X3 : Hid ((w3.heap[W.heap.size]? = some (.cells #[.int .u64 (ad : Int), .int .u32 (ln : Int), .int .u16 (fl : Int), .int .u16 (nx : Int)] 47 (0, 0)) ∧ Below W.heap.size W w3) ∧ Reads .u8 w3 (.slice (some ⟨g2, 0, none⟩) 16 q2) 16 (dB ad ln fl nx) ∧ Reads .u8 w3 (.slice (some ⟨g3, 0, none⟩) 16 q3) 16 (dB ad ln fl nx)) := ⟨⟨below_box X2.out.1.1 hb3, below_to X2.out.1.2 hb3⟩, reads_below X2.out.2 hb3, hr3⟩; clear hb3 hr3; obtain ⟨f0, f1, f2, f3⟩ := box4_facts X3.out.1.1) | (go_at_call 20; refine (bytes_same (dB ad ln fl nx) 16 _ _ (by decide) _ X3.out.2.1 X3.out.2.2).mono ?_; rintro e w4 ⟨rfl, q, rfl⟩; have X4 : Hid ((w3.drewN q).heap[W.heap.size]? = some (.cells #[.int .u64 (ad : Int), .int .u32 (ln : Int), .int .u16 (fl : Int), .int .u16 (nx : Int)] 47 (0, 0)) ∧ Below W.heap.size W (w3.drewN q)) := ⟨below_box X3.out.1.1 (below_drewN (Below.refl _ _) q), below_drewN X3.out.1.2 q⟩; obtain ⟨h0, h1, h2, h3⟩ := box4_facts X4.out.1))
  go_wp2_with fail
  go_ret
  exact ⟨rfl, X4.out.2⟩
end Go.Proofs.Ythnmoalomodbpaa
