/- The statement of the whole on instructions: words that are decoded are printed, read and encoded as themselves. -/
import Derived.Test.YtooaafbdjnlmfaaGreatDoorQParseB
import Derived.Test.YtooaafbdjnlmfaaGreatDoorQBackL
import Derived.Test.YtooaafbdjnlmfaaGreatDoorQMasks
namespace Go.Proofs.YtooaafbdjnlmfaaGreatDoor
open Go.RowKit
set_option linter.unusedVariables false
set_option linter.unusedSimpArgs false
/-- what Decode tells: a right instruction whose word it is, or none -/
inductive Dec (x : Nat) : Ins → Int → Prop
  | yes (y : Ins) (hr : y.right = true) (hb : -9223372036854775808 ≤ y.imm ∧ y.imm < 9223372036854775808) (he : encS y.op.toNat y.rd.toNat y.rs1.toNat y.rs2.toNat y.csr.toNat y.aq y.rl (y.imm % 18446744073709551616).toNat = x) : Dec x y 0
  | no : Dec x Ins.zero 31
theorem first_hit (x : Nat) : ∀ n, (∃ o, 1 ≤ o ∧ o < n ∧ hit x o = true ∧ ∀ j, 1 ≤ j → j < o → hit x j = false) ∨ (∀ j, 1 ≤ j → j < n → hit x j = false)
  | 0 => .inr (fun j _ h => by omega)
  | n + 1 => by
    rcases first_hit x n with ⟨o, h1, h2, h3, h4⟩ | h
    · exact .inl ⟨o, h1, by omega, h3, h4⟩
    · by_cases h1 : 1 ≤ n
      · cases hh : hit x n
        · refine .inr (fun j j1 j2 => ?_)
          by_cases e : j = n
          · rw [e]; exact hh
          · exact h j j1 (by omega)
        · exact .inl ⟨n, h1, by omega, hh, h⟩
      · exact .inr (fun j j1 j2 => by omega)
theorem decode_any (x : Nat) (hx : x < 4294967296) : ∃ y e, Dec x y e ∧ ∀ w, TabsD w → Calls Tryz.prog 23 #[.int .u32 (x : Nat)] w fun r w' => r = .returned (.tuple #[.agg #[.int .i64 y.op, .int .i64 y.rd, .int .i64 y.rs1, .int .i64 y.rs2, .int .i64 y.imm, .int .i64 y.csr, .bool y.aq, .bool y.rl], .int .i64 e]) ∧ Below w.heap.size w w' := by
  rcases first_hit x 99 with ⟨o, h1, h2, hh, hno⟩ | hno
  · obtain ⟨v, hv⟩ : ∃ v, immD (formsT.getD o 0) x = v := ⟨_, rfl⟩
    obtain ⟨U, hU⟩ : ∃ U : Nat, (U : Int) = v % 18446744073709551616 := ⟨(v % 18446744073709551616).toNat, by omega⟩
    obtain ⟨hr, hb, hs⟩ := worded x o hx h1 h2 hh v hv U hU
    refine ⟨⟨(o : Nat), (dP (formsT.getD o 0) 1 128 32 x : Nat), (dP (formsT.getD o 0) 2 32768 32 x : Nat), (dP (formsT.getD o 0) 4 1048576 32 x : Nat), v, (dP (formsT.getD o 0) 8 1048576 4096 x : Nat), dB (formsT.getD o 0) 67108864 x, dB (formsT.getD o 0) 33554432 x⟩, 0, .yes _ hr hb ?_, fun w t => ?_⟩
    · simp only [Int.toNat_natCast]
      rw [show (v % 18446744073709551616).toNat = U from by omega]
      exact hs
    · have hD := decode_hit x o hx h1 h2 hh hno w t
      unfold decC at hD
      rw [hv] at hD
      exact hD
  · exact ⟨Ins.zero, 31, .no, fun w t => decode_none x hx hno w t⟩
theorem encode_row (y : Ins) (x : Nat) (hr : y.right = true) (hb : -9223372036854775808 ≤ y.imm ∧ y.imm < 9223372036854775808) (he : encS y.op.toNat y.rd.toNat y.rs1.toNat y.rs2.toNat y.csr.toNat y.aq y.rl (y.imm % 18446744073709551616).toNat = x) (w : World) (t : TabsE w) : Calls Tryz.prog 25 #[.agg #[.int .i64 y.op, .int .i64 y.rd, .int .i64 y.rs1, .int .i64 y.rs2, .int .i64 y.imm, .int .i64 y.csr, .bool y.aq, .bool y.rl]] w fun r w' => r = .returned (.tuple #[.int .u32 (x : Nat), .int .i64 0]) ∧ Below w.heap.size w w' := by
  have h := encode_yes y.op y.rd y.rs1 y.rs2 y.imm y.csr y.aq y.rl hb w t hr
  rw [he] at h
  exact h
theorem print_row (y : Ins) (hr : y.right = true) (w : World) (hL : Laid w) : Calls Tryz.prog 9 #[.agg #[.int .i64 y.op, .int .i64 y.rd, .int .i64 y.rs1, .int .i64 y.rs2, .int .i64 y.imm, .int .i64 y.csr, .bool y.aq, .bool y.rl]] w fun r w' => r = .returned (.string (mk (printL y.op y.rd y.rs1 y.rs2 y.imm y.csr y.aq y.rl))) ∧ Below w.heap.size w w' :=
  print_yes y.op y.rd y.rs1 y.rs2 y.imm y.csr y.aq y.rl hr w hL.tabs hL.names hL.lie
theorem parse_row (y : Ins) (hr : y.right = true) (w : World) (hL : Laid w) : Calls Tryz.prog 13 #[.string (mk (printL y.op y.rd y.rs1 y.rs2 y.imm y.csr y.aq y.rl))] w fun r w' => r = .returned (.tuple #[.agg #[.int .i64 y.op, .int .i64 y.rd, .int .i64 y.rs1, .int .i64 y.rs2, .int .i64 y.imm, .int .i64 y.csr, .bool y.aq, .bool y.rl], .int .i64 0]) ∧ Below w.heap.size w w' := by
  obtain ⟨h1, h2⟩ := parse_print y hr
  have h := parseT_any _ (print_len y hr) h2 w hL
  have e : parseE (printL y.op y.rd y.rs1 y.rs2 y.imm y.csr y.aq y.rl) = 0 := by unfold parseE; rw [h1]; rfl
  rw [h1, e] at h
  exact h
theorem dec_five : Dec 5243027 ⟨22, 1, 0, 0, 5, 0, false, false⟩ 0 := .yes _ (by decide +kernel) (by decide) (by decide +kernel)
theorem hit_five : hit 5243027 22 = true ∧ ((List.range 22).all fun j => j == 0 || !hit 5243027 j) = true := by decide +kernel
theorem five_row (w : World) (t : TabsD w) : Calls Tryz.prog 23 #[.int .u32 5243027] w fun r w' => r = .returned (.tuple #[.agg #[.int .i64 22, .int .i64 1, .int .i64 0, .int .i64 0, .int .i64 5, .int .i64 0, .bool false, .bool false], .int .i64 0]) ∧ Below w.heap.size w w' := by
  have h := decode_hit 5243027 22 (by decide) (by decide) (by decide) hit_five.1 (fun j j1 j2 => by
    have := List.all_eq_true.1 hit_five.2 j (List.mem_range.2 j2)
    simp at this
    rcases this with h | h
    · omega
    · exact h) w t
  have e : decC 5243027 22 = #[.int .i64 22, .int .i64 1, .int .i64 0, .int .i64 0, .int .i64 5, .int .i64 0, .bool false, .bool false] := by kernel_rfl
  rw [e] at h
  exact h
/-- what is known of a slice of integers that came in: it is nil; or it leads to a row of cells, its elements the first of them -/
def IsRow (k : IntKind) (w : World) (a : Option Addr) (len cap : Nat) (zs : List Int) : Prop :=
  (a = none ∧ len = 0 ∧ cap = 0 ∧ zs = []) ∨
  ∃ x, a = some x ∧ len ≤ cap ∧ cap ≤ maxLen ∧ zs.length = cap ∧ (∀ i, i < zs.length → w.cell? (x.add i) = some (.int k (zs.getD i 0))) ∧ ∀ n ∈ zs, (Lit.int k n).wf = true
theorem isRow_words {w : World} {a : Option Addr} {len cap : Nat} {zs : List Int} (h : IsRow .u32 w a len cap zs) : ∃ f : Nat → Nat, (∀ i, f i < 4294967296) ∧ (len = 0 ∨ ∃ b off, a = some ⟨b, off, none⟩ ∧ ∀ i, i < len → w.cell? ⟨b, off + i, none⟩ = some (.int .u32 (f i : Nat))) := by
  have hr : ∀ j : Nat, 0 ≤ zs[j]?.getD 0 ∧ zs[j]?.getD 0 ≤ 4294967295 := by
    rcases h with ⟨_, _, _, rfl⟩ | ⟨x, _, _, _, _, _, hw⟩
    · simp
    · intro j
      cases hj : zs[j]? with
      | none => simp
      | some z =>
        have := bounds_u32 (hw z (List.mem_of_getElem? hj))
        simp; omega
  refine ⟨fun i => (zs[i]?.getD 0).toNat, fun i => by have := hr i; show (zs[i]?.getD 0).toNat < 4294967296; omega, ?_⟩
  rcases h with ⟨rfl, rfl, rfl, rfl⟩ | ⟨x, rfl, hlc, hcm, hz, hc, hw⟩
  · exact .inl rfl
  · by_cases h0 : len = 0
    · exact .inl h0
    · obtain ⟨b, off, rfl, hcell⟩ := ints_at hc (by omega)
      refine .inr ⟨b, off, rfl, fun i hi => ?_⟩
      rw [hcell i (by omega)]
      have := hr i
      simp only [List.getD_eq_getElem?_getD]
      congr 2
      omega
end Go.Proofs.YtooaafbdjnlmfaaGreatDoor
