/- The calls Parse and ParseInt of layer 1 read the word and the number that a text writes. -/
import Derived.Test.YtooaafbdjnlmfaaDoorParse
namespace Go.Proofs.YtooaafbdjnlmfaaDoor
open Go.RowKit
theorem cut_yes (s : ByteArray) (hs : s.size ≤ 9223372036854775807) (h2 : 2 ≤ s.size) (hp : (s.extract 0 2).toList = [48, 120]) (w : World) :
    Calls Tryd.prog 77 #[.string s, .string { data := #[48, 120] }] w fun e w' => e = .returned (.tuple #[.string (s.extract 2 s.size), .bool true]) ∧ w' = w := by
  have hk : ((s.extract 0 2).toList == [48, 120]) = true := by simp [hp]
  clear hp
  go_enter Tryd.func77, Tryd.ntmps77
  go_wp2
  go_ret2
  exact ⟨rfl, rfl⟩
theorem cut_no (s : ByteArray) (hs : s.size ≤ 9223372036854775807) (hp : ¬ (2 ≤ s.size ∧ (s.extract 0 2).toList = [48, 120])) (w : World) :
    Calls Tryd.prog 77 #[.string s, .string { data := #[48, 120] }] w fun e w' => e = .returned (.tuple #[.string s, .bool false]) ∧ w' = w := by
  by_cases h2 : 2 ≤ s.size
  · have hk : ((s.extract 0 2).toList == [48, 120]) = false := by simp; exact fun e => hp ⟨h2, e⟩
    clear hp
    go_enter Tryd.func77, Tryd.ntmps77
    go_wp2
    go_ret2
    exact ⟨rfl, rfl⟩
  · clear hp
    go_enter Tryd.func77, Tryd.ntmps77
    go_wp2
    go_ret2
    exact ⟨rfl, rfl⟩
theorem cutm_yes (s : ByteArray) (hs : s.size ≤ 9223372036854775807) (h2 : 1 ≤ s.size) (hp : (s.extract 0 1).toList = [45]) (w : World) :
    Calls Tryd.prog 77 #[.string s, .string { data := #[45] }] w fun e w' => e = .returned (.tuple #[.string (s.extract 1 s.size), .bool true]) ∧ w' = w := by
  have hk : ((s.extract 0 1).toList == [45]) = true := by simp [hp]
  clear hp
  go_enter Tryd.func77, Tryd.ntmps77
  go_wp2
  go_ret2
  exact ⟨rfl, rfl⟩
theorem cutm_no (s : ByteArray) (hs : s.size ≤ 9223372036854775807) (hp : ¬ (1 ≤ s.size ∧ (s.extract 0 1).toList = [45])) (w : World) :
    Calls Tryd.prog 77 #[.string s, .string { data := #[45] }] w fun e w' => e = .returned (.tuple #[.string s, .bool false]) ∧ w' = w := by
  by_cases h2 : 1 ≤ s.size
  · have hk : ((s.extract 0 1).toList == [45]) = false := by simp; exact fun e => hp ⟨h2, e⟩
    clear hp
    go_enter Tryd.func77, Tryd.ntmps77
    go_wp2
    go_ret2
    exact ⟨rfl, rfl⟩
  · clear hp
    go_enter Tryd.func77, Tryd.ntmps77
    go_wp2
    go_ret2
    exact ⟨rfl, rfl⟩
/-- does a text begin as a number in base 16? -/
abbrev isHex (s : ByteArray) : Prop := 2 < s.size ∧ (s.extract 0 2).toList = [48, 120]
/-- the word that a text writes; 0: none -/
def parseN (s : ByteArray) : Nat := if isHex s then pnum 16 (s.extract 2 s.size) else pnum 10 s
/-- is a text a word? -/
def parseOk (s : ByteArray) : Bool := if isHex s then pok 16 (s.extract 2 s.size) else pok 10 s
theorem size_cut (s : ByteArray) (k : Nat) : (s.extract k s.size).size = s.size - k := by rw [ByteArray.size_extract]; omega
theorem bytes_pre (s : ByteArray) (h : s.size = 2) (hp : (s.extract 0 2).toList = [48, 120]) : fB s 1 = 120 := by
  have e : s.extract 0 2 = s := by rw [← h]; exact ByteArray.extract_zero_size
  rw [e, ByteArray.toList_eq] at hp
  rw [fB_at s 1 (by omega)]
  have h2 : s[1] = s.data.toList[1]'(by simp [hp]) := by
    rw [Array.getElem_toList]; rfl
  rw [h2]
  simp [hp]
theorem pre_only (s : ByteArray) (h : s.size = 2) (hp : (s.extract 0 2).toList = [48, 120]) : pnum 10 s = 0 ∧ pok 10 s = false := by
  cases h1 : pdig 10 s 1 with
  | none => exact p_bad h1 (by omega)
  | some v => exact p_bad (pdig_bad (k := 1) h1 (by rw [bytes_pre s h hp]; have : dg 120 = 16 := by decide
                                                    omega)) (by omega)
theorem none_16 (s : ByteArray) (h : s.size = 0) : pnum 16 s = 0 ∧ pok 16 s = false := by
  unfold pnum pok; rw [h]; simp [pdig]
theorem parse_any (s : ByteArray) (hs : s.size ≤ 9223372036854775807) (w : World) :
    Calls Tryd.prog 78 #[.string s] w fun e w' => e = .returned (.tuple #[.int .u64 (parseN s : Nat), .bool (parseOk s)]) ∧ w' = w := by
  by_cases hp : 2 ≤ s.size ∧ (s.extract 0 2).toList = [48, 120]
  · have e : parseN s = pnum 16 (s.extract 2 s.size) ∧ parseOk s = pok 16 (s.extract 2 s.size) := by
      unfold parseN parseOk
      by_cases h2 : 2 < s.size
      · have hx : isHex s := ⟨h2, hp.2⟩
        rw [if_pos hx, if_pos hx]; exact ⟨rfl, rfl⟩
      · have hx : ¬ isHex s := fun h => h2 h.1
        rw [if_neg hx, if_neg hx]
        have h3 := pre_only s (by omega) hp.2
        have h4 := none_16 (s.extract 2 s.size) (by rw [size_cut]; omega)
        rw [h3.1, h3.2, h4.1, h4.2]; exact ⟨rfl, rfl⟩
    rw [e.1, e.2]
    have hc : ∀ w, Calls Tryd.prog 77 #[.string s, .string { data := #[48, 120] }] w fun e w' => e = .returned (.tuple #[.string (s.extract 2 s.size), .bool true]) ∧ w' = w := fun w => cut_yes s hs hp.1 hp.2 w
    have ht : (s.extract 2 s.size).size ≤ 9223372036854775807 := by rw [size_cut]; omega
    clear e hp
    generalize s.extract 2 s.size = t at *
    go_enter Tryd.func78, Tryd.ntmps78
    go_wp2_with (first | (go_at_call 77; refine (hc _).mono ?_; rintro e w' ⟨rfl, rfl⟩) | (go_at_call 84; refine (pd_16 _ (by omega) _).mono ?_; rintro e w' ⟨rfl, rfl⟩))
    go_ret2
    exact ⟨rfl, rfl⟩
  · have e : parseN s = pnum 10 s ∧ parseOk s = pok 10 s := by
      unfold parseN parseOk
      have hx : ¬ isHex s := fun h => hp ⟨by have := h.1; omega, h.2⟩
      rw [if_neg hx, if_neg hx]; exact ⟨rfl, rfl⟩
    rw [e.1, e.2]
    have hc : ∀ w, Calls Tryd.prog 77 #[.string s, .string { data := #[48, 120] }] w fun e w' => e = .returned (.tuple #[.string s, .bool false]) ∧ w' = w := fun w => cut_no s hs hp w
    clear e hp
    go_enter Tryd.func78, Tryd.ntmps78
    go_wp2_with (first | (go_at_call 77; refine (hc _).mono ?_; rintro e w' ⟨rfl, rfl⟩) | (go_at_call 84; refine (pd_ten _ (by omega) _).mono ?_; rintro e w' ⟨rfl, rfl⟩))
    go_ret2
    exact ⟨rfl, rfl⟩
theorem pdig_lt {base : Nat} {s : ByteArray} : ∀ {k v : Nat}, pdig base s k = some v → v < 18446744073709551616
  | 0, v, h => by simp [pdig] at h; omega
  | k + 1, v, h => by
    rw [pdig] at h
    split at h
    · simp at h
    · split at h
      · simp at h; omega
      · simp at h
theorem parseN_lt (s : ByteArray) : parseN s < 18446744073709551616 := by
  have : ∀ b t, pnum b t < 18446744073709551616 := by
    intro b t
    unfold pnum
    cases h : pdig b t t.size with
    | none => simp
    | some v => simpa using pdig_lt h
  unfold parseN; split <;> exact this _ _
/-- does a text begin with a sign? -/
abbrev isNeg (s : ByteArray) : Prop := 1 ≤ s.size ∧ (s.extract 0 1).toList = [45]
/-- the text behind its sign -/
def tailS (s : ByteArray) : ByteArray := s.extract 1 s.size
/-- the number that a text writes; 0: none -/
def intN (s : ByteArray) : Int := if isNeg s then (if parseOk (tailS s) = true ∧ parseN (tailS s) ≤ 9223372036854775808 then - (parseN (tailS s) : Int) else 0) else (if parseOk s = true ∧ parseN s ≤ 9223372036854775807 then (parseN s : Int) else 0)
/-- is a text a number? -/
def intOk (s : ByteArray) : Bool := if isNeg s then decide (parseOk (tailS s) = true ∧ parseN (tailS s) ≤ 9223372036854775808) else decide (parseOk s = true ∧ parseN s ≤ 9223372036854775807)
theorem neg_num (v : Nat) (h : v ≤ 9223372036854775808) : wrap64 (IntKind.u64.wrap (-(v : Int))) = -(v : Int) := by
  rw [IntKind.wrap_u64]; unfold wrap64; omega
theorem pos_num (v : Nat) (h : v ≤ 9223372036854775807) : wrap64 (v : Int) = (v : Int) := by unfold wrap64; omega
set_option maxHeartbeats 400000 in
theorem pint_any (s : ByteArray) (hs : s.size ≤ 9223372036854775807) (w : World) :
    Calls Tryd.prog 63 #[.string s] w fun e w' => e = .returned (.tuple #[.int .i64 (intN s), .bool (intOk s)]) ∧ w' = w := by
  by_cases hn : isNeg s
  · unfold intN intOk
    rw [if_pos hn, if_pos hn]
    have hc : ∀ w, Calls Tryd.prog 77 #[.string s, .string { data := #[45] }] w fun e w' => e = .returned (.tuple #[.string (tailS s), .bool true]) ∧ w' = w := fun w => cutm_yes s hs hn.1 hn.2 w
    have ht : (tailS s).size ≤ 9223372036854775807 := by unfold tailS; rw [size_cut]; omega
    have hl := parseN_lt (tailS s)
    have hpc : ∀ w, Calls Tryd.prog 78 #[.string (tailS s)] w fun e w' => e = .returned (.tuple #[.int .u64 (parseN (tailS s) : Nat), .bool (parseOk (tailS s))]) ∧ w' = w := fun w => parse_any _ ht w
    generalize parseN (tailS s) = v at *
    generalize parseOk (tailS s) = ok at *
    generalize tailS s = t at *
    clear hn
    cases ok
    · rw [if_neg (by simp), show decide (false = true ∧ v ≤ 9223372036854775808) = false from by simp]
      go_enter Tryd.func63, Tryd.ntmps63
      go_wp2_with (first | (go_at_call 77; refine (hc _).mono ?_; rintro e w' ⟨rfl, rfl⟩) | (go_at_call 78; refine (hpc _).mono ?_; rintro e w' ⟨rfl, rfl⟩))
      go_ret2
      exact ⟨rfl, rfl⟩
    · by_cases hv : v ≤ 9223372036854775808
      · rw [if_pos ⟨rfl, hv⟩, show decide (true = true ∧ v ≤ 9223372036854775808) = true from by simp [hv]]
        have HW : Hid (Value.int .i64 (wrap64 (IntKind.u64.wrap (-(v : Int)))) = Value.int .i64 (-(v : Int))) := by show _ = _; rw [neg_num v hv]
        go_enter Tryd.func63, Tryd.ntmps63
        go_wp2_with (first | (go_at_call 77; refine (hc _).mono ?_; rintro e w' ⟨rfl, rfl⟩) | (go_at_call 78; refine (hpc _).mono ?_; rintro e w' ⟨rfl, rfl⟩))
        go_ret2
        exact ⟨ret_tup HW.out rfl, rfl⟩
      · rw [if_neg (fun h => hv h.2), show decide (true = true ∧ v ≤ 9223372036854775808) = false from by simp; omega]
        go_enter Tryd.func63, Tryd.ntmps63
        go_wp2_with (first | (go_at_call 77; refine (hc _).mono ?_; rintro e w' ⟨rfl, rfl⟩) | (go_at_call 78; refine (hpc _).mono ?_; rintro e w' ⟨rfl, rfl⟩))
        go_ret2
        exact ⟨rfl, rfl⟩
  · unfold intN intOk
    rw [if_neg hn, if_neg hn]
    have hc : ∀ w, Calls Tryd.prog 77 #[.string s, .string { data := #[45] }] w fun e w' => e = .returned (.tuple #[.string s, .bool false]) ∧ w' = w := fun w => cutm_no s hs hn w
    have hl := parseN_lt s
    have hpc : ∀ w, Calls Tryd.prog 78 #[.string s] w fun e w' => e = .returned (.tuple #[.int .u64 (parseN s : Nat), .bool (parseOk s)]) ∧ w' = w := fun w => parse_any _ hs w
    generalize parseN s = v at *
    generalize parseOk s = ok at *
    clear hn
    cases ok
    · rw [if_neg (by simp), show decide (false = true ∧ v ≤ 9223372036854775807) = false from by simp]
      go_enter Tryd.func63, Tryd.ntmps63
      go_wp2_with (first | (go_at_call 77; refine (hc _).mono ?_; rintro e w' ⟨rfl, rfl⟩) | (go_at_call 78; refine (hpc _).mono ?_; rintro e w' ⟨rfl, rfl⟩))
      go_ret2
      exact ⟨rfl, rfl⟩
    · by_cases hv : v ≤ 9223372036854775807
      · rw [if_pos ⟨rfl, hv⟩, show decide (true = true ∧ v ≤ 9223372036854775807) = true from by simp [hv]]
        go_enter Tryd.func63, Tryd.ntmps63
        go_wp2_with (first | (go_at_call 77; refine (hc _).mono ?_; rintro e w' ⟨rfl, rfl⟩) | (go_at_call 78; refine (hpc _).mono ?_; rintro e w' ⟨rfl, rfl⟩))
        go_ret2
        exact ⟨rfl, rfl⟩
      · rw [if_neg (fun h => hv h.2), show decide (true = true ∧ v ≤ 9223372036854775807) = false from by simp; omega]
        go_enter Tryd.func63, Tryd.ntmps63
        go_wp2_with (first | (go_at_call 77; refine (hc _).mono ?_; rintro e w' ⟨rfl, rfl⟩) | (go_at_call 78; refine (hpc _).mono ?_; rintro e w' ⟨rfl, rfl⟩))
        go_ret2
        exact ⟨rfl, rfl⟩
end Go.Proofs.YtooaafbdjnlmfaaDoor
