/- The statement on Parse and ParseInt of layer 1 returns true for every text. -/
import Derived.Test.YtflpfgbebjamfabRParse
namespace Go.Proofs.Ytflpfgbebjamfab
open Go.RowKit
theorem cut_yes (s : ByteArray) (hs : s.size ≤ 9223372036854775807) (h2 : 2 ≤ s.size) (hp : (s.extract 0 2).toList = [48, 120]) (w : World) :
    Calls Try.prog 17 #[.string s, .string { data := #[48, 120] }] w fun e w' => e = .returned (.tuple #[.string (s.extract 2 s.size), .bool true]) ∧ w' = w := by
  have hk : ((s.extract 0 2).toList == [48, 120]) = true := by simp [hp]
  clear hp
  go_enter Try.func17, Try.ntmps17
  go_wp2
  go_ret2
  exact ⟨rfl, rfl⟩
theorem cut_no (s : ByteArray) (hs : s.size ≤ 9223372036854775807) (hp : ¬ (2 ≤ s.size ∧ (s.extract 0 2).toList = [48, 120])) (w : World) :
    Calls Try.prog 17 #[.string s, .string { data := #[48, 120] }] w fun e w' => e = .returned (.tuple #[.string s, .bool false]) ∧ w' = w := by
  by_cases h2 : 2 ≤ s.size
  · have hk : ((s.extract 0 2).toList == [48, 120]) = false := by simp; exact fun e => hp ⟨h2, e⟩
    clear hp
    go_enter Try.func17, Try.ntmps17
    go_wp2
    go_ret2
    exact ⟨rfl, rfl⟩
  · clear hp
    go_enter Try.func17, Try.ntmps17
    go_wp2
    go_ret2
    exact ⟨rfl, rfl⟩
theorem cutm_yes (s : ByteArray) (hs : s.size ≤ 9223372036854775807) (h2 : 1 ≤ s.size) (hp : (s.extract 0 1).toList = [45]) (w : World) :
    Calls Try.prog 17 #[.string s, .string { data := #[45] }] w fun e w' => e = .returned (.tuple #[.string (s.extract 1 s.size), .bool true]) ∧ w' = w := by
  have hk : ((s.extract 0 1).toList == [45]) = true := by simp [hp]
  clear hp
  go_enter Try.func17, Try.ntmps17
  go_wp2
  go_ret2
  exact ⟨rfl, rfl⟩
theorem cutm_no (s : ByteArray) (hs : s.size ≤ 9223372036854775807) (hp : ¬ (1 ≤ s.size ∧ (s.extract 0 1).toList = [45])) (w : World) :
    Calls Try.prog 17 #[.string s, .string { data := #[45] }] w fun e w' => e = .returned (.tuple #[.string s, .bool false]) ∧ w' = w := by
  by_cases h2 : 1 ≤ s.size
  · have hk : ((s.extract 0 1).toList == [45]) = false := by simp; exact fun e => hp ⟨h2, e⟩
    clear hp
    go_enter Try.func17, Try.ntmps17
    go_wp2
    go_ret2
    exact ⟨rfl, rfl⟩
  · clear hp
    go_enter Try.func17, Try.ntmps17
    go_wp2
    go_ret2
    exact ⟨rfl, rfl⟩
/-- does a text begin as a number in base 16? -/
abbrev isHex (s : ByteArray) : Prop := 2 < s.size ∧ (s.extract 0 2).toList = [48, 120]
/-- the word that a text writes; 0: none -/
def parseN (s : ByteArray) : Nat := if isHex s then pnum 16 (s.extract 2 s.size) else pnum 10 s
/-- is a text a word? -/
def parseOk (s : ByteArray) : Bool := if isHex s then pok 16 (s.extract 2 s.size) else pok 10 s
theorem size_cut (s : ByteArray) (k : Nat) : (s.extract k s.size).size = s.size - k := by rw [ByteArray.size_extract]; omega
theorem bytes_pre (s : ByteArray) (h : s.size = 2) (hp : (s.extract 0 2).toList = [48, 120]) : fB s 1 = 120 := by
  have e : s.extract 0 2 = s := by rw [← h]; exact ByteArray.extract_zero_size
  rw [e, ByteArray.toList_eq] at hp
  rw [fB_at s 1 (by omega)]
  have h2 : s[1] = s.data.toList[1]'(by simp [hp]) := by
    rw [Array.getElem_toList]; rfl
  rw [h2]
  simp [hp]
theorem pre_only (s : ByteArray) (h : s.size = 2) (hp : (s.extract 0 2).toList = [48, 120]) : pnum 10 s = 0 ∧ pok 10 s = false := by
  cases h1 : pdig 10 s 1 with
  | none => exact p_bad h1 (by omega)
  | some v => exact p_bad (pdig_bad (k := 1) h1 (by rw [bytes_pre s h hp]; have : dg 120 = 16 := by decide
                                                    omega)) (by omega)
theorem none_16 (s : ByteArray) (h : s.size = 0) : pnum 16 s = 0 ∧ pok 16 s = false := by
  unfold pnum pok; rw [h]; simp [pdig]
theorem parse_any (s : ByteArray) (hs : s.size ≤ 9223372036854775807) (w : World) :
    Calls Try.prog 10 #[.string s] w fun e w' => e = .returned (.tuple #[.int .u64 (parseN s : Nat), .bool (parseOk s)]) ∧ w' = w := by
  by_cases hp : 2 ≤ s.size ∧ (s.extract 0 2).toList = [48, 120]
  · have e : parseN s = pnum 16 (s.extract 2 s.size) ∧ parseOk s = pok 16 (s.extract 2 s.size) := by
      unfold parseN parseOk
      by_cases h2 : 2 < s.size
      · have hx : isHex s := ⟨h2, hp.2⟩
        rw [if_pos hx, if_pos hx]; exact ⟨rfl, rfl⟩
      · have hx : ¬ isHex s := fun h => h2 h.1
        rw [if_neg hx, if_neg hx]
        have h3 := pre_only s (by omega) hp.2
        have h4 := none_16 (s.extract 2 s.size) (by rw [size_cut]; omega)
        rw [h3.1, h3.2, h4.1, h4.2]; exact ⟨rfl, rfl⟩
    rw [e.1, e.2]
    have hc : ∀ w, Calls Try.prog 17 #[.string s, .string { data := #[48, 120] }] w fun e w' => e = .returned (.tuple #[.string (s.extract 2 s.size), .bool true]) ∧ w' = w := fun w => cut_yes s hs hp.1 hp.2 w
    have ht : (s.extract 2 s.size).size ≤ 9223372036854775807 := by rw [size_cut]; omega
    clear e hp
    generalize s.extract 2 s.size = t at *
    go_enter Try.func10, Try.ntmps10
    go_wp2_with (first | (go_at_call 17; refine (hc _).mono ?_; rintro e w' ⟨rfl, rfl⟩) | (go_at_call 18; refine (pd_16 _ (by omega) _).mono ?_; rintro e w' ⟨rfl, rfl⟩))
    go_ret2
    exact ⟨rfl, rfl⟩
  · have e : parseN s = pnum 10 s ∧ parseOk s = pok 10 s := by
      unfold parseN parseOk
      have hx : ¬ isHex s := fun h => hp ⟨by have := h.1; omega, h.2⟩
      rw [if_neg hx, if_neg hx]; exact ⟨rfl, rfl⟩
    rw [e.1, e.2]
    have hc : ∀ w, Calls Try.prog 17 #[.string s, .string { data := #[48, 120] }] w fun e w' => e = .returned (.tuple #[.string s, .bool false]) ∧ w' = w := fun w => cut_no s hs hp w
    clear e hp
    go_enter Try.func10, Try.ntmps10
    go_wp2_with (first | (go_at_call 17; refine (hc _).mono ?_; rintro e w' ⟨rfl, rfl⟩) | (go_at_call 18; refine (pd_ten _ (by omega) _).mono ?_; rintro e w' ⟨rfl, rfl⟩))
    go_ret2
    exact ⟨rfl, rfl⟩
theorem rparse_any (s : ByteArray) (hs : s.size ≤ 9223372036854775807) (w : World) :
    Calls Try.prog 12 #[.string s] w fun e w' => e = .returned (.tuple #[.int .u64 (parseN s : Nat), .bool (parseOk s)]) ∧ w' = w := by
  unfold parseN parseOk
  by_cases h : isHex s
  · rw [if_pos h, if_pos h]
    exact rp_16 s _ hs h.1 h.2 rfl (by rw [size_cut]; omega) w
  · rw [if_neg h, if_neg h]
    exact rp_ten s hs h w
theorem pdig_lt {base : Nat} {s : ByteArray} : ∀ {k v : Nat}, pdig base s k = some v → v < 18446744073709551616
  | 0, v, h => by simp [pdig] at h; omega
  | k + 1, v, h => by
    rw [pdig] at h
    split at h
    · simp at h
    · split at h
      · simp at h; omega
      · simp at h
theorem parseN_lt (s : ByteArray) : parseN s < 18446744073709551616 := by
  have : ∀ b t, pnum b t < 18446744073709551616 := by
    intro b t
    unfold pnum
    cases h : pdig b t t.size with
    | none => simp
    | some v => simpa using pdig_lt h
  unfold parseN; split <;> exact this _ _
/-- does a text begin with a sign? -/
abbrev isNeg (s : ByteArray) : Prop := 1 ≤ s.size ∧ (s.extract 0 1).toList = [45]
/-- the text behind its sign -/
def tailS (s : ByteArray) : ByteArray := s.extract 1 s.size
/-- the number that a text writes; 0: none -/
def intN (s : ByteArray) : Int := if isNeg s then (if parseOk (tailS s) = true ∧ parseN (tailS s) ≤ 9223372036854775808 then - (parseN (tailS s) : Int) else 0) else (if parseOk s = true ∧ parseN s ≤ 9223372036854775807 then (parseN s : Int) else 0)
/-- is a text a number? -/
def intOk (s : ByteArray) : Bool := if isNeg s then decide (parseOk (tailS s) = true ∧ parseN (tailS s) ≤ 9223372036854775808) else decide (parseOk s = true ∧ parseN s ≤ 9223372036854775807)
theorem neg_num (v : Nat) (h : v ≤ 9223372036854775808) : wrap64 (IntKind.u64.wrap (-(v : Int))) = -(v : Int) := by
  rw [IntKind.wrap_u64]; unfold wrap64; omega
theorem pos_num (v : Nat) (h : v ≤ 9223372036854775807) : wrap64 (v : Int) = (v : Int) := by unfold wrap64; omega
set_option maxHeartbeats 400000 in
theorem pint_any (s : ByteArray) (hs : s.size ≤ 9223372036854775807) (w : World) :
    Calls Try.prog 11 #[.string s] w fun e w' => e = .returned (.tuple #[.int .i64 (intN s), .bool (intOk s)]) ∧ w' = w := by
  by_cases hn : isNeg s
  · unfold intN intOk
    rw [if_pos hn, if_pos hn]
    have hc : ∀ w, Calls Try.prog 17 #[.string s, .string { data := #[45] }] w fun e w' => e = .returned (.tuple #[.string (tailS s), .bool true]) ∧ w' = w := fun w => cutm_yes s hs hn.1 hn.2 w
    have ht : (tailS s).size ≤ 9223372036854775807 := by unfold tailS; rw [size_cut]; omega
    have hl := parseN_lt (tailS s)
    have hpc : ∀ w, Calls Try.prog 10 #[.string (tailS s)] w fun e w' => e = .returned (.tuple #[.int .u64 (parseN (tailS s) : Nat), .bool (parseOk (tailS s))]) ∧ w' = w := fun w => parse_any _ ht w
    generalize parseN (tailS s) = v at *
    generalize parseOk (tailS s) = ok at *
    generalize tailS s = t at *
    clear hn
    cases ok
    · rw [if_neg (by simp), show decide (false = true ∧ v ≤ 9223372036854775808) = false from by simp]
      go_enter Try.func11, Try.ntmps11
      go_wp2_with (first | (go_at_call 17; refine (hc _).mono ?_; rintro e w' ⟨rfl, rfl⟩) | (go_at_call 10; refine (hpc _).mono ?_; rintro e w' ⟨rfl, rfl⟩))
      go_ret2
      exact ⟨rfl, rfl⟩
    · by_cases hv : v ≤ 9223372036854775808
      · rw [if_pos ⟨rfl, hv⟩, show decide (true = true ∧ v ≤ 9223372036854775808) = true from by simp [hv]]
        have HW : Hid (Value.int .i64 (wrap64 (IntKind.u64.wrap (-(v : Int)))) = Value.int .i64 (-(v : Int))) := by show _ = _; rw [neg_num v hv]
        go_enter Try.func11, Try.ntmps11
        go_wp2_with (first | (go_at_call 17; refine (hc _).mono ?_; rintro e w' ⟨rfl, rfl⟩) | (go_at_call 10; refine (hpc _).mono ?_; rintro e w' ⟨rfl, rfl⟩))
        go_ret2
        exact ⟨ret_tup HW.out rfl, rfl⟩
      · rw [if_neg (fun h => hv h.2), show decide (true = true ∧ v ≤ 9223372036854775808) = false from by simp; omega]
        go_enter Try.func11, Try.ntmps11
        go_wp2_with (first | (go_at_call 17; refine (hc _).mono ?_; rintro e w' ⟨rfl, rfl⟩) | (go_at_call 10; refine (hpc _).mono ?_; rintro e w' ⟨rfl, rfl⟩))
        go_ret2
        exact ⟨rfl, rfl⟩
  · unfold intN intOk
    rw [if_neg hn, if_neg hn]
    have hc : ∀ w, Calls Try.prog 17 #[.string s, .string { data := #[45] }] w fun e w' => e = .returned (.tuple #[.string s, .bool false]) ∧ w' = w := fun w => cutm_no s hs hn w
    have hl := parseN_lt s
    have hpc : ∀ w, Calls Try.prog 10 #[.string s] w fun e w' => e = .returned (.tuple #[.int .u64 (parseN s : Nat), .bool (parseOk s)]) ∧ w' = w := fun w => parse_any _ hs w
    generalize parseN s = v at *
    generalize parseOk s = ok at *
    clear hn
    cases ok
    · rw [if_neg (by simp), show decide (false = true ∧ v ≤ 9223372036854775807) = false from by simp]
      go_enter Try.func11, Try.ntmps11
      go_wp2_with (first | (go_at_call 17; refine (hc _).mono ?_; rintro e w' ⟨rfl, rfl⟩) | (go_at_call 10; refine (hpc _).mono ?_; rintro e w' ⟨rfl, rfl⟩))
      go_ret2
      exact ⟨rfl, rfl⟩
    · by_cases hv : v ≤ 9223372036854775807
      · rw [if_pos ⟨rfl, hv⟩, show decide (true = true ∧ v ≤ 9223372036854775807) = true from by simp [hv]]
        go_enter Try.func11, Try.ntmps11
        go_wp2_with (first | (go_at_call 17; refine (hc _).mono ?_; rintro e w' ⟨rfl, rfl⟩) | (go_at_call 10; refine (hpc _).mono ?_; rintro e w' ⟨rfl, rfl⟩))
        go_ret2
        exact ⟨rfl, rfl⟩
      · rw [if_neg (fun h => hv h.2), show decide (true = true ∧ v ≤ 9223372036854775807) = false from by simp; omega]
        go_enter Try.func11, Try.ntmps11
        go_wp2_with (first | (go_at_call 17; refine (hc _).mono ?_; rintro e w' ⟨rfl, rfl⟩) | (go_at_call 10; refine (hpc _).mono ?_; rintro e w' ⟨rfl, rfl⟩))
        go_ret2
        exact ⟨rfl, rfl⟩
theorem not_nat (v : Nat) (h : v < 18446744073709551616) : 18446744073709551615 ^^^ v = 18446744073709551615 - v := by
  apply Nat.eq_of_testBit_eq
  intro j
  have e : (18446744073709551615 : Nat) = 2 ^ 64 - 1 := by decide
  have e2 : 18446744073709551615 - v = 2 ^ 64 - (v + 1) := by omega
  rw [Nat.testBit_xor, e2, Nat.testBit_two_pow_sub_succ (by omega), e, Nat.testBit_two_pow_sub_one]
  by_cases hj : j < 64
  · simp [hj]
  · have : v.testBit j = false := by
      apply Nat.testBit_lt_two_pow
      have : 2 ^ 64 ≤ 2 ^ j := Nat.pow_le_pow_right (by omega) (by omega)
      omega
    simp [hj, this]
theorem not_num (v : Nat) (h : v ≤ 9223372036854775808) : wrap64 (IntKind.u64.wrap (bits BinOp.xor IntKind.u64 IntKind.u64.max (v : Int) + 1)) = -(v : Int) := by
  have e : IntKind.u64.max = ((18446744073709551615 : Nat) : Int) := by decide
  rw [e, bits_xor_u64_nat _ _ (by omega) (by omega), not_nat v (by omega), IntKind.wrap_u64]
  unfold wrap64
  omega
theorem first_byte (s : ByteArray) (h : 1 ≤ s.size) : (s.extract 0 1).toList = [s[0]] := by
  rw [ByteArray.toList_eq, ByteArray.data_extract]
  apply List.ext_getElem
  · simp; show min 1 s.data.size = 1; have : s.data.size = s.size := rfl; omega
  · intro i h1 h2
    simp at h2
    subst h2
    simp
    rfl
theorem neg_first (s : ByteArray) (h : 1 ≤ s.size) : isNeg s ↔ s[0].toNat = 45 := by
  unfold isNeg
  rw [first_byte s h]
  constructor
  · intro hh
    have : s[0] = 45 := by simpa using hh.2
    rw [this]; rfl
  · intro hh
    refine ⟨h, ?_⟩
    have : s[0] = 45 := UInt8.toNat_inj.1 hh
    rw [this]
set_option maxHeartbeats 400000 in
theorem rpint_any (s : ByteArray) (hs : s.size ≤ 9223372036854775807) (w : World) :
    Calls Try.prog 13 #[.string s] w fun e w' => e = .returned (.tuple #[.int .i64 (intN s), .bool (intOk s)]) ∧ w' = w := by
  by_cases hn : isNeg s
  · unfold intN intOk
    rw [if_pos hn, if_pos hn]
    have h0 : 0 < s.size := hn.1
    have hb : ((s[0].toNat : Int) == 45) = true := by have := (neg_first s hn.1).1 hn; simp [this]
    have ht : (tailS s).size ≤ 9223372036854775807 := by unfold tailS; rw [size_cut]; omega
    have hl := parseN_lt (tailS s)
    have hpc : ∀ w, Calls Try.prog 12 #[.string (tailS s)] w fun e w' => e = .returned (.tuple #[.int .u64 (parseN (tailS s) : Nat), .bool (parseOk (tailS s))]) ∧ w' = w := fun w => rparse_any _ ht w
    have hex : s.extract 1 s.size = tailS s := rfl
    generalize parseN (tailS s) = v at *
    generalize parseOk (tailS s) = ok at *
    generalize tailS s = t at *
    clear hn
    cases ok
    · rw [if_neg (by simp), show decide (false = true ∧ v ≤ 9223372036854775808) = false from by simp]
      go_enter Try.func13, Try.ntmps13
      go_wp2_with (first | (go_at_call 12; refine (hpc _).mono ?_; rintro e w' ⟨rfl, rfl⟩))
      go_ret2
      exact ⟨rfl, rfl⟩
    · by_cases hv : v ≤ 9223372036854775808
      · rw [if_pos ⟨rfl, hv⟩, show decide (true = true ∧ v ≤ 9223372036854775808) = true from by simp [hv]]
        go_enter Try.func13, Try.ntmps13
        go_wp2_with (first | (go_at_call 12; refine (hpc _).mono ?_; rintro e w' ⟨rfl, rfl⟩))
        go_ret2
        exact ⟨ret_tup (by show Value.int .i64 (wrap64 (IntKind.u64.wrap (bits BinOp.xor IntKind.u64 IntKind.u64.max (v : Int) + 1))) = _; rw [not_num v hv]) rfl, rfl⟩
      · rw [if_neg (fun h => hv h.2), show decide (true = true ∧ v ≤ 9223372036854775808) = false from by simp; omega]
        go_enter Try.func13, Try.ntmps13
        go_wp2_with (first | (go_at_call 12; refine (hpc _).mono ?_; rintro e w' ⟨rfl, rfl⟩))
        go_ret2
        exact ⟨rfl, rfl⟩
  · unfold intN intOk
    rw [if_neg hn, if_neg hn]
    have hl := parseN_lt s
    have hpc : ∀ w, Calls Try.prog 12 #[.string s] w fun e w' => e = .returned (.tuple #[.int .u64 (parseN s : Nat), .bool (parseOk s)]) ∧ w' = w := fun w => rparse_any _ hs w
    have hb : ∀ (h : 0 < s.size), ((s[0].toNat : Int) == 45) = false := by
      intro h
      have h45 : s[0].toNat ≠ 45 := fun e => hn ((neg_first s h).2 e)
      rw [beq_eq_false_iff_ne]; omega
    generalize parseN s = v at *
    generalize parseOk s = ok at *
    clear hn
    by_cases h0 : 0 < s.size
    · have hb0 := hb h0
      clear hb
      cases ok
      · rw [if_neg (by simp), show decide (false = true ∧ v ≤ 9223372036854775807) = false from by simp]
        go_enter Try.func13, Try.ntmps13
        go_wp2_with (first | (go_at_call 12; refine (hpc _).mono ?_; rintro e w' ⟨rfl, rfl⟩))
        go_ret2
        exact ⟨rfl, rfl⟩
      · by_cases hv : v ≤ 9223372036854775807
        · rw [if_pos ⟨rfl, hv⟩, show decide (true = true ∧ v ≤ 9223372036854775807) = true from by simp [hv]]
          go_enter Try.func13, Try.ntmps13
          go_wp2_with (first | (go_at_call 12; refine (hpc _).mono ?_; rintro e w' ⟨rfl, rfl⟩))
          go_ret2
          exact ⟨rfl, rfl⟩
        · rw [if_neg (fun h => hv h.2), show decide (true = true ∧ v ≤ 9223372036854775807) = false from by simp; omega]
          go_enter Try.func13, Try.ntmps13
          go_wp2_with (first | (go_at_call 12; refine (hpc _).mono ?_; rintro e w' ⟨rfl, rfl⟩))
          go_ret2
          exact ⟨rfl, rfl⟩
    · clear hb
      cases ok
      · rw [if_neg (by simp), show decide (false = true ∧ v ≤ 9223372036854775807) = false from by simp]
        go_enter Try.func13, Try.ntmps13
        go_wp2_with (first | (go_at_call 12; refine (hpc _).mono ?_; rintro e w' ⟨rfl, rfl⟩))
        go_ret2
        exact ⟨rfl, rfl⟩
      · by_cases hv : v ≤ 9223372036854775807
        · rw [if_pos ⟨rfl, hv⟩, show decide (true = true ∧ v ≤ 9223372036854775807) = true from by simp [hv]]
          go_enter Try.func13, Try.ntmps13
          go_wp2_with (first | (go_at_call 12; refine (hpc _).mono ?_; rintro e w' ⟨rfl, rfl⟩))
          go_ret2
          exact ⟨rfl, rfl⟩
        · rw [if_neg (fun h => hv h.2), show decide (true = true ∧ v ≤ 9223372036854775807) = false from by simp; omega]
          go_enter Try.func13, Try.ntmps13
          go_wp2_with (first | (go_at_call 12; refine (hpc _).mono ?_; rintro e w' ⟨rfl, rfl⟩))
          go_ret2
          exact ⟨rfl, rfl⟩
theorem parseN_zero (s : ByteArray) (h : parseOk s = false) : parseN s = 0 := by
  have : ∀ b t, pok b t = false → pnum b t = 0 := by
    intro b t ht
    unfold pok at ht
    unfold pnum
    cases hd : pdig b t t.size with
    | none => rfl
    | some v =>
      rw [hd] at ht
      simp at ht
      rw [show t.size = 0 from by rw [ht]; rfl] at hd
      simp [pdig] at hd
      simp [hd]
  unfold parseOk at h
  unfold parseN
  split at h
  · rw [if_pos (by assumption)]; exact this _ _ h
  · rw [if_neg (by assumption)]; exact this _ _ h
theorem intN_zero (s : ByteArray) (h : intOk s = false) : intN s = 0 := by
  unfold intOk at h
  unfold intN
  split at h
  · rw [if_pos (by assumption), if_neg (by simpa using h)]
  · rw [if_neg (by assumption), if_neg (by simpa using h)]
set_option maxHeartbeats 400000 in
theorem parses_walk (w : World) (s : ByteArray) (hs0 : s.size ≤ maxLen) :
    Calls Try.prog 5 #[.string s] w fun e w' => e = .returned (.bool true) ∧ Below w.heap.size w w' := by
  have hs : s.size ≤ 9223372036854775807 := by unfold maxLen at hs0; omega
  have z1 := parseN_zero s
  have z2 := intN_zero s
  have c1 := fun w => parse_any s hs w
  have c2 := fun w => pint_any s hs w
  have c3 := fun w => rparse_any s hs w
  have c4 := fun w => rpint_any s hs w
  generalize parseN s = a at *
  generalize parseOk s = ok at *
  generalize intN s = b at *
  generalize intOk s = is at *
  clear hs0 hs
  have y1 : ok = false → a = 0 := z1
  have y2 : is = false → b = 0 := z2
  clear z1 z2
  cases ok <;> cases is
  all_goals
    simp at y1 y2
    try subst y1
    try subst y2
    go_enter Try.func5, Try.ntmps5
    go_wp2_with (first | (go_at_call 6; refine (awake_any _).mono ?_; rintro e w' ⟨rfl, rfl⟩) | (go_at_call 10; refine (c1 _).mono ?_; rintro e w' ⟨rfl, rfl⟩) | (go_at_call 11; refine (c2 _).mono ?_; rintro e w' ⟨rfl, rfl⟩) | (go_at_call 12; refine (c3 _).mono ?_; rintro e w' ⟨rfl, rfl⟩) | (go_at_call 13; refine (c4 _).mono ?_; rintro e w' ⟨rfl, rfl⟩))
    go_ret
    exact ⟨by simp, Below.refl _ _⟩
end Go.Proofs.Ytflpfgbebjamfab
