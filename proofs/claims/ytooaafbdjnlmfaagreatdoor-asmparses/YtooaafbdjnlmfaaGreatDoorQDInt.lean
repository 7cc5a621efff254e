/- The document's answer to Parse of layer 1 reads the same number, or none. -/
import Derived.Test.YtooaafbdjnlmfaaGreatDoorQDigits
import Derived.Test.YtooaafbdjnlmfaaGreatDoorQDTrim
import Derived.Test.YtooaafbdjnlmfaaGreatDoorQDPart
import Derived.BigQuiet
namespace Go.Proofs.YtooaafbdjnlmfaaGreatDoor
open Go.RowKit
/-- what a sign is worth as a digit by the document's answer; 99: it is none -/
def vl (c : Nat) : Nat := if dg c = 16 then 99 else dg c
theorem vl_lt (c b : Nat) (hb : b ≤ 16) : vl c < b ↔ dg c < b := by
  have := dg_le c
  unfold vl; split <;> omega
theorem vl_eq (c b : Nat) (hb : b ≤ 16) (h : vl c < b) : vl c = dg c := by
  unfold vl at *; split <;> simp_all; omega
theorem vl_le (c : Nat) : vl c ≤ 99 := by have := dg_le c; unfold vl; split <;> omega
theorem value_any (c : Nat) (hc : c ≤ 255) (w : World) : Calls Tryz.prog 136 #[.int .u8 (c : Int)] w fun e w' => e = .returned (.int .i64 (vl c : Nat)) ∧ w' = w := by
  have HD : Hid (vl c = if 48 ≤ c ∧ c ≤ 57 then c - 48 else if 97 ≤ c ∧ c ≤ 102 then c - 87 else 99) := by
    show vl c = _
    unfold vl dg
    by_cases h : 48 ≤ c ∧ c ≤ 57
    · rw [if_pos h, if_neg (by omega), if_pos h]
    · rw [if_neg h, if_neg h]
      by_cases h2 : 97 ≤ c ∧ c ≤ 102
      · rw [if_pos h2, if_neg (by omega), if_pos h2]
      · rw [if_neg h2, if_pos rfl, if_neg h2]
  generalize vl c = d at *
  go_enter Tryz.func136, Tryz.ntmps136
  go_wp2
  all_goals
    go_ret
    refine ⟨?_, rfl⟩
    have := HD.out
    split at this
    · subst this; simp; try omega
    · split at this
      · subst this; simp; try omega
      · subst this; simp; try omega
/-- what the document's answer has read so far, in halves -/
def PSt (b : Nat) (s : ByteArray) (k hi lo : Nat) : Prop := pdig b s k = some (hi * 4294967296 + lo)
theorem PSt.out {b : Nat} {s : ByteArray} {k hi lo : Nat} (h : PSt b s k hi lo) : pdig b s k = some (hi * 4294967296 + lo) := h
theorem dec_pos (n : Nat) : decide (n ≠ 0) = decide (0 < n) := by rw [decide_eq_decide]; omega
set_option maxRecDepth 100000 in
set_option maxHeartbeats 1000000 in
theorem rp_ten (s : ByteArray) (hs : s.size ≤ 9223372036854775807) (hno : ¬ (2 < s.size ∧ (s.extract 0 2).toList = [48, 120])) (w : World) :
    Calls Tryz.prog 112 #[.string s] w fun e w' => e = .returned (.tuple #[.int .u64 (pnum 10 s : Nat), .bool (pok 10 s)]) ∧ w' = w := by
  have hk : ∀ (_ : 2 < s.size), ((s.extract 0 2).toList == [48, 120]) = false := by
    intro h; simp; exact fun e => hno ⟨h, e⟩
  by_cases h2 : 2 < s.size
  · have hk2 := hk h2
    clear hk hno
    go_enter Tryz.func112, Tryz.ntmps112
    go_wp2
    go_loop [5, 6, 7] (fun h l i => ∃ k hi lo : Nat, k ≤ s.size ∧ hi < 4294967296 ∧ lo < 4294967296 ∧ i = .int .i64 k ∧ h = .int .u64 hi ∧ l = .int .u64 lo ∧ PSt 10 s k hi lo) (fun _ _ i => s.size - (intOf i).toNat)
    case atStart => exact ⟨0, 0, 0, by omega, by omega, by omega, rfl, rfl, rfl, rfl⟩
    case round =>
      obtain ⟨k, hi, lo, hk, hhi, hlo, rfl, rfl, rfl, HP⟩ := hrel
      by_cases hlt : k < s.size
      · have HB : Hid (fB s k = s[k].toNat) := fB_at s k hlt
        have hb255 : s[k].toNat ≤ 255 := by have := (s[k]).toNat_lt; omega
        have hvl := vl_le s[k].toNat
        have HOK : Hid (∀ d, vl s[k].toNat = d → d < 10 → (hi * 4294967296 + lo) * 10 + d < 18446744073709551616 → pdig 10 s (k + 1) = some ((hi * 4294967296 + lo) * 10 + d)) := by
          intro d hd h1 h2
          have e : dg (fB s k) = d := by rw [HB.out, ← vl_eq _ 10 (by omega) (by rw [hd]; exact h1)]; exact hd
          have := pdig_ok (base := 10) (PSt.out HP) (by rw [e]; exact h1) (by rw [e]; exact h2)
          rw [e] at this; exact this
        have HBAD1 : Hid (∀ d, vl s[k].toNat = d → ¬ d < 10 → pnum 10 s = 0 ∧ pok 10 s = false) := by
          intro d hd h1
          have e : ¬ dg (fB s k) < 10 := by rw [HB.out, ← vl_lt _ 10 (by omega), hd]; exact h1
          exact p_bad (pdig_bad (base := 10) (PSt.out HP) (fun h => e h.1)) (by omega)
        have HBAD2 : Hid (∀ d, vl s[k].toNat = d → d < 10 → ¬ (hi * 4294967296 + lo) * 10 + d < 18446744073709551616 → pnum 10 s = 0 ∧ pok 10 s = false) := by
          intro d hd h1 h2
          have e : dg (fB s k) = d := by rw [HB.out, ← vl_eq _ 10 (by omega) (by rw [hd]; exact h1)]; exact hd
          exact p_bad (pdig_bad (base := 10) (PSt.out HP) (by rw [e]; exact fun h => h2 h.2)) (by omega)
        have hcall : ∀ w, Calls Tryz.prog 136 #[.int .u8 (s[k].toNat : Int)] w fun e w' => e = .returned (.int .i64 (vl s[k].toNat : Nat)) ∧ w' = w := fun w => value_any _ hb255 w
        generalize hD : vl s[k].toNat = d at *
        have HD : Hid (vl s[k].toNat = d) := hD
        clear hD
        have hkk : (k : Int) < s.size := by omega
        by_cases h1 : d < 10
        · by_cases h3 : (hi * 4294967296 + lo) * 10 + d < 18446744073709551616
          · have HV : PSt 10 s (k + 1) (hi * 10 + (lo * 10 + d) / 4294967296) ((lo * 10 + d) % 4294967296) := by
              show pdig 10 s (k + 1) = _
              rw [HOK.out d rfl h1 h3]
              congr 1
              omega
            clear HOK HBAD1 HBAD2
            have hlo2 : decide (4294967296 ≤ (hi : Int) * 10 + ((lo : Int) * 10 + d) / 4294967296) = false := by rw [decide_eq_false_iff_not]; omega
            obtain ⟨H2, hH2⟩ : ∃ H2 : Nat, H2 = hi * 10 + (lo * 10 + d) / 4294967296 := ⟨_, rfl⟩
            obtain ⟨L2, hL2⟩ : ∃ L2 : Nat, L2 = (lo * 10 + d) % 4294967296 := ⟨_, rfl⟩
            rw [← hH2, ← hL2] at HV
            have HH : Hid (H2 = hi * 10 + (lo * 10 + d) / 4294967296 ∧ L2 = (lo * 10 + d) % 4294967296 ∧ H2 < 4294967296 ∧ L2 < 4294967296) := ⟨hH2, hL2, by omega, by omega⟩
            clear hH2 hL2
            clear h3
            go_wp2_with (first | (go_at_call 136; refine (hcall _).mono ?_; rintro e w' ⟨rfl, rfl⟩))
            go_round
            case rel => exact ⟨k + 1, H2, L2, by omega, HH.out.2.2.1, HH.out.2.2.2, by go_num, by rw [HH.out.1]; go_num, by rw [HH.out.2.1]; go_num, HV⟩
            case measure => simp [intOf]; omega
          · have Q : Hid (pnum 10 s = 0 ∧ pok 10 s = false) := HBAD2.out d rfl h1 h3
            clear HOK HBAD1 HBAD2
            have hlo2 : 4294967296 ≤ (hi : Int) * 10 + ((lo : Int) * 10 + d) / 4294967296 := by omega
            clear h3
            go_wp2_with (first | (go_at_call 136; refine (hcall _).mono ?_; rintro e w' ⟨rfl, rfl⟩))
            go_ret2
            exact ⟨by rw [Q.out.1, Q.out.2]; rfl, rfl⟩
        · have Q : Hid (pnum 10 s = 0 ∧ pok 10 s = false) := HBAD1.out d rfl h1
          clear HOK HBAD1 HBAD2
          go_wp2_with (first | (go_at_call 136; refine (hcall _).mono ?_; rintro e w' ⟨rfl, rfl⟩))
          go_ret2
          exact ⟨by rw [Q.out.1, Q.out.2]; rfl, rfl⟩
      · obtain rfl : k = s.size := by omega
        have Q : Hid (_ ∧ _) := p_end (PSt.out HP)
        go_wp2
        go_ret2
        refine ⟨?_, rfl⟩
        rw [Q.out.1, Q.out.2]
        refine ret_tup ?_ ?_
        · simp
        · rw [dec_pos]; rfl
  · clear hk hno
    go_enter Tryz.func112, Tryz.ntmps112
    go_wp2
    go_loop [5, 6, 7] (fun h l i => ∃ k hi lo : Nat, k ≤ s.size ∧ hi < 4294967296 ∧ lo < 4294967296 ∧ i = .int .i64 k ∧ h = .int .u64 hi ∧ l = .int .u64 lo ∧ PSt 10 s k hi lo) (fun _ _ i => s.size - (intOf i).toNat)
    case atStart => exact ⟨0, 0, 0, by omega, by omega, by omega, rfl, rfl, rfl, rfl⟩
    case round =>
      obtain ⟨k, hi, lo, hk, hhi, hlo, rfl, rfl, rfl, HP⟩ := hrel
      by_cases hlt : k < s.size
      · have HB : Hid (fB s k = s[k].toNat) := fB_at s k hlt
        have hb255 : s[k].toNat ≤ 255 := by have := (s[k]).toNat_lt; omega
        have hvl := vl_le s[k].toNat
        have HOK : Hid (∀ d, vl s[k].toNat = d → d < 10 → (hi * 4294967296 + lo) * 10 + d < 18446744073709551616 → pdig 10 s (k + 1) = some ((hi * 4294967296 + lo) * 10 + d)) := by
          intro d hd h1 h2
          have e : dg (fB s k) = d := by rw [HB.out, ← vl_eq _ 10 (by omega) (by rw [hd]; exact h1)]; exact hd
          have := pdig_ok (base := 10) (PSt.out HP) (by rw [e]; exact h1) (by rw [e]; exact h2)
          rw [e] at this; exact this
        have HBAD1 : Hid (∀ d, vl s[k].toNat = d → ¬ d < 10 → pnum 10 s = 0 ∧ pok 10 s = false) := by
          intro d hd h1
          have e : ¬ dg (fB s k) < 10 := by rw [HB.out, ← vl_lt _ 10 (by omega), hd]; exact h1
          exact p_bad (pdig_bad (base := 10) (PSt.out HP) (fun h => e h.1)) (by omega)
        have HBAD2 : Hid (∀ d, vl s[k].toNat = d → d < 10 → ¬ (hi * 4294967296 + lo) * 10 + d < 18446744073709551616 → pnum 10 s = 0 ∧ pok 10 s = false) := by
          intro d hd h1 h2
          have e : dg (fB s k) = d := by rw [HB.out, ← vl_eq _ 10 (by omega) (by rw [hd]; exact h1)]; exact hd
          exact p_bad (pdig_bad (base := 10) (PSt.out HP) (by rw [e]; exact fun h => h2 h.2)) (by omega)
        have hcall : ∀ w, Calls Tryz.prog 136 #[.int .u8 (s[k].toNat : Int)] w fun e w' => e = .returned (.int .i64 (vl s[k].toNat : Nat)) ∧ w' = w := fun w => value_any _ hb255 w
        generalize hD : vl s[k].toNat = d at *
        have HD : Hid (vl s[k].toNat = d) := hD
        clear hD
        have hkk : (k : Int) < s.size := by omega
        by_cases h1 : d < 10
        · by_cases h3 : (hi * 4294967296 + lo) * 10 + d < 18446744073709551616
          · have HV : PSt 10 s (k + 1) (hi * 10 + (lo * 10 + d) / 4294967296) ((lo * 10 + d) % 4294967296) := by
              show pdig 10 s (k + 1) = _
              rw [HOK.out d rfl h1 h3]
              congr 1
              omega
            clear HOK HBAD1 HBAD2
            have hlo2 : decide (4294967296 ≤ (hi : Int) * 10 + ((lo : Int) * 10 + d) / 4294967296) = false := by rw [decide_eq_false_iff_not]; omega
            obtain ⟨H2, hH2⟩ : ∃ H2 : Nat, H2 = hi * 10 + (lo * 10 + d) / 4294967296 := ⟨_, rfl⟩
            obtain ⟨L2, hL2⟩ : ∃ L2 : Nat, L2 = (lo * 10 + d) % 4294967296 := ⟨_, rfl⟩
            rw [← hH2, ← hL2] at HV
            have HH : Hid (H2 = hi * 10 + (lo * 10 + d) / 4294967296 ∧ L2 = (lo * 10 + d) % 4294967296 ∧ H2 < 4294967296 ∧ L2 < 4294967296) := ⟨hH2, hL2, by omega, by omega⟩
            clear hH2 hL2
            clear h3
            go_wp2_with (first | (go_at_call 136; refine (hcall _).mono ?_; rintro e w' ⟨rfl, rfl⟩))
            go_round
            case rel => exact ⟨k + 1, H2, L2, by omega, HH.out.2.2.1, HH.out.2.2.2, by go_num, by rw [HH.out.1]; go_num, by rw [HH.out.2.1]; go_num, HV⟩
            case measure => simp [intOf]; omega
          · have Q : Hid (pnum 10 s = 0 ∧ pok 10 s = false) := HBAD2.out d rfl h1 h3
            clear HOK HBAD1 HBAD2
            have hlo2 : 4294967296 ≤ (hi : Int) * 10 + ((lo : Int) * 10 + d) / 4294967296 := by omega
            clear h3
            go_wp2_with (first | (go_at_call 136; refine (hcall _).mono ?_; rintro e w' ⟨rfl, rfl⟩))
            go_ret2
            exact ⟨by rw [Q.out.1, Q.out.2]; rfl, rfl⟩
        · have Q : Hid (pnum 10 s = 0 ∧ pok 10 s = false) := HBAD1.out d rfl h1
          clear HOK HBAD1 HBAD2
          go_wp2_with (first | (go_at_call 136; refine (hcall _).mono ?_; rintro e w' ⟨rfl, rfl⟩))
          go_ret2
          exact ⟨by rw [Q.out.1, Q.out.2]; rfl, rfl⟩
      · obtain rfl : k = s.size := by omega
        have Q : Hid (_ ∧ _) := p_end (PSt.out HP)
        go_wp2
        go_ret2
        refine ⟨?_, rfl⟩
        rw [Q.out.1, Q.out.2]
        refine ret_tup ?_ ?_
        · simp
        · rw [dec_pos]; rfl
set_option maxRecDepth 100000 in
set_option maxHeartbeats 1000000 in
theorem rp_16 (s t : ByteArray) (hs : s.size ≤ 9223372036854775807) (h2 : 2 < s.size) (hp : (s.extract 0 2).toList = [48, 120]) (ht : s.extract 2 s.size = t) (hts : t.size ≤ 9223372036854775807) (w : World) :
    Calls Tryz.prog 112 #[.string s] w fun e w' => e = .returned (.tuple #[.int .u64 (pnum 16 t : Nat), .bool (pok 16 t)]) ∧ w' = w := by
  have hk2 : ((s.extract 0 2).toList == [48, 120]) = true := by simp [hp]
  clear hp
  go_enter Tryz.func112, Tryz.ntmps112
  go_wp2
  go_loop [5, 6, 7] (fun h l i => ∃ k hi lo : Nat, k ≤ t.size ∧ hi < 4294967296 ∧ lo < 4294967296 ∧ i = .int .i64 k ∧ h = .int .u64 hi ∧ l = .int .u64 lo ∧ PSt 16 t k hi lo) (fun _ _ i => t.size - (intOf i).toNat)
  case atStart => exact ⟨0, 0, 0, by omega, by omega, by omega, rfl, rfl, rfl, rfl⟩
  case round =>
    obtain ⟨k, hi, lo, hk, hhi, hlo, rfl, rfl, rfl, HP⟩ := hrel
    by_cases hlt : k < t.size
    · have HB : Hid (fB t k = t[k].toNat) := fB_at t k hlt
      have hb255 : t[k].toNat ≤ 255 := by have := (t[k]).toNat_lt; omega
      have hvl := vl_le t[k].toNat
      have HOK : Hid (∀ d, vl t[k].toNat = d → d < 16 → (hi * 4294967296 + lo) * 16 + d < 18446744073709551616 → pdig 16 t (k + 1) = some ((hi * 4294967296 + lo) * 16 + d)) := by
        intro d hd h1 h2
        have e : dg (fB t k) = d := by rw [HB.out, ← vl_eq _ 16 (by omega) (by rw [hd]; exact h1)]; exact hd
        have := pdig_ok (base := 16) (PSt.out HP) (by rw [e]; exact h1) (by rw [e]; exact h2)
        rw [e] at this; exact this
      have HBAD1 : Hid (∀ d, vl t[k].toNat = d → ¬ d < 16 → pnum 16 t = 0 ∧ pok 16 t = false) := by
        intro d hd h1
        have e : ¬ dg (fB t k) < 16 := by rw [HB.out, ← vl_lt _ 16 (by omega), hd]; exact h1
        exact p_bad (pdig_bad (base := 16) (PSt.out HP) (fun h => e h.1)) (by omega)
      have HBAD2 : Hid (∀ d, vl t[k].toNat = d → d < 16 → ¬ (hi * 4294967296 + lo) * 16 + d < 18446744073709551616 → pnum 16 t = 0 ∧ pok 16 t = false) := by
        intro d hd h1 h2
        have e : dg (fB t k) = d := by rw [HB.out, ← vl_eq _ 16 (by omega) (by rw [hd]; exact h1)]; exact hd
        exact p_bad (pdig_bad (base := 16) (PSt.out HP) (by rw [e]; exact fun h => h2 h.2)) (by omega)
      have hcall : ∀ w, Calls Tryz.prog 136 #[.int .u8 (t[k].toNat : Int)] w fun e w' => e = .returned (.int .i64 (vl t[k].toNat : Nat)) ∧ w' = w := fun w => value_any _ hb255 w
      generalize hD : vl t[k].toNat = d at *
      have HD : Hid (vl t[k].toNat = d) := hD
      clear hD
      have hkk : (k : Int) < t.size := by omega
      by_cases h1 : d < 16
      · by_cases h3 : (hi * 4294967296 + lo) * 16 + d < 18446744073709551616
        · have HV : PSt 16 t (k + 1) (hi * 16 + (lo * 16 + d) / 4294967296) ((lo * 16 + d) % 4294967296) := by
            show pdig 16 t (k + 1) = _
            rw [HOK.out d rfl h1 h3]
            congr 1
            omega
          clear HOK HBAD1 HBAD2
          have hlo2 : decide (4294967296 ≤ (hi : Int) * 16 + ((lo : Int) * 16 + d) / 4294967296) = false := by rw [decide_eq_false_iff_not]; omega
          obtain ⟨H2, hH2⟩ : ∃ H2 : Nat, H2 = hi * 16 + (lo * 16 + d) / 4294967296 := ⟨_, rfl⟩
          obtain ⟨L2, hL2⟩ : ∃ L2 : Nat, L2 = (lo * 16 + d) % 4294967296 := ⟨_, rfl⟩
          rw [← hH2, ← hL2] at HV
          have HH : Hid (H2 = hi * 16 + (lo * 16 + d) / 4294967296 ∧ L2 = (lo * 16 + d) % 4294967296 ∧ H2 < 4294967296 ∧ L2 < 4294967296) := ⟨hH2, hL2, by omega, by omega⟩
          clear hH2 hL2
          clear h3
          go_wp2_with (first | (go_at_call 136; refine (hcall _).mono ?_; rintro e w' ⟨rfl, rfl⟩))
          go_round
          case rel => exact ⟨k + 1, H2, L2, by omega, HH.out.2.2.1, HH.out.2.2.2, by go_num, by rw [HH.out.1]; go_num, by rw [HH.out.2.1]; go_num, HV⟩
          case measure => simp [intOf]; omega
        · have Q : Hid (pnum 16 t = 0 ∧ pok 16 t = false) := HBAD2.out d rfl h1 h3
          clear HOK HBAD1 HBAD2
          have hlo2 : 4294967296 ≤ (hi : Int) * 16 + ((lo : Int) * 16 + d) / 4294967296 := by omega
          clear h3
          go_wp2_with (first | (go_at_call 136; refine (hcall _).mono ?_; rintro e w' ⟨rfl, rfl⟩))
          go_ret2
          exact ⟨by rw [Q.out.1, Q.out.2]; rfl, rfl⟩
      · have Q : Hid (pnum 16 t = 0 ∧ pok 16 t = false) := HBAD1.out d rfl h1
        clear HOK HBAD1 HBAD2
        go_wp2_with (first | (go_at_call 136; refine (hcall _).mono ?_; rintro e w' ⟨rfl, rfl⟩))
        go_ret2
        exact ⟨by rw [Q.out.1, Q.out.2]; rfl, rfl⟩
    · obtain rfl : k = t.size := by omega
      have Q : Hid (_ ∧ _) := p_end (PSt.out HP)
      go_wp2
      go_ret2
      refine ⟨?_, rfl⟩
      rw [Q.out.1, Q.out.2]
      refine ret_tup ?_ ?_
      · simp
      · rw [dec_pos]; rfl
theorem rparse_any (s : ByteArray) (hs : s.size ≤ 9223372036854775807) (w : World) :
    Calls Tryz.prog 112 #[.string s] w fun e w' => e = .returned (.tuple #[.int .u64 (parseN s : Nat), .bool (parseOk s)]) ∧ w' = w := by
  unfold parseN parseOk
  by_cases h : isHex s
  · rw [if_pos h, if_pos h]
    exact rp_16 s _ hs h.1 h.2 rfl (by rw [size_cut]; omega) w
  · rw [if_neg h, if_neg h]
    exact rp_ten s hs h w
theorem not_natI (v : Nat) (h : v < 18446744073709551616) : 18446744073709551615 ^^^ v = 18446744073709551615 - v := by
  apply Nat.eq_of_testBit_eq
  intro j
  have e : (18446744073709551615 : Nat) = 2 ^ 64 - 1 := by decide
  have e2 : 18446744073709551615 - v = 2 ^ 64 - (v + 1) := by omega
  rw [Nat.testBit_xor, e2, Nat.testBit_two_pow_sub_succ (by omega), e, Nat.testBit_two_pow_sub_one]
  by_cases hj : j < 64
  · simp [hj]
  · have : v.testBit j = false := by
      apply Nat.testBit_lt_two_pow
      have : 2 ^ 64 ≤ 2 ^ j := Nat.pow_le_pow_right (by omega) (by omega)
      omega
    simp [hj, this]
theorem not_num (v : Nat) (h : v ≤ 9223372036854775808) : wrap64 (IntKind.u64.wrap (bits BinOp.xor IntKind.u64 IntKind.u64.max (v : Int) + 1)) = -(v : Int) := by
  have e : IntKind.u64.max = ((18446744073709551615 : Nat) : Int) := by decide
  rw [e, bits_xor_u64_nat _ _ (by omega) (by omega), not_natI v (by omega), IntKind.wrap_u64]
  unfold wrap64
  omega
theorem first_byte (s : ByteArray) (h : 1 ≤ s.size) : (s.extract 0 1).toList = [s[0]] := by
  rw [ByteArray.toList_eq, ByteArray.data_extract]
  apply List.ext_getElem
  · simp; show min 1 s.data.size = 1; have : s.data.size = s.size := rfl; omega
  · intro i h1 h2
    simp at h2
    subst h2
    simp
    rfl
theorem neg_first (s : ByteArray) (h : 1 ≤ s.size) : isNeg s ↔ s[0].toNat = 45 := by
  unfold isNeg
  rw [first_byte s h]
  constructor
  · intro hh
    have : s[0] = 45 := by simpa using hh.2
    rw [this]; rfl
  · intro hh
    refine ⟨h, ?_⟩
    have : s[0] = 45 := UInt8.toNat_inj.1 hh
    rw [this]
set_option maxHeartbeats 400000 in
theorem rpint_any (s : ByteArray) (hs : s.size ≤ 9223372036854775807) (w : World) :
    Calls Tryz.prog 86 #[.string s] w fun e w' => e = .returned (.tuple #[.int .i64 (intN s), .bool (intOk s)]) ∧ w' = w := by
  by_cases hn : isNeg s
  · unfold intN intOk
    rw [if_pos hn, if_pos hn]
    have h0 : 0 < s.size := hn.1
    have hb : ((s[0].toNat : Int) == 45) = true := by have := (neg_first s hn.1).1 hn; simp [this]
    have ht : (tailS s).size ≤ 9223372036854775807 := by unfold tailS; rw [size_cut]; omega
    have hl := parseN_lt (tailS s)
    have hpc : ∀ w, Calls Tryz.prog 112 #[.string (tailS s)] w fun e w' => e = .returned (.tuple #[.int .u64 (parseN (tailS s) : Nat), .bool (parseOk (tailS s))]) ∧ w' = w := fun w => rparse_any _ ht w
    have hex : s.extract 1 s.size = tailS s := rfl
    generalize parseN (tailS s) = v at *
    generalize parseOk (tailS s) = ok at *
    generalize tailS s = t at *
    clear hn
    cases ok
    · rw [if_neg (by simp), show decide (false = true ∧ v ≤ 9223372036854775808) = false from by simp]
      go_enter Tryz.func86, Tryz.ntmps86
      go_wp2_with (first | (go_at_call 112; refine (hpc _).mono ?_; rintro e w' ⟨rfl, rfl⟩))
      go_ret2
      exact ⟨rfl, rfl⟩
    · by_cases hv : v ≤ 9223372036854775808
      · rw [if_pos ⟨rfl, hv⟩, show decide (true = true ∧ v ≤ 9223372036854775808) = true from by simp [hv]]
        go_enter Tryz.func86, Tryz.ntmps86
        go_wp2_with (first | (go_at_call 112; refine (hpc _).mono ?_; rintro e w' ⟨rfl, rfl⟩))
        go_ret2
        exact ⟨ret_tup (by show Value.int .i64 (wrap64 (IntKind.u64.wrap (bits BinOp.xor IntKind.u64 IntKind.u64.max (v : Int) + 1))) = _; rw [not_num v hv]) rfl, rfl⟩
      · rw [if_neg (fun h => hv h.2), show decide (true = true ∧ v ≤ 9223372036854775808) = false from by simp; omega]
        go_enter Tryz.func86, Tryz.ntmps86
        go_wp2_with (first | (go_at_call 112; refine (hpc _).mono ?_; rintro e w' ⟨rfl, rfl⟩))
        go_ret2
        exact ⟨rfl, rfl⟩
  · unfold intN intOk
    rw [if_neg hn, if_neg hn]
    have hl := parseN_lt s
    have hpc : ∀ w, Calls Tryz.prog 112 #[.string s] w fun e w' => e = .returned (.tuple #[.int .u64 (parseN s : Nat), .bool (parseOk s)]) ∧ w' = w := fun w => rparse_any _ hs w
    have hb : ∀ (h : 0 < s.size), ((s[0].toNat : Int) == 45) = false := by
      intro h
      have h45 : s[0].toNat ≠ 45 := fun e => hn ((neg_first s h).2 e)
      rw [beq_eq_false_iff_ne]; omega
    generalize parseN s = v at *
    generalize parseOk s = ok at *
    clear hn
    by_cases h0 : 0 < s.size
    · have hb0 := hb h0
      clear hb
      cases ok
      · rw [if_neg (by simp), show decide (false = true ∧ v ≤ 9223372036854775807) = false from by simp]
        go_enter Tryz.func86, Tryz.ntmps86
        go_wp2_with (first | (go_at_call 112; refine (hpc _).mono ?_; rintro e w' ⟨rfl, rfl⟩))
        go_ret2
        exact ⟨rfl, rfl⟩
      · by_cases hv : v ≤ 9223372036854775807
        · rw [if_pos ⟨rfl, hv⟩, show decide (true = true ∧ v ≤ 9223372036854775807) = true from by simp [hv]]
          go_enter Tryz.func86, Tryz.ntmps86
          go_wp2_with (first | (go_at_call 112; refine (hpc _).mono ?_; rintro e w' ⟨rfl, rfl⟩))
          go_ret2
          exact ⟨rfl, rfl⟩
        · rw [if_neg (fun h => hv h.2), show decide (true = true ∧ v ≤ 9223372036854775807) = false from by simp; omega]
          go_enter Tryz.func86, Tryz.ntmps86
          go_wp2_with (first | (go_at_call 112; refine (hpc _).mono ?_; rintro e w' ⟨rfl, rfl⟩))
          go_ret2
          exact ⟨rfl, rfl⟩
    · clear hb
      cases ok
      · rw [if_neg (by simp), show decide (false = true ∧ v ≤ 9223372036854775807) = false from by simp]
        go_enter Tryz.func86, Tryz.ntmps86
        go_wp2_with (first | (go_at_call 112; refine (hpc _).mono ?_; rintro e w' ⟨rfl, rfl⟩))
        go_ret2
        exact ⟨rfl, rfl⟩
      · by_cases hv : v ≤ 9223372036854775807
        · rw [if_pos ⟨rfl, hv⟩, show decide (true = true ∧ v ≤ 9223372036854775807) = true from by simp [hv]]
          go_enter Tryz.func86, Tryz.ntmps86
          go_wp2_with (first | (go_at_call 112; refine (hpc _).mono ?_; rintro e w' ⟨rfl, rfl⟩))
          go_ret2
          exact ⟨rfl, rfl⟩
        · rw [if_neg (fun h => hv h.2), show decide (true = true ∧ v ≤ 9223372036854775807) = false from by simp; omega]
          go_enter Tryz.func86, Tryz.ntmps86
          go_wp2_with (first | (go_at_call 112; refine (hpc _).mono ?_; rintro e w' ⟨rfl, rfl⟩))
          go_ret2
          exact ⟨rfl, rfl⟩
theorem parseN_zero (s : ByteArray) (h : parseOk s = false) : parseN s = 0 := by
  have : ∀ b t, pok b t = false → pnum b t = 0 := by
    intro b t ht
    unfold pok at ht
    unfold pnum
    cases hd : pdig b t t.size with
    | none => rfl
    | some v =>
      rw [hd] at ht
      simp at ht
      rw [show t.size = 0 from by rw [ht]; rfl] at hd
      simp [pdig] at hd
      simp [hd]
  unfold parseOk at h
  unfold parseN
  split at h
  · rw [if_pos (by assumption)]; exact this _ _ h
  · rw [if_neg (by assumption)]; exact this _ _ h
theorem intN_zero (s : ByteArray) (h : intOk s = false) : intN s = 0 := by
  unfold intOk at h
  unfold intN
  split at h
  · rw [if_pos (by assumption), if_neg (by simpa using h)]
  · rw [if_neg (by assumption), if_neg (by simpa using h)]
end Go.Proofs.YtooaafbdjnlmfaaGreatDoor

namespace Go.Proofs.YtooaafbdjnlmfaaGreatDoor
open Go.RowKit
set_option linter.unusedVariables false
set_option linter.unusedSimpArgs false
theorem intN_fits (s : ByteArray) : -9223372036854775808 ≤ intN s ∧ intN s ≤ 9223372036854775807 := by
  unfold intN; split
  · split
    · rename_i h; omega
    · omega
  · split
    · rename_i h; omega
    · omega
/-- a number as Print would have it; nothing else is turned -/
def plain2L (l : List UInt8) : List UInt8 := if intOk (mk l) = true then Lib.itoa (intN (mk l)) else l
set_option maxRecDepth 100000 in
theorem plain2_any (l : List UInt8) (hl : l.length ≤ 1000000) (w : World) : Calls Tryz.prog 137 #[.string (mk l)] w fun e w' => e = .returned (.string (mk (plain2L l))) ∧ Below w.heap.size w w' := by
  have HI : Hid (∀ V, Calls Tryz.prog 86 #[.string (mk l)] V fun e w' => e = .returned (.tuple #[.int .i64 (intN (mk l)), .bool (intOk (mk l))]) ∧ w' = V) := fun V => rpint_any (mk l) (by rw [mk_size]; omega) V
  have HD : Hid (∀ V, Calls Tryz.prog 34 #[.int .i64 (intN (mk l))] V fun e w' => e = .returned (.string (mk (Lib.itoa (intN (mk l))))) ∧ Below V.heap.size V w') := fun V => rdec_b _ (intN_fits _).1 (intN_fits _).2 V
  unfold plain2L
  generalize intN (mk l) = n at *
  cases hk : intOk (mk l)
  · rw [hk] at HI
    rw [if_neg (by decide)]
    clear hk HD
    generalize mk l = s at *
    go_enter Tryz.func137, Tryz.ntmps137
    go_wp2_with (go_at_call 86; (with_reducible refine Calls.mono (HI.out _) ?_); rintro e w4 ⟨rfl, rfl⟩)
    go_ret
    exact ⟨rfl, Below.refl _ _⟩
  · rw [hk] at HI
    rw [if_pos rfl]
    clear hk
    generalize mk l = s at *
    generalize mk (Lib.itoa n) = t at *
    go_enter Tryz.func137, Tryz.ntmps137
    go_wp2_with (first | (go_at_call 86; (with_reducible refine Calls.mono (HI.out _) ?_); rintro e w4 ⟨rfl, rfl⟩) | (go_at_call 34; (with_reducible refine Calls.mono (HD.out _) ?_); rintro e w5 ⟨rfl, hb5⟩))
    go_ret
    exact ⟨rfl, hb5⟩
theorem trimS_len (l : List UInt8) : (Lib.trimS l [32, 9]).length ≤ l.length := by
  have h1 : (Lib.trimS l [32, 9]).Sublist (Lib.trimRightS l [32, 9]) := List.dropWhile_sublist _
  have h2 : (Lib.trimRightS l [32, 9]).length ≤ l.length := by
    unfold Lib.trimRightS
    rw [List.length_reverse]
    have := (List.dropWhile_sublist (fun x => ([32, 9] : List UInt8).contains x) (l := l.reverse)).length_le
    rw [List.length_reverse] at this
    exact this
  exact Nat.le_trans h1.length_le h2
/-- what stands ahead of the first open bracket -/
def aheadL (l : List UInt8) : List UInt8 := l.takeWhile fun b => b != 40
theorem ahead_at (l : List UInt8) (k : Nat) (h : k < l.length) (hk : l[k] = 40) (hn : ∀ i (h : i < l.length), i < k → l[i] ≠ 40) : aheadL l = l.take k := by
  have e : l = l.take k ++ l[k] :: l.drop (k + 1) := by rw [← List.drop_eq_getElem_cons h, List.take_append_drop]
  have hall : ∀ b ∈ l.take k, (b != 40) = true := by
    intro b hb
    obtain ⟨i, hi, rfl⟩ := List.getElem_of_mem hb
    have hi2 := hi
    rw [List.length_take] at hi2
    rw [List.getElem_take]
    simpa using hn i (by omega) (by omega)
  unfold aheadL
  conv => lhs; rw [e]
  rw [List.takeWhile_append_of_pos hall, List.takeWhile_cons, hk]
  simp
theorem has_not (l : List UInt8) (hn : ∀ i (h : i < l.length), l[i] ≠ 40) : l.contains 40 = false := by
  rw [Bool.eq_false_iff]
  intro h
  rw [List.contains_iff_mem] at h
  obtain ⟨i, hi, he⟩ := List.getElem_of_mem h
  exact hn i hi he
/-- the number of a part, perhaps ahead of brackets -/
def numberL (l : List UInt8) : Int × Bool := if intOk (mk l) = true then (intN (mk l), true) else if l.contains 40 = true then (intN (mk (Lib.trimS (aheadL l) [32, 9])), intOk (mk (Lib.trimS (aheadL l) [32, 9]))) else (0, false)
theorem u8_40 (b : UInt8) : ((b.toNat : Int) == 40) = (b == 40) := by
  by_cases h : b = 40
  · subst h; rfl
  · have h2 : b.toNat ≠ 40 := fun e => h (UInt8.toNat_inj.1 e)
    have h3 : (b == 40) = false := by simpa using h
    rw [h3]; simp; omega
set_option maxRecDepth 100000 in
set_option maxHeartbeats 1000000 in
theorem number_core (s : ByteArray) (l : List UInt8) (n : Int) (ok : Bool) (HS : Hid (s.size = l.length)) (hs6 : s.size ≤ 1000000) (HE : Hid (∀ b : Nat, s.extract 0 b = mk (l.take b))) (HG : Hid (∀ k (h : k < s.size) (h2 : k < l.length), s[k] = l[k]))
    (HI : Hid (∀ V, Calls Tryz.prog 86 #[.string s] V fun e w' => e = .returned (.tuple #[.int .i64 0, .bool false]) ∧ w' = V))
    (HJ : Hid (∀ k (h : k < l.length), l[k] = 40 → (∀ i (h : i < l.length), i < k → l[i] ≠ 40) → ∃ t : ByteArray, (∀ V, Calls Tryz.prog 15 #[.string (mk (l.take k))] V fun e w' => e = .returned (.string t) ∧ w' = V) ∧ (∀ V, Calls Tryz.prog 86 #[.string t] V fun e w' => e = .returned (.tuple #[.int .i64 n, .bool ok]) ∧ w' = V)))
    (HN : Hid ((∀ i (h : i < l.length), l[i] ≠ 40) → n = 0 ∧ ok = false)) (w : World) : Calls Tryz.prog 41 #[.string s] w fun e w' => e = .returned (.tuple #[.int .i64 n, .bool ok]) ∧ w' = w := by
  go_enter Tryz.func41, Tryz.ntmps41
  go_wp2_with (go_at_call 86; (with_reducible refine Calls.mono (HI.out _) ?_); rintro e w4 ⟨rfl, rfl⟩)
  go_loop [6] (fun i => ∃ k : Nat, k ≤ s.size ∧ i = .int .i64 k ∧ Hid (∀ i (h : i < l.length), i < k → l[i] ≠ 40)) (fun i => s.size - (intOf i).toNat)
  case atStart => exact ⟨0, by omega, rfl, fun i h h2 => absurd h2 (by omega)⟩
  case round =>
    obtain ⟨k, hk, rfl, HP⟩ := hrel
    by_cases hlt : k < s.size
    · have hkk : (k : Int) < s.size := by omega
      have hk0 : (0 : Int) ≤ k := by omega
      have hkk2 : (k : Int) ≤ s.size := by omega
      have hl2 : k < l.length := by rw [← HS.out]; exact hlt
      have hget : s[k] = l[k] := HG.out k hlt hl2
      have hb := u8_40 s[k]
      cases hB : (s[k] == 40)
      · rw [hB] at hb
        have HB : Hid (l[k] ≠ 40) := by show _ ≠ _; rw [← hget]; simpa using hB
        clear hB hget
        go_wp2
        go_round
        case rel =>
          refine ⟨k + 1, by omega, by go_num, fun i h h2 => ?_⟩
          by_cases he : i = k
          · subst he; exact HB.out
          · exact HP.out i h (by omega)
        case measure => simp [intOf]; omega
      · rw [hB] at hb
        have HB : Hid (l[k] = 40) := by show _ = _; rw [← hget]; simpa using hB
        obtain ⟨t, ht1, ht2⟩ := HJ.out k hl2 HB.out HP.out
        rw [← HE.out] at ht1
        have T1 : Hid (∀ V, Calls Tryz.prog 15 #[.string (s.extract 0 k)] V fun e w' => e = .returned (.string t) ∧ w' = V) := ht1
        have T2 : Hid (∀ V, Calls Tryz.prog 86 #[.string t] V fun e w' => e = .returned (.tuple #[.int .i64 n, .bool ok]) ∧ w' = V) := ht2
        clear hB hget ht1 ht2
        go_wp2_with (first | (go_at_call 15; (with_reducible refine Calls.mono (T1.out _) ?_); rintro e w5 ⟨rfl, rfl⟩) | (go_at_call 86; (with_reducible refine Calls.mono (T2.out _) ?_); rintro e w6 ⟨rfl, rfl⟩))
        go_ret2
        exact ⟨rfl, rfl⟩
    · obtain rfl : k = s.size := by omega
      have hn := HN.out (fun i h => HP.out i h (by rw [HS.out]; exact h))
      have HN2 : Hid (n = 0 ∧ ok = false) := hn
      clear hn
      go_wp2
      go_ret2
      exact ⟨by rw [HN2.out.1, HN2.out.2]; rfl, rfl⟩
set_option maxRecDepth 100000 in
theorem number_any (l : List UInt8) (hl : l.length ≤ 1000000) (w : World) : Calls Tryz.prog 41 #[.string (mk l)] w fun e w' => e = .returned (.tuple #[.int .i64 (numberL l).1, .bool (numberL l).2]) ∧ w' = w := by
  have HI : Hid (∀ V, Calls Tryz.prog 86 #[.string (mk l)] V fun e w' => e = .returned (.tuple #[.int .i64 (intN (mk l)), .bool (intOk (mk l))]) ∧ w' = V) := fun V => rpint_any (mk l) (by rw [mk_size]; omega) V
  unfold numberL
  cases hk : intOk (mk l)
  · rw [intN_zero _ hk, hk] at HI
    rw [if_neg (by decide)]
    refine number_core (mk l) l _ _ (mk_size l) (by rw [mk_size]; exact hl) (fun b => ext_take l b) (mk_get l) HI ?_ ?_ w
    · intro k h h1 h2
      have hc : l.contains 40 = true := by rw [List.contains_iff_mem, ← h1]; exact List.getElem_mem h
      rw [if_pos hc, ahead_at l k h h1 h2]
      have hlt : (l.take k).length ≤ 1000000 := by rw [List.length_take]; omega
      refine ⟨mk (Lib.trimS (l.take k) [32, 9]), fun V => dtrim_any _ hlt V, fun V => rpint_any _ ?_ V⟩
      have := trimS_len (l.take k)
      rw [mk_size]; omega
    · intro h
      rw [has_not l h]
      exact ⟨rfl, rfl⟩
  · rw [hk] at HI
    rw [if_pos rfl]
    clear hk
    generalize intN (mk l) = n at *
    generalize mk l = s at *
    go_enter Tryz.func41, Tryz.ntmps41
    go_wp2_with (go_at_call 86; (with_reducible refine Calls.mono (HI.out _) ?_); rintro e w4 ⟨rfl, rfl⟩)
    go_ret2
    exact ⟨rfl, rfl⟩
end Go.Proofs.YtooaafbdjnlmfaaGreatDoor

namespace Go.Proofs.YtooaafbdjnlmfaaGreatDoor
open Go.RowKit
set_option linter.unusedVariables false
set_option linter.unusedSimpArgs false
theorem rdec_q (n : Int) (h0 : -9223372036854775808 ≤ n) (h1 : n ≤ 9223372036854775807) (w : World) : Calls Tryz.prog 34 #[.int .i64 n] w fun e w' => e = .returned (.string (mk (Lib.itoa n))) ∧ ∃ k, w' = w.drewN k :=
  (rdec_any n h0 h1 w).mono (by rintro e w' ⟨rfl, m, rfl⟩; exact ⟨by rw [decS_mk], m, rfl⟩)
set_option maxRecDepth 100000 in
theorem plain2_q (l : List UInt8) (hl : l.length ≤ 1000000) (w : World) : Calls Tryz.prog 137 #[.string (mk l)] w fun e w' => e = .returned (.string (mk (plain2L l))) ∧ ∃ k, w' = w.drewN k := by
  have HI : Hid (∀ V, Calls Tryz.prog 86 #[.string (mk l)] V fun e w' => e = .returned (.tuple #[.int .i64 (intN (mk l)), .bool (intOk (mk l))]) ∧ w' = V) := fun V => rpint_any (mk l) (by rw [mk_size]; omega) V
  have HD : Hid (∀ V, Calls Tryz.prog 34 #[.int .i64 (intN (mk l))] V fun e w' => e = .returned (.string (mk (Lib.itoa (intN (mk l))))) ∧ ∃ k, w' = V.drewN k) := fun V => rdec_q _ (intN_fits _).1 (intN_fits _).2 V
  unfold plain2L
  generalize intN (mk l) = n at *
  cases hk : intOk (mk l)
  · rw [hk] at HI
    rw [if_neg (by decide)]
    clear hk HD
    generalize mk l = s at *
    go_enter Tryz.func137, Tryz.ntmps137
    go_wp2_with (go_at_call 86; (with_reducible refine Calls.mono (HI.out _) ?_); rintro e w4 ⟨rfl, rfl⟩)
    go_ret
    exact ⟨rfl, 0, rfl⟩
  · rw [hk] at HI
    rw [if_pos rfl]
    clear hk
    generalize mk l = s at *
    generalize mk (Lib.itoa n) = t at *
    go_enter Tryz.func137, Tryz.ntmps137
    go_wp2_with (first | (go_at_call 86; (with_reducible refine Calls.mono (HI.out _) ?_); rintro e w4 ⟨rfl, rfl⟩) | (go_at_call 34; (with_reducible refine Calls.mono (HD.out _) ?_); rintro e w5 ⟨rfl, hb5⟩))
    go_ret
    exact ⟨rfl, hb5⟩
theorem u8_41 (b : UInt8) : ((b.toNat : Int) == 41) = (b == 41) := by
  by_cases h : b = 41
  · subst h; rfl
  · have h2 : b.toNat ≠ 41 := fun e => h (UInt8.toNat_inj.1 e)
    have h3 : (b == 41) = false := by simpa using h
    rw [h3]; simp; omega
/-- no bracket shuts it: it stays -/
theorem plain_open (s : ByteArray) (hs6 : s.size ≤ 1000000)
    (HI : Hid (∀ V, Calls Tryz.prog 86 #[.string s] V fun e w' => e = .returned (.tuple #[.int .i64 0, .bool false]) ∧ w' = V))
    (c : Nat) (hc : c + 1 = s.size) (hlast : ((s[c]'(by omega)).toNat == 41) = false) (w : World) : Calls Tryz.prog 113 #[.string s] w fun e w' => e = .returned (.string s) ∧ w' = w := by
  have hlt0 : c < s.size := by omega
  have hl1 : (((s[c]'hlt0).toNat : Int) == 41) = false := by
    rw [u8_41]
    have h3 : (s[c]'hlt0).toNat ≠ 41 := by simpa using hlast
    simp only [beq_eq_false_iff_ne, ne_eq]
    intro e; exact h3 (by rw [e]; rfl)
  have hc1 : (s.size : Int) - 1 = c := by omega
  have hcc : (c : Int) < s.size := by omega
  clear hlast
  go_enter Tryz.func113, Tryz.ntmps113
  go_wp2_with (go_at_call 86; (with_reducible refine Calls.mono (HI.out _) ?_); rintro e w4 ⟨rfl, rfl⟩)
  go_loop [5] (fun i => ∃ k : Nat, k ≤ s.size ∧ i = .int .i64 k) (fun i => s.size - (intOf i).toNat)
  case atStart => exact ⟨0, by omega, rfl⟩
  case round =>
    obtain ⟨k, hk, rfl⟩ := hrel
    by_cases hlt : k < s.size
    · have hkk : (k : Int) < s.size := by omega
      have hk0 : (0 : Int) ≤ k := by omega
      have hb := u8_40 s[k]
      cases hB : (s[k] == 40)
      · rw [hB] at hb
        clear hB
        go_wp2
        go_round
        case rel => exact ⟨k + 1, by omega, by go_num⟩
        case measure => simp [intOf]; omega
      · rw [hB] at hb
        clear hB
        go_wp2
        go_round
        case rel => exact ⟨k + 1, by omega, by go_num⟩
        case measure => simp [intOf]; omega
    · obtain rfl : k = s.size := by omega
      go_wp2
      go_ret
      exact ⟨rfl, rfl⟩
theorem bracket_ne {s : ByteArray} {k c : Nat} {h : k < s.size} {h2 : c < s.size} (e1 : s[k] = 40) (e2 : s[c] = 41) : k ≠ c := by
  intro e
  subst e
  have : (40 : UInt8) = 41 := e1.symm.trans e2
  exact absurd this (by decide)
set_option maxRecDepth 100000 in
set_option maxHeartbeats 1000000 in
/-- brackets -/
theorem plain_shut (s t : ByteArray) (hs6 : s.size ≤ 1000000)
    (HI : Hid (∀ V, Calls Tryz.prog 86 #[.string s] V fun e w' => e = .returned (.tuple #[.int .i64 0, .bool false]) ∧ w' = V))
    (c : Nat) (hc : c + 1 = s.size) (hlast : s[c]'(by omega) = 41)
    (HJ : Hid (∀ k (h : k < s.size), s[k] = 40 → (∀ i (h : i < s.size), i < k → s[i] ≠ 40) → ∃ t1 t2 t3 : ByteArray, (∀ V, Calls Tryz.prog 15 #[.string (s.extract 0 k)] V fun e w' => e = .returned (.string t1) ∧ w' = V) ∧ (∀ V, Calls Tryz.prog 137 #[.string t1] V fun e w' => e = .returned (.string t2) ∧ ∃ m, w' = V.drewN m) ∧ (∀ V, Calls Tryz.prog 15 #[.string (s.extract (k + 1) c)] V fun e w' => e = .returned (.string t3) ∧ w' = V) ∧ t2.size ≤ 1000100 ∧ t3.size ≤ 1000000 ∧ t = t2 ++ ⟨#[40]⟩ ++ t3 ++ ⟨#[41]⟩))
    (HN : Hid ((∀ i (h : i < s.size), s[i] ≠ 40) → t = s)) (w : World) : Calls Tryz.prog 113 #[.string s] w fun e w' => e = .returned (.string t) ∧ ∃ m, w' = w.drewN m := by
  have hlt0 : c < s.size := by omega
  have hl1 : (((s[c]'hlt0).toNat : Int) == 41) = true := by rw [hlast]; rfl
  have hc1 : (s.size : Int) - 1 = c := by omega
  have hcc : (c : Int) < s.size := by omega
  have HL : Hid (s[c]'hlt0 = 41) := hlast
  clear hlast
  go_enter Tryz.func113, Tryz.ntmps113
  go_wp2_with (go_at_call 86; (with_reducible refine Calls.mono (HI.out _) ?_); rintro e w4 ⟨rfl, rfl⟩)
  go_loop [5] (fun i => ∃ k : Nat, k ≤ s.size ∧ i = .int .i64 k ∧ Hid (∀ i (h : i < s.size), i < k → s[i] ≠ 40)) (fun i => s.size - (intOf i).toNat)
  case atStart => exact ⟨0, by omega, rfl, fun i h h2 => absurd h2 (by omega)⟩
  case round =>
    obtain ⟨k, hk, rfl, HP⟩ := hrel
    by_cases hlt : k < s.size
    · have hkk : (k : Int) < s.size := by omega
      have hk0 : (0 : Int) ≤ k := by omega
      have hb := u8_40 s[k]
      cases hB : (s[k] == 40)
      · rw [hB] at hb
        have HB : Hid (s[k] ≠ 40) := by show _ ≠ _; simpa using hB
        clear hB
        go_wp2
        go_round
        case rel =>
          refine ⟨k + 1, by omega, by go_num, fun i h h2 => ?_⟩
          by_cases he : i = k
          · subst he; exact HB.out
          · exact HP.out i h (by omega)
        case measure => simp [intOf]; omega
      · rw [hB] at hb
        have HB : Hid (s[k] = 40) := by show _ = _; simpa using hB
        have hkc : k ≠ c := bracket_ne HB.out HL.out
        obtain ⟨t1, t2, t3, ht1, ht2, ht3, hz2, hz3, ht⟩ := HJ.out k hlt HB.out HP.out
        have T1 : Hid (∀ V, Calls Tryz.prog 15 #[.string (s.extract 0 k)] V fun e w' => e = .returned (.string t1) ∧ w' = V) := ht1
        have T2 : Hid (∀ V, Calls Tryz.prog 137 #[.string t1] V fun e w' => e = .returned (.string t2) ∧ ∃ m, w' = V.drewN m) := ht2
        have T3 : Hid (∀ V, Calls Tryz.prog 15 #[.string (s.extract (k + 1) c)] V fun e w' => e = .returned (.string t3) ∧ w' = V) := ht3
        have HT : Hid (t = t2 ++ ⟨#[40]⟩ ++ t3 ++ ⟨#[41]⟩) := ht
        have hk1 : (k : Int) + 1 ≤ c := by omega
        have hkk2 : (k : Int) ≤ s.size := by omega
        have hcs : (c : Int) ≤ s.size := by omega
        clear hB ht1 ht2 ht3 ht
        go_upto_region 8 with fail
        go_quiet (first | (go_at_call 15; with_reducible exact Calls.quiet_of_same (T1.out _)) | (go_at_call 15; with_reducible exact Calls.quiet_of_same (T3.out _)) | (go_at_call 137; with_reducible exact Calls.quiet_of (T2.out _)))
        go_wp2
        go_ret
        exact ⟨by rw [HT.out]; rfl, _, rfl⟩
    · obtain rfl : k = s.size := by omega
      have hn := HN.out (fun i h => HP.out i h h)
      have HN2 : Hid (t = s) := hn
      clear hn
      go_wp2
      go_ret
      exact ⟨by rw [HN2.out]; rfl, 0, rfl⟩
/-- what stands between a part's first open bracket and its last byte -/
def insideL (l : List UInt8) : List UInt8 := (l.take (l.length - 1)).drop ((aheadL l).length + 1)
/-- a part as Print would have it -/
def plainL (l : List UInt8) : List UInt8 := if intOk (mk l) = true then Lib.itoa (intN (mk l)) else if l.contains 40 = true ∧ l.getLast? = some 41 then plain2L (Lib.trimS (aheadL l) [32, 9]) ++ [40] ++ Lib.trimS (insideL l) [32, 9] ++ [41] else l
theorem plain2_len (l : List UInt8) : (plain2L l).length ≤ l.length + 21 := by
  unfold plain2L; split
  · have := Lib.itoa_length_le (intN (mk l)) (intN_fits _).1 (intN_fits _).2; omega
  · omega
set_option maxRecDepth 100000 in
theorem plain_any (l : List UInt8) (hl : l.length ≤ 1000000) (w : World) : Calls Tryz.prog 113 #[.string (mk l)] w fun e w' => e = .returned (.string (mk (plainL l))) ∧ ∃ m, w' = w.drewN m := by
  have HI : Hid (∀ V, Calls Tryz.prog 86 #[.string (mk l)] V fun e w' => e = .returned (.tuple #[.int .i64 (intN (mk l)), .bool (intOk (mk l))]) ∧ w' = V) := fun V => rpint_any (mk l) (by rw [mk_size]; omega) V
  unfold plainL
  cases hk : intOk (mk l)
  · rw [intN_zero _ hk, hk] at HI
    rw [if_neg (by decide)]
    by_cases he : l = []
    · subst he
      rw [if_neg (by simp)]
      go_enter Tryz.func113, Tryz.ntmps113
      go_wp2_with (go_at_call 86; (with_reducible refine Calls.mono (HI.out _) ?_); rintro e w4 ⟨rfl, rfl⟩)
      go_loop [5] (fun i => i = .int .i64 0) (fun _ => 0)
      case atStart => rfl
      case round =>
        obtain rfl := hrel
        have hz : ((mk []).size : Int) = 0 := rfl
        go_wp2
        go_ret
        exact ⟨rfl, 0, rfl⟩
    · have hpos : 0 < l.length := List.length_pos_iff.2 he
      have hgl : l.getLast? = some (l[l.length - 1]'(by omega)) := by rw [List.getLast?_eq_getElem?, List.getElem?_eq_getElem]
      by_cases h41 : l[l.length - 1]'(by omega) = 41
      · refine plain_shut (mk l) _ (by rw [mk_size]; exact hl) HI (l.length - 1) (by rw [mk_size]; omega) h41 ?_ ?_ w
        · intro k h h1 h2
          have hkl : k < l.length := by rw [← mk_size]; exact h
          have h1' : l[k] = 40 := h1
          have h2' : ∀ i (h : i < l.length), i < k → l[i] ≠ 40 := fun i hi hik => h2 i (by rw [mk_size]; exact hi) hik
          have hc : l.contains 40 = true := by rw [List.contains_iff_mem, ← h1']; exact List.getElem_mem hkl
          have ha : aheadL l = l.take k := ahead_at l k hkl h1' h2'
          have hlen : (aheadL l).length = k := by rw [ha, List.length_take]; omega
          rw [if_pos ⟨hc, by rw [hgl, h41]⟩]
          have l1 : (l.take k).length ≤ 1000000 := by rw [List.length_take]; omega
          have l2 := trimS_len (l.take k)
          have l3 := plain2_len (Lib.trimS (l.take k) [32, 9])
          have l4 : ((l.take (l.length - 1)).drop (k + 1)).length ≤ 1000000 := by rw [List.length_drop, List.length_take]; omega
          have l5 := trimS_len ((l.take (l.length - 1)).drop (k + 1))
          refine ⟨mk (Lib.trimS (l.take k) [32, 9]), mk (plain2L (Lib.trimS (l.take k) [32, 9])), mk (Lib.trimS ((l.take (l.length - 1)).drop (k + 1)) [32, 9]), ?_, ?_, ?_, by rw [mk_size]; omega, by rw [mk_size]; omega, ?_⟩
          · intro V; rw [ext_take]; exact dtrim_any _ l1 V
          · intro V; exact plain2_q _ (by omega) V
          · intro V; rw [ext_mid]; exact dtrim_any _ l4 V
          · unfold insideL
            rw [hlen, ha, ← mk_app, ← mk_app, ← mk_app]; rfl
        · intro h
          have hn := has_not l (fun i hi => h i (by rw [mk_size]; exact hi))
          rw [if_neg (by rw [hn]; simp)]
      · rw [if_neg (by rw [hgl]; simp; intro _; exact h41)]
        refine (plain_open (mk l) (by rw [mk_size]; exact hl) HI (l.length - 1) (by rw [mk_size]; omega) ?_ w).mono ?_
        · show ((l[l.length - 1]'(by omega)).toNat == 41) = false
          rw [beq_eq_false_iff_ne]
          intro e
          exact h41 (UInt8.toNat_inj.1 e)
        · rintro e w' ⟨rfl, rfl⟩
          exact ⟨rfl, 0, rfl⟩
  · rw [hk] at HI
    rw [if_pos rfl]
    have HD : Hid (∀ V, Calls Tryz.prog 34 #[.int .i64 (intN (mk l))] V fun e w' => e = .returned (.string (mk (Lib.itoa (intN (mk l))))) ∧ ∃ k, w' = V.drewN k) := fun V => rdec_q _ (intN_fits _).1 (intN_fits _).2 V
    clear hk
    generalize intN (mk l) = n at *
    generalize mk l = s at *
    generalize mk (Lib.itoa n) = t at *
    go_enter Tryz.func113, Tryz.ntmps113
    go_wp2_with (first | (go_at_call 86; (with_reducible refine Calls.mono (HI.out _) ?_); rintro e w4 ⟨rfl, rfl⟩) | (go_at_call 34; (with_reducible refine Calls.mono (HD.out _) ?_); rintro e w5 ⟨rfl, hb5⟩))
    go_ret
    exact ⟨rfl, hb5⟩
end Go.Proofs.YtooaafbdjnlmfaaGreatDoor
