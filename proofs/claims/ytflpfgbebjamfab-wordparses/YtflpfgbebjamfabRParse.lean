/- The document's answer to Parse of layer 1 reads the same number, or none. -/
import Derived.Test.YtflpfgbebjamfabParse
namespace Go.Proofs.Ytflpfgbebjamfab
open Go.RowKit
/-- what a sign is worth as a digit by the document's answer; 99: it is none -/
def vl (c : Nat) : Nat := if dg c = 16 then 99 else dg c
theorem vl_lt (c b : Nat) (hb : b ≤ 16) : vl c < b ↔ dg c < b := by
  have := dg_le c
  unfold vl; split <;> omega
theorem vl_eq (c b : Nat) (hb : b ≤ 16) (h : vl c < b) : vl c = dg c := by
  unfold vl at *; split <;> simp_all; omega
theorem vl_le (c : Nat) : vl c ≤ 99 := by have := dg_le c; unfold vl; split <;> omega
theorem value_any (c : Nat) (hc : c ≤ 255) (w : World) : Calls Try.prog 19 #[.int .u8 (c : Int)] w fun e w' => e = .returned (.int .i64 (vl c : Nat)) ∧ w' = w := by
  have HD : Hid (vl c = if 48 ≤ c ∧ c ≤ 57 then c - 48 else if 97 ≤ c ∧ c ≤ 102 then c - 87 else 99) := by
    show vl c = _
    unfold vl dg
    by_cases h : 48 ≤ c ∧ c ≤ 57
    · rw [if_pos h, if_neg (by omega), if_pos h]
    · rw [if_neg h, if_neg h]
      by_cases h2 : 97 ≤ c ∧ c ≤ 102
      · rw [if_pos h2, if_neg (by omega), if_pos h2]
      · rw [if_neg h2, if_pos rfl, if_neg h2]
  generalize vl c = d at *
  go_enter Try.func19, Try.ntmps19
  go_wp2
  all_goals
    go_ret
    refine ⟨?_, rfl⟩
    have := HD.out
    split at this
    · subst this; simp; try omega
    · split at this
      · subst this; simp; try omega
      · subst this; simp; try omega
/-- what the document's answer has read so far, in halves -/
def PSt (b : Nat) (s : ByteArray) (k hi lo : Nat) : Prop := pdig b s k = some (hi * 4294967296 + lo)
theorem PSt.out {b : Nat} {s : ByteArray} {k hi lo : Nat} (h : PSt b s k hi lo) : pdig b s k = some (hi * 4294967296 + lo) := h
theorem dec_pos (n : Nat) : decide (n ≠ 0) = decide (0 < n) := by rw [decide_eq_decide]; omega
set_option maxRecDepth 100000 in
set_option maxHeartbeats 1000000 in
theorem rp_ten (s : ByteArray) (hs : s.size ≤ 9223372036854775807) (hno : ¬ (2 < s.size ∧ (s.extract 0 2).toList = [48, 120])) (w : World) :
    Calls Try.prog 12 #[.string s] w fun e w' => e = .returned (.tuple #[.int .u64 (pnum 10 s : Nat), .bool (pok 10 s)]) ∧ w' = w := by
  have hk : ∀ (_ : 2 < s.size), ((s.extract 0 2).toList == [48, 120]) = false := by
    intro h; simp; exact fun e => hno ⟨h, e⟩
  by_cases h2 : 2 < s.size
  · have hk2 := hk h2
    clear hk hno
    go_enter Try.func12, Try.ntmps12
    go_wp2
    go_loop [5, 6, 7] (fun h l i => ∃ k hi lo : Nat, k ≤ s.size ∧ hi < 4294967296 ∧ lo < 4294967296 ∧ i = .int .i64 k ∧ h = .int .u64 hi ∧ l = .int .u64 lo ∧ PSt 10 s k hi lo) (fun _ _ i => s.size - (intOf i).toNat)
    case atStart => exact ⟨0, 0, 0, by omega, by omega, by omega, rfl, rfl, rfl, rfl⟩
    case round =>
      obtain ⟨k, hi, lo, hk, hhi, hlo, rfl, rfl, rfl, HP⟩ := hrel
      by_cases hlt : k < s.size
      · have HB : Hid (fB s k = s[k].toNat) := fB_at s k hlt
        have hb255 : s[k].toNat ≤ 255 := by have := (s[k]).toNat_lt; omega
        have hvl := vl_le s[k].toNat
        have HOK : Hid (∀ d, vl s[k].toNat = d → d < 10 → (hi * 4294967296 + lo) * 10 + d < 18446744073709551616 → pdig 10 s (k + 1) = some ((hi * 4294967296 + lo) * 10 + d)) := by
          intro d hd h1 h2
          have e : dg (fB s k) = d := by rw [HB.out, ← vl_eq _ 10 (by omega) (by rw [hd]; exact h1)]; exact hd
          have := pdig_ok (base := 10) (PSt.out HP) (by rw [e]; exact h1) (by rw [e]; exact h2)
          rw [e] at this; exact this
        have HBAD1 : Hid (∀ d, vl s[k].toNat = d → ¬ d < 10 → pnum 10 s = 0 ∧ pok 10 s = false) := by
          intro d hd h1
          have e : ¬ dg (fB s k) < 10 := by rw [HB.out, ← vl_lt _ 10 (by omega), hd]; exact h1
          exact p_bad (pdig_bad (base := 10) (PSt.out HP) (fun h => e h.1)) (by omega)
        have HBAD2 : Hid (∀ d, vl s[k].toNat = d → d < 10 → ¬ (hi * 4294967296 + lo) * 10 + d < 18446744073709551616 → pnum 10 s = 0 ∧ pok 10 s = false) := by
          intro d hd h1 h2
          have e : dg (fB s k) = d := by rw [HB.out, ← vl_eq _ 10 (by omega) (by rw [hd]; exact h1)]; exact hd
          exact p_bad (pdig_bad (base := 10) (PSt.out HP) (by rw [e]; exact fun h => h2 h.2)) (by omega)
        have hcall : ∀ w, Calls Try.prog 19 #[.int .u8 (s[k].toNat : Int)] w fun e w' => e = .returned (.int .i64 (vl s[k].toNat : Nat)) ∧ w' = w := fun w => value_any _ hb255 w
        generalize hD : vl s[k].toNat = d at *
        have HD : Hid (vl s[k].toNat = d) := hD
        clear hD
        have hkk : (k : Int) < s.size := by omega
        by_cases h1 : d < 10
        · by_cases h3 : (hi * 4294967296 + lo) * 10 + d < 18446744073709551616
          · have HV : PSt 10 s (k + 1) (hi * 10 + (lo * 10 + d) / 4294967296) ((lo * 10 + d) % 4294967296) := by
              show pdig 10 s (k + 1) = _
              rw [HOK.out d rfl h1 h3]
              congr 1
              omega
            clear HOK HBAD1 HBAD2
            have hlo2 : decide (4294967296 ≤ (hi : Int) * 10 + ((lo : Int) * 10 + d) / 4294967296) = false := by rw [decide_eq_false_iff_not]; omega
            obtain ⟨H2, hH2⟩ : ∃ H2 : Nat, H2 = hi * 10 + (lo * 10 + d) / 4294967296 := ⟨_, rfl⟩
            obtain ⟨L2, hL2⟩ : ∃ L2 : Nat, L2 = (lo * 10 + d) % 4294967296 := ⟨_, rfl⟩
            rw [← hH2, ← hL2] at HV
            have HH : Hid (H2 = hi * 10 + (lo * 10 + d) / 4294967296 ∧ L2 = (lo * 10 + d) % 4294967296 ∧ H2 < 4294967296 ∧ L2 < 4294967296) := ⟨hH2, hL2, by omega, by omega⟩
            clear hH2 hL2
            clear h3
            go_wp2_with (first | (go_at_call 19; refine (hcall _).mono ?_; rintro e w' ⟨rfl, rfl⟩))
            go_round
            case rel => exact ⟨k + 1, H2, L2, by omega, HH.out.2.2.1, HH.out.2.2.2, by go_num, by rw [HH.out.1]; go_num, by rw [HH.out.2.1]; go_num, HV⟩
            case measure => simp [intOf]; omega
          · have Q : Hid (pnum 10 s = 0 ∧ pok 10 s = false) := HBAD2.out d rfl h1 h3
            clear HOK HBAD1 HBAD2
            have hlo2 : 4294967296 ≤ (hi : Int) * 10 + ((lo : Int) * 10 + d) / 4294967296 := by omega
            clear h3
            go_wp2_with (first | (go_at_call 19; refine (hcall _).mono ?_; rintro e w' ⟨rfl, rfl⟩))
            go_ret2
            exact ⟨by rw [Q.out.1, Q.out.2]; rfl, rfl⟩
        · have Q : Hid (pnum 10 s = 0 ∧ pok 10 s = false) := HBAD1.out d rfl h1
          clear HOK HBAD1 HBAD2
          go_wp2_with (first | (go_at_call 19; refine (hcall _).mono ?_; rintro e w' ⟨rfl, rfl⟩))
          go_ret2
          exact ⟨by rw [Q.out.1, Q.out.2]; rfl, rfl⟩
      · obtain rfl : k = s.size := by omega
        have Q : Hid (_ ∧ _) := p_end (PSt.out HP)
        go_wp2
        go_ret2
        refine ⟨?_, rfl⟩
        rw [Q.out.1, Q.out.2]
        refine ret_tup ?_ ?_
        · simp
        · rw [dec_pos]; rfl
  · clear hk hno
    go_enter Try.func12, Try.ntmps12
    go_wp2
    go_loop [5, 6, 7] (fun h l i => ∃ k hi lo : Nat, k ≤ s.size ∧ hi < 4294967296 ∧ lo < 4294967296 ∧ i = .int .i64 k ∧ h = .int .u64 hi ∧ l = .int .u64 lo ∧ PSt 10 s k hi lo) (fun _ _ i => s.size - (intOf i).toNat)
    case atStart => exact ⟨0, 0, 0, by omega, by omega, by omega, rfl, rfl, rfl, rfl⟩
    case round =>
      obtain ⟨k, hi, lo, hk, hhi, hlo, rfl, rfl, rfl, HP⟩ := hrel
      by_cases hlt : k < s.size
      · have HB : Hid (fB s k = s[k].toNat) := fB_at s k hlt
        have hb255 : s[k].toNat ≤ 255 := by have := (s[k]).toNat_lt; omega
        have hvl := vl_le s[k].toNat
        have HOK : Hid (∀ d, vl s[k].toNat = d → d < 10 → (hi * 4294967296 + lo) * 10 + d < 18446744073709551616 → pdig 10 s (k + 1) = some ((hi * 4294967296 + lo) * 10 + d)) := by
          intro d hd h1 h2
          have e : dg (fB s k) = d := by rw [HB.out, ← vl_eq _ 10 (by omega) (by rw [hd]; exact h1)]; exact hd
          have := pdig_ok (base := 10) (PSt.out HP) (by rw [e]; exact h1) (by rw [e]; exact h2)
          rw [e] at this; exact this
        have HBAD1 : Hid (∀ d, vl s[k].toNat = d → ¬ d < 10 → pnum 10 s = 0 ∧ pok 10 s = false) := by
          intro d hd h1
          have e : ¬ dg (fB s k) < 10 := by rw [HB.out, ← vl_lt _ 10 (by omega), hd]; exact h1
          exact p_bad (pdig_bad (base := 10) (PSt.out HP) (fun h => e h.1)) (by omega)
        have HBAD2 : Hid (∀ d, vl s[k].toNat = d → d < 10 → ¬ (hi * 4294967296 + lo) * 10 + d < 18446744073709551616 → pnum 10 s = 0 ∧ pok 10 s = false) := by
          intro d hd h1 h2
          have e : dg (fB s k) = d := by rw [HB.out, ← vl_eq _ 10 (by omega) (by rw [hd]; exact h1)]; exact hd
          exact p_bad (pdig_bad (base := 10) (PSt.out HP) (by rw [e]; exact fun h => h2 h.2)) (by omega)
        have hcall : ∀ w, Calls Try.prog 19 #[.int .u8 (s[k].toNat : Int)] w fun e w' => e = .returned (.int .i64 (vl s[k].toNat : Nat)) ∧ w' = w := fun w => value_any _ hb255 w
        generalize hD : vl s[k].toNat = d at *
        have HD : Hid (vl s[k].toNat = d) := hD
        clear hD
        have hkk : (k : Int) < s.size := by omega
        by_cases h1 : d < 10
        · by_cases h3 : (hi * 4294967296 + lo) * 10 + d < 18446744073709551616
          · have HV : PSt 10 s (k + 1) (hi * 10 + (lo * 10 + d) / 4294967296) ((lo * 10 + d) % 4294967296) := by
              show pdig 10 s (k + 1) = _
              rw [HOK.out d rfl h1 h3]
              congr 1
              omega
            clear HOK HBAD1 HBAD2
            have hlo2 : decide (4294967296 ≤ (hi : Int) * 10 + ((lo : Int) * 10 + d) / 4294967296) = false := by rw [decide_eq_false_iff_not]; omega
            obtain ⟨H2, hH2⟩ : ∃ H2 : Nat, H2 = hi * 10 + (lo * 10 + d) / 4294967296 := ⟨_, rfl⟩
            obtain ⟨L2, hL2⟩ : ∃ L2 : Nat, L2 = (lo * 10 + d) % 4294967296 := ⟨_, rfl⟩
            rw [← hH2, ← hL2] at HV
            have HH : Hid (H2 = hi * 10 + (lo * 10 + d) / 4294967296 ∧ L2 = (lo * 10 + d) % 4294967296 ∧ H2 < 4294967296 ∧ L2 < 4294967296) := ⟨hH2, hL2, by omega, by omega⟩
            clear hH2 hL2
            clear h3
            go_wp2_with (first | (go_at_call 19; refine (hcall _).mono ?_; rintro e w' ⟨rfl, rfl⟩))
            go_round
            case rel => exact ⟨k + 1, H2, L2, by omega, HH.out.2.2.1, HH.out.2.2.2, by go_num, by rw [HH.out.1]; go_num, by rw [HH.out.2.1]; go_num, HV⟩
            case measure => simp [intOf]; omega
          · have Q : Hid (pnum 10 s = 0 ∧ pok 10 s = false) := HBAD2.out d rfl h1 h3
            clear HOK HBAD1 HBAD2
            have hlo2 : 4294967296 ≤ (hi : Int) * 10 + ((lo : Int) * 10 + d) / 4294967296 := by omega
            clear h3
            go_wp2_with (first | (go_at_call 19; refine (hcall _).mono ?_; rintro e w' ⟨rfl, rfl⟩))
            go_ret2
            exact ⟨by rw [Q.out.1, Q.out.2]; rfl, rfl⟩
        · have Q : Hid (pnum 10 s = 0 ∧ pok 10 s = false) := HBAD1.out d rfl h1
          clear HOK HBAD1 HBAD2
          go_wp2_with (first | (go_at_call 19; refine (hcall _).mono ?_; rintro e w' ⟨rfl, rfl⟩))
          go_ret2
          exact ⟨by rw [Q.out.1, Q.out.2]; rfl, rfl⟩
      · obtain rfl : k = s.size := by omega
        have Q : Hid (_ ∧ _) := p_end (PSt.out HP)
        go_wp2
        go_ret2
        refine ⟨?_, rfl⟩
        rw [Q.out.1, Q.out.2]
        refine ret_tup ?_ ?_
        · simp
        · rw [dec_pos]; rfl
set_option maxRecDepth 100000 in
set_option maxHeartbeats 1000000 in
theorem rp_16 (s t : ByteArray) (hs : s.size ≤ 9223372036854775807) (h2 : 2 < s.size) (hp : (s.extract 0 2).toList = [48, 120]) (ht : s.extract 2 s.size = t) (hts : t.size ≤ 9223372036854775807) (w : World) :
    Calls Try.prog 12 #[.string s] w fun e w' => e = .returned (.tuple #[.int .u64 (pnum 16 t : Nat), .bool (pok 16 t)]) ∧ w' = w := by
  have hk2 : ((s.extract 0 2).toList == [48, 120]) = true := by simp [hp]
  clear hp
  go_enter Try.func12, Try.ntmps12
  go_wp2
  go_loop [5, 6, 7] (fun h l i => ∃ k hi lo : Nat, k ≤ t.size ∧ hi < 4294967296 ∧ lo < 4294967296 ∧ i = .int .i64 k ∧ h = .int .u64 hi ∧ l = .int .u64 lo ∧ PSt 16 t k hi lo) (fun _ _ i => t.size - (intOf i).toNat)
  case atStart => exact ⟨0, 0, 0, by omega, by omega, by omega, rfl, rfl, rfl, rfl⟩
  case round =>
    obtain ⟨k, hi, lo, hk, hhi, hlo, rfl, rfl, rfl, HP⟩ := hrel
    by_cases hlt : k < t.size
    · have HB : Hid (fB t k = t[k].toNat) := fB_at t k hlt
      have hb255 : t[k].toNat ≤ 255 := by have := (t[k]).toNat_lt; omega
      have hvl := vl_le t[k].toNat
      have HOK : Hid (∀ d, vl t[k].toNat = d → d < 16 → (hi * 4294967296 + lo) * 16 + d < 18446744073709551616 → pdig 16 t (k + 1) = some ((hi * 4294967296 + lo) * 16 + d)) := by
        intro d hd h1 h2
        have e : dg (fB t k) = d := by rw [HB.out, ← vl_eq _ 16 (by omega) (by rw [hd]; exact h1)]; exact hd
        have := pdig_ok (base := 16) (PSt.out HP) (by rw [e]; exact h1) (by rw [e]; exact h2)
        rw [e] at this; exact this
      have HBAD1 : Hid (∀ d, vl t[k].toNat = d → ¬ d < 16 → pnum 16 t = 0 ∧ pok 16 t = false) := by
        intro d hd h1
        have e : ¬ dg (fB t k) < 16 := by rw [HB.out, ← vl_lt _ 16 (by omega), hd]; exact h1
        exact p_bad (pdig_bad (base := 16) (PSt.out HP) (fun h => e h.1)) (by omega)
      have HBAD2 : Hid (∀ d, vl t[k].toNat = d → d < 16 → ¬ (hi * 4294967296 + lo) * 16 + d < 18446744073709551616 → pnum 16 t = 0 ∧ pok 16 t = false) := by
        intro d hd h1 h2
        have e : dg (fB t k) = d := by rw [HB.out, ← vl_eq _ 16 (by omega) (by rw [hd]; exact h1)]; exact hd
        exact p_bad (pdig_bad (base := 16) (PSt.out HP) (by rw [e]; exact fun h => h2 h.2)) (by omega)
      have hcall : ∀ w, Calls Try.prog 19 #[.int .u8 (t[k].toNat : Int)] w fun e w' => e = .returned (.int .i64 (vl t[k].toNat : Nat)) ∧ w' = w := fun w => value_any _ hb255 w
      generalize hD : vl t[k].toNat = d at *
      have HD : Hid (vl t[k].toNat = d) := hD
      clear hD
      have hkk : (k : Int) < t.size := by omega
      by_cases h1 : d < 16
      · by_cases h3 : (hi * 4294967296 + lo) * 16 + d < 18446744073709551616
        · have HV : PSt 16 t (k + 1) (hi * 16 + (lo * 16 + d) / 4294967296) ((lo * 16 + d) % 4294967296) := by
            show pdig 16 t (k + 1) = _
            rw [HOK.out d rfl h1 h3]
            congr 1
            omega
          clear HOK HBAD1 HBAD2
          have hlo2 : decide (4294967296 ≤ (hi : Int) * 16 + ((lo : Int) * 16 + d) / 4294967296) = false := by rw [decide_eq_false_iff_not]; omega
          obtain ⟨H2, hH2⟩ : ∃ H2 : Nat, H2 = hi * 16 + (lo * 16 + d) / 4294967296 := ⟨_, rfl⟩
          obtain ⟨L2, hL2⟩ : ∃ L2 : Nat, L2 = (lo * 16 + d) % 4294967296 := ⟨_, rfl⟩
          rw [← hH2, ← hL2] at HV
          have HH : Hid (H2 = hi * 16 + (lo * 16 + d) / 4294967296 ∧ L2 = (lo * 16 + d) % 4294967296 ∧ H2 < 4294967296 ∧ L2 < 4294967296) := ⟨hH2, hL2, by omega, by omega⟩
          clear hH2 hL2
          clear h3
          go_wp2_with (first | (go_at_call 19; refine (hcall _).mono ?_; rintro e w' ⟨rfl, rfl⟩))
          go_round
          case rel => exact ⟨k + 1, H2, L2, by omega, HH.out.2.2.1, HH.out.2.2.2, by go_num, by rw [HH.out.1]; go_num, by rw [HH.out.2.1]; go_num, HV⟩
          case measure => simp [intOf]; omega
        · have Q : Hid (pnum 16 t = 0 ∧ pok 16 t = false) := HBAD2.out d rfl h1 h3
          clear HOK HBAD1 HBAD2
          have hlo2 : 4294967296 ≤ (hi : Int) * 16 + ((lo : Int) * 16 + d) / 4294967296 := by omega
          clear h3
          go_wp2_with (first | (go_at_call 19; refine (hcall _).mono ?_; rintro e w' ⟨rfl, rfl⟩))
          go_ret2
          exact ⟨by rw [Q.out.1, Q.out.2]; rfl, rfl⟩
      · have Q : Hid (pnum 16 t = 0 ∧ pok 16 t = false) := HBAD1.out d rfl h1
        clear HOK HBAD1 HBAD2
        go_wp2_with (first | (go_at_call 19; refine (hcall _).mono ?_; rintro e w' ⟨rfl, rfl⟩))
        go_ret2
        exact ⟨by rw [Q.out.1, Q.out.2]; rfl, rfl⟩
    · obtain rfl : k = t.size := by omega
      have Q : Hid (_ ∧ _) := p_end (PSt.out HP)
      go_wp2
      go_ret2
      refine ⟨?_, rfl⟩
      rw [Q.out.1, Q.out.2]
      refine ret_tup ?_ ?_
      · simp
      · rw [dec_pos]; rfl
end Go.Proofs.Ytflpfgbebjamfab
