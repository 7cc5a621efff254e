/- The statement on sorts, walked. -/
import Derived.Test.YtnedhfdejfjfiaaDoorSortsW
import Derived.Deep.QuietTactic
import Derived.BigQuiet
import Derived.Deep.DeepCutAuto
import Derived.Deep.CutBlock
namespace Go.Proofs.YtnedhfdejfjfiaaDoor
open Go.RowKit
set_option linter.unusedVariables false
set_option linter.unusedSimpArgs false
theorem form_eqs (f : Nat) (hf : f < 17) : (((dF f : Nat) : Int) == 5) = ((f : Int) == 4) ∧ (((dF f : Nat) : Int) == 6) = ((f : Int) == 6) ∧ (((dF f : Nat) : Int) == 4) = ((f : Int) == 5) ∧ (((dF f : Nat) : Int) == 14) = ((f : Int) == 14) ∧ (((dF f : Nat) : Int) == 15) = ((f : Int) == 15) ∧ (((dF f : Nat) : Int) == 12) = ((f : Int) == 12) ∧ (((dF f : Nat) : Int) == 13) = ((f : Int) == 13) := by
  have h : f = 0 ∨ f = 1 ∨ f = 2 ∨ f = 3 ∨ f = 4 ∨ f = 5 ∨ f = 6 ∨ f = 7 ∨ f = 8 ∨ f = 9 ∨ f = 10 ∨ f = 11 ∨ f = 12 ∨ f = 13 ∨ f = 14 ∨ f = 15 ∨ f = 16 := by omega
  rcases h with rfl | rfl | rfl | rfl | rfl | rfl | rfl | rfl | rfl | rfl | rfl | rfl | rfl | rfl | rfl | rfl | rfl <;> decide
set_option maxRecDepth 100000 in
set_option maxHeartbeats 4000000 in
theorem sorts_walk (op : Int) (s : ByteArray) (hsz : s.size ≤ maxLen) (n : Int) (Nk : Nat → Int) (hN0 : Nk 0 = 0) (hN98 : Nk 98 = n) (hNs : ∀ k, k < 98 → ((dName k).toList == s.toList) = true ∧ Nk (k + 1) = (k : Int) + 1 ∨ ((dName k).toList == s.toList) = false ∧ Nk (k + 1) = Nk k)
    (W : World) (ht : Tabs W) (hn : NamesAt W) (hfind : ∀ w, NamesAt w → Calls Tryd.prog 19 #[.string s] w fun e w' => e = .returned (.int .i64 n) ∧ w' = w) :
    Calls Tryd.prog 8 #[.int .i64 op, .string s] W fun e w' => e = .returned (.bool true) ∧ Below W.heap.size W w' := by
  obtain ⟨z, hw1, hw2⟩ := widths op
  obtain ⟨g, cc, f3, f7, hO, hg, hfl⟩ := of_any op
  have T : Hid (Tabs W ∧ NamesAt W ∧ 5 ≤ W.heap.size) := ⟨ht, hn, ht.2.2.2.2⟩
  have HW1 : Hid _ := hw1
  have HW2 : Hid _ := hw2
  have HO : Hid _ := hO
  have HF : Hid _ := hfind
  have HN : Hid _ := hNs
  have HNm : Hid (∀ w, Tabs w → NamesAt w → Calls Tryd.prog 18 #[.int .i64 op] w fun e w' => e = .returned (.string (nameI op)) ∧ w' = w) := fun w t nm => name_any op w t nm
  have HE : Hid _ := form_eqs (formI op) hfl
  have HL : Hid _ := fun w t => loads_any op w t
  have HS : Hid _ := fun w t => stores_any op w t
  have HB : Hid _ := fun w t => branches_any op w t
  have HA : Hid _ := fun w t => atomics_any op w t
  have HY : Hid _ := fun w t => systems_any op w t
  have N0 : Hid _ := hN0
  have N98 : Hid _ := hN98
  rw [← hg] at HE
  clear hw1 hw2 hO hfind hNs ht hn hg hfl hN0 hN98
  generalize nameI op = nm at *
  generalize ((g : Nat) : Int) = g at *
  generalize ((formI op : Nat) : Int) = f at *
  go_enter Tryd.func8, Tryd.ntmps8
  go_wp2_with fail
  refine (awake_any _ T.out.1).mono ?_
  rintro e w1 ⟨rfl, hb⟩
  have B1 : Hid (Below W.heap.size W w1) := hb
  clear hb
  go_wp2_with fail
  refine (HO.out _).mono ?_
  rintro e w2 ⟨rfl, hb⟩
  have B2 : Hid (Below W.heap.size W w2) := B1.out.trans (hb.mono B1.out.size)
  clear hb
  go_wp2_with fail
  refine (rows_at _).mono ?_
  rintro e w3 ⟨rfl, hb, hl, hr⟩
  have S3 : Hid (SortIn W w3 (w2.heap.size + 1) w2.heap.size #[.string nm, .int .i64 g, .int .i64 cc, .int .i64 f3, .int .i64 f7]) := ⟨(B2.out.alloc B2.out.size _).trans (hb.mono (by have := B2.out.size; simp; omega)), below_box (heap_alloc_new w2 (.cells #[.string nm, .int .i64 g, .int .i64 cc, .int .i64 f3, .int .i64 f7] 39)) hb, by simpa using hr, by simpa using hl⟩
  clear hb hl hr
  go_wp2
  go_loop [6, 8] (fun v i => ∃ k : Nat, k ≤ 98 ∧ i = .int .i64 k ∧ v = .int .i64 (Nk k)) (fun _ i => 100 - (intOf i).toNat)
  case atStart => exact ⟨0, by omega, rfl, by rw [N0.out]⟩
  case round =>
    obtain ⟨k, hk, rfl, rfl⟩ := hrel
    by_cases hk98 : k < 98
    · have hki : (k : Int) < 98 := by omega
      have c0 := (S3.out.rows.at5 k hk98).1
      rcases HN.out k hk98 with ⟨hb, hn1⟩ | ⟨hb, hn1⟩
      · have HN1 : Hid _ := hn1
        clear hn1
        generalize dName k = zz at *
        generalize Nk k = nk at *
        go_wp2
        go_round
        case rel => exact ⟨k + 1, by omega, by go_num, by rw [HN1.out]⟩
        case measure => simp [intOf]; omega
      · have HN1 : Hid _ := hn1
        clear hn1
        generalize dName k = zz at *
        generalize Nk k = nk at *
        go_wp2
        go_round
        case rel => exact ⟨k + 1, by omega, by go_num, by rw [HN1.out]⟩
        case measure => simp [intOf]; omega
    · obtain rfl : k = 98 := by omega
      rw [N98.out]
      obtain ⟨y0, y1, y2, y3, y4⟩ := box5_facts S3.out.row5
      have T3 : Hid (Tabs w3) := T.out.1.below S3.out.below
      have M3 : Hid (NamesAt w3) := T.out.2.1.below T.out.2.2 S3.out.below
      clear HN N0 N98
      go_wp2_with fail
      go_region_held3 (fun V => V.cell? ⟨w2.heap.size, 0, none⟩ = some (.string nm)) (go_keep) (first | (go_at_call 18; refine (HNm.out _ (by exact T3.out) (by exact M3.out)).mono ?_; rintro e w' ⟨rfl, hw⟩; rw [hw]; clear hw) | (go_at_call 19; refine (HF.out _ (by exact M3.out)).mono ?_; rintro e w' ⟨rfl, hw⟩; rw [hw]; clear hw) | (go_at_call 20; refine (HW1.out _ (by exact T3.out)).mono ?_; rintro e w' ⟨rfl, hw⟩; rw [hw]; clear hw) | (go_at_call 21; refine (HW2.out _).mono ?_; rintro e w4 ⟨rfl, hb4⟩; have S4 : Hid (SortIn W w4 (w2.heap.size + 1) w2.heap.size #[.string nm, .int .i64 g, .int .i64 cc, .int .i64 f3, .int .i64 f7]) := (S3.out.step ((Below.refl _ _).drew)).step hb4; obtain ⟨z0, z1, z2, z3, z4⟩ := box5_facts S4.out.row5; have T4 : Hid (Tabs w4) := T.out.1.below S4.out.below; clear hb4))
      obtain ⟨e5, e6, e4, e14, e15, e12, e13⟩ := HE.out
      clear HE HW1 HW2 HF HNm HO y0 y1 y2 y3 y4
      cases h14 : (f == 14) <;> cases h12 : (f == 12) <;>
      (go_wp2_with fail
       go_quiet (first | (go_at_call 22; exact Calls.quiet_of_same (HL.out _ T4.out)) | (go_at_call 23; exact Calls.quiet_of_same (HS.out _ T4.out)) | (go_at_call 24; exact Calls.quiet_of_same (HB.out _ T4.out)) | (go_at_call 25; exact Calls.quiet_of_same (HA.out _ T4.out)) | (go_at_call 26; exact Calls.quiet_of_same (HY.out _ T4.out)))
       go_wp2
       go_ret
       exact ⟨by first | rfl | simp, below_drewN S4.out.below _⟩)
/-- the statement on sorts -/
theorem sorts_core (op : Int) (s : ByteArray) (hsz : s.size ≤ maxLen) (W : World) (h : Tabs W ∧ NamesAt W) :
    Calls Tryd.prog 8 #[.int .i64 op, .string s] W fun e w' => e = .returned (.bool true) ∧ Below W.heap.size W w' := by
  rcases found s with ⟨m, hm, hs, hone⟩ | hno
  · refine sorts_walk op s hsz ((m : Int) + 1) (fun k => if m < k then (m : Int) + 1 else 0) (if_neg (by omega)) (if_pos (by omega)) (fun k hk => ?_) W h.1 h.2 (fun w nm => find_yes s m hm hs (fun j hj => hone j (by omega) (by omega)) w nm)
    by_cases hkm : k = m
    · subst hkm
      exact .inl ⟨str_eq hs, if_pos (by omega)⟩
    · refine .inr ⟨str_ne (hone k hk hkm), ?_⟩
      by_cases hlt : m < k
      · rw [if_pos (by omega), if_pos hlt]
      · rw [if_neg (by omega), if_neg hlt]
  · exact sorts_walk op s hsz 0 (fun _ => 0) rfl rfl (fun k hk => .inr ⟨str_ne (hno k hk), rfl⟩) W h.1 h.2 (fun w nm => find_no s hno w nm)
end Go.Proofs.YtnedhfdejfjfiaaDoor
