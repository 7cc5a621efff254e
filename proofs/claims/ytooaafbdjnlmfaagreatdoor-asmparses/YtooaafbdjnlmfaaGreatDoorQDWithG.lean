/- The document's call with of layer 4, of any form. -/
import Derived.Test.YtooaafbdjnlmfaaGreatDoorQDIs
namespace Go.Proofs.YtooaafbdjnlmfaaGreatDoor
open Go.RowKit
set_option linter.unusedVariables false
set_option linter.unusedSimpArgs false
theorem Three.set2 {w w1 : World} {yb : Nat} {X Z Y : Array Value} (h : Three w w1 yb X Z Y) (i : Nat) (v u : Value) : Three w ((w1.setCell ⟨yb, i, none⟩ v).setCell ⟨yb, i, none⟩ u) yb X Z ((Y.setIfInBounds i v).setIfInBounds i u) := (h.set i v).set i u
set_option maxRecDepth 100000 in
set_option maxHeartbeats 16000000 in
theorem with_G (k g : Nat) (aq rl fD fA fB fI fU f1 f2 : Bool) (R NM : List Int) (PL : List (List UInt8)) (s : ByteArray) (cc f3 f7 lo hi st : Int) (hO : OfIs k s (g : Nat) cc f3 f7)
    (hI : ∀ w, Calls Tryz.prog 47 #[.int .i64 (g : Nat)] w fun e w' => e = .returned (.tuple #[.int .i64 lo, .int .i64 hi, .int .i64 st, .bool fI]) ∧ w' = w)
    (hD : hasD (g : Nat) = fD) (hA : hasA (g : Nat) = fA) (hB : hasB (g : Nat) = fB) (hU : decide (g = 1) = fU) (h12 : decide (g = 12) = f1) (h13 : decide (g = 13) = f2) (hst : fU = true → st = 4096) (h0 : 1 ≤ g) (h16 : g ≤ 16)
    (hR1 : 1 ≤ R.length) (hR2 : R.length ≤ 1000) (hN1 : 1 ≤ NM.length) (hN2 : NM.length ≤ 4) (hPl : ∀ p ∈ PL, p.length ≤ 1000000) (hPn : PL.length ≤ 1000)
    (ra na pa : Option Addr) (rc nc pc : Nat) (w : World) (hRA : IntsAt w ra R) (hNA : IntsAt w na NM) (hPA : StrsAt w pa PL) :
    Calls Tryz.prog 43 #[.agg (instrC k 0 0 0 0 0 aq rl), .slice ra R.length rc, .slice na NM.length nc, .slice pa PL.length pc] w fun e w' => Below w.heap.size w w' ∧ ((∃ y : Ins, e = .returned (.tuple #[.agg y.c, .bool true]) ∧ goodY y g PL ∧ y.op = k ∧ y.aq = aq ∧ y.rl = rl) ∨ (e = .returned (.tuple #[.agg (instrC k 0 0 0 0 0 aq rl), .bool false]) ∧ ∀ a, ¬ (PA (candY (k : Nat) g fD fA fB fI aq rl R NM) g PL fD fA fB R.length (NM.length * NM.length)) a)) := by
  obtain ⟨rb, ro, rfl, hrc⟩ := hRA
  obtain ⟨nb, no, rfl, hnc⟩ := hNA
  have HO : Hid _ := hO
  have HI : Hid _ := hI
  have HD : Hid (∀ V, Calls Tryz.prog 68 #[.int .i64 (g : Nat)] V fun e w' => e = .returned (.bool fD) ∧ Below V.heap.size V w') := fun V => drd_b _ _ hD V
  have HA : Hid (∀ V, Calls Tryz.prog 69 #[.int .i64 (g : Nat)] V fun e w' => e = .returned (.bool fA) ∧ Below V.heap.size V w') := fun V => drs1_b _ _ hA V
  have HB : Hid (∀ V, Calls Tryz.prog 70 #[.int .i64 (g : Nat)] V fun e w' => e = .returned (.bool fB) ∧ Below V.heap.size V w') := fun V => drs2_b _ _ hB V
  have HRC : Hid _ := hrc
  have HNC : Hid _ := hnc
  have HPA : Hid _ := hPA
  have HPL : Hid _ := hPl
  have HU : Hid (decide (g = 1) = fU) := hU
  have H12 : Hid (decide (g = 12) = f1) := h12
  have H13 : Hid (decide (g = 13) = f2) := h13
  have HST : Hid (fU = true → st = 4096) := hst
  have T0 : Hid (Two w ((w.alloc (.cells (instrC k 0 0 0 0 0 aq rl) 23)).alloc (.cells #[.int .i64 0, .int .i64 0, .int .i64 0, .int .i64 0, .int .i64 0, .int .i64 0, .bool false, .bool false] 23)) (instrC k 0 0 0 0 0 aq rl) #[.int .i64 0, .int .i64 0, .int .i64 0, .int .i64 0, .int .i64 0, .int .i64 0, .bool false, .bool false]) := Two.new w _ _
  have e1 : (((g : Nat) : Int) == 1) = fU := by rw [← hU, Bool.eq_iff_iff]; simp; omega
  have e12 : (((g : Nat) : Int) == 12) = f1 := by rw [← h12, Bool.eq_iff_iff]; simp; omega
  have e13 : (((g : Nat) : Int) == 13) = f2 := by rw [← h13, Bool.eq_iff_iff]; simp; omega
  clear hI hD hA hB hrc hnc hPA hPl hU h12 h13 hst
  go_enter Tryz.func43, Tryz.ntmps43
  go_wp2_with (first | (go_at_call 45; (with_reducible refine Calls.mono (HO.out _) ?_); rintro e w1 ⟨rfl, hb1⟩; have hfl := (field72 s (g : Nat) cc f3 f7 w1).1; have T1 : Hid (Two w w1 (instrC k 0 0 0 0 0 aq rl) #[.int .i64 0, .int .i64 0, .int .i64 0, .int .i64 0, .int .i64 0, .int .i64 0, .bool false, .bool false]) := T0.out.step hb1; clear hb1) | (go_at_call 47; (with_reducible refine Calls.mono (HI.out _) ?_); rintro e w2 ⟨rfl, rfl⟩))
  clear hfl
  go_loopw [15, 16, 17, 18, 19, 20, 21] (fun av bv cv iv yv nv mv wr => ∃ a : Nat, a ≤ R.length ∧ av = .int .i64 a ∧ Two w wr (instrC k 0 0 0 0 0 aq rl) #[.int .i64 0, .int .i64 0, .int .i64 0, .int .i64 0, .int .i64 0, .int .i64 0, .bool false, .bool false] ∧ NoneUpto (PA (candY (k : Nat) g fD fA fB fI aq rl R NM) g PL fD fA fB R.length (NM.length * NM.length)) a) (fun av _ _ _ _ _ _ _ => R.length - (intOf av).toNat)
  case atStart => exact ⟨0, by omega, rfl, T1.out, NoneUpto.zero _⟩
  case round =>
    obtain ⟨a, ha, rfl, htw, hno⟩ := hrel
    have TWa : Hid (Two w wr (instrC k 0 0 0 0 0 aq rl) #[.int .i64 0, .int .i64 0, .int .i64 0, .int .i64 0, .int .i64 0, .int .i64 0, .bool false, .bool false]) := htw
    have NA : Hid (NoneUpto (PA (candY (k : Nat) g fD fA fB fI aq rl R NM) g PL fD fA fB R.length (NM.length * NM.length)) a) := hno
    clear htw hno
    go_upto_region 4 with fail
    go_cut [44] (fun cv wx => cv = .bool (decide (inR fD R.length a)) ∧ Two w wx (instrC k 0 0 0 0 0 aq rl) #[.int .i64 0, .int .i64 0, .int .i64 0, .int .i64 0, .int .i64 0, .int .i64 0, .bool false, .bool false])
    case first => as_aux_lemma =>
      by_cases h1 : a < R.length
      · have h1i : (a : Int) < R.length := by omega
        by_cases h2 : a = 0
        · subst h2
          go_wp2_with fail
          go_meet
          exact ⟨congrArg Value.bool (by rw [decide_eq_true (show inR fD R.length 0 from ⟨h1, .inl rfl⟩)]; try (first | rfl | simp)), TWa.out⟩
        · have h2i : ((a : Int) == 0) = false := by simp; omega
          go_wp2_with (go_at_call 68; (with_reducible refine Calls.mono (HD.out _) ?_); rintro e w9 ⟨rfl, hb9⟩)
          go_meet
          exact ⟨congrArg Value.bool (by rw [show decide (inR fD R.length a) = fD from by unfold inR; simp [h1, h2]]; try (first | rfl | simp)), TWa.out.step hb9⟩
      · have h1i : ¬ (a : Int) < R.length := by omega
        go_wp2_with fail
        go_meet
        exact ⟨congrArg Value.bool (by rw [decide_eq_false (show ¬ inR fD R.length a from fun h => h1 h.1)]; try (first | rfl | simp)), TWa.out⟩
    case rest =>
      obtain ⟨rfl, htw⟩ := hcut
      clear TWa
      have TWa : Hid (Two w wc (instrC k 0 0 0 0 0 aq rl) #[.int .i64 0, .int .i64 0, .int .i64 0, .int .i64 0, .int .i64 0, .int .i64 0, .bool false, .bool false]) := htw
      clear htw
      by_cases hin : inR fD R.length a
      · rw [decide_eq_true hin]
        have hla : a < R.length := hin.1
        clear hin
        go_wp2_with fail
        go_loopw [16, 17, 18, 19, 20, 21] (fun bv cv iv yv nv mv wr => ∃ b : Nat, b ≤ R.length ∧ bv = .int .i64 b ∧ Two w wr (instrC k 0 0 0 0 0 aq rl) #[.int .i64 0, .int .i64 0, .int .i64 0, .int .i64 0, .int .i64 0, .int .i64 0, .bool false, .bool false] ∧ NoneUpto (PB (candY (k : Nat) g fD fA fB fI aq rl R NM) g PL fA fB R.length (NM.length * NM.length) a) b) (fun bv _ _ _ _ _ _ => R.length - (intOf bv).toNat)
        case atStart => exact ⟨0, by omega, rfl, TWa.out, NoneUpto.zero _⟩
        case round =>
          obtain ⟨b, hb, rfl, htw, hno⟩ := hrel
          have TWb : Hid (Two w wr (instrC k 0 0 0 0 0 aq rl) #[.int .i64 0, .int .i64 0, .int .i64 0, .int .i64 0, .int .i64 0, .int .i64 0, .bool false, .bool false]) := htw
          have NB : Hid (NoneUpto (PB (candY (k : Nat) g fD fA fB fI aq rl R NM) g PL fA fB R.length (NM.length * NM.length) a) b) := hno
          clear htw hno
          go_upto_region 7 with fail
          go_cut [58] (fun cv wx => cv = .bool (decide (inR fA R.length b)) ∧ Two w wx (instrC k 0 0 0 0 0 aq rl) #[.int .i64 0, .int .i64 0, .int .i64 0, .int .i64 0, .int .i64 0, .int .i64 0, .bool false, .bool false])
          case first => as_aux_lemma =>
            by_cases h1 : b < R.length
            · have h1i : (b : Int) < R.length := by omega
              by_cases h2 : b = 0
              · subst h2
                go_wp2_with fail
                go_meet
                exact ⟨congrArg Value.bool (by rw [decide_eq_true (show inR fA R.length 0 from ⟨h1, .inl rfl⟩)]; try (first | rfl | simp)), TWb.out⟩
              · have h2i : ((b : Int) == 0) = false := by simp; omega
                go_wp2_with (go_at_call 69; (with_reducible refine Calls.mono (HA.out _) ?_); rintro e w9 ⟨rfl, hb9⟩)
                go_meet
                exact ⟨congrArg Value.bool (by rw [show decide (inR fA R.length b) = fA from by unfold inR; simp [h1, h2]]; try (first | rfl | simp)), TWb.out.step hb9⟩
            · have h1i : ¬ (b : Int) < R.length := by omega
              go_wp2_with fail
              go_meet
              exact ⟨congrArg Value.bool (by rw [decide_eq_false (show ¬ inR fA R.length b from fun h => h1 h.1)]; try (first | rfl | simp)), TWb.out⟩
          case rest =>
            obtain ⟨rfl, htw⟩ := hcut
            clear TWb
            have TWb : Hid (Two w wc (instrC k 0 0 0 0 0 aq rl) #[.int .i64 0, .int .i64 0, .int .i64 0, .int .i64 0, .int .i64 0, .int .i64 0, .bool false, .bool false]) := htw
            clear htw
            by_cases hin : inR fA R.length b
            · rw [decide_eq_true hin]
              have hlb : b < R.length := hin.1
              clear hin
              go_wp2_with fail
              go_loopw [17, 18, 19, 20, 21] (fun cv iv yv nv mv wr => ∃ c : Nat, c ≤ R.length ∧ cv = .int .i64 c ∧ Two w wr (instrC k 0 0 0 0 0 aq rl) #[.int .i64 0, .int .i64 0, .int .i64 0, .int .i64 0, .int .i64 0, .int .i64 0, .bool false, .bool false] ∧ NoneUpto (PC (candY (k : Nat) g fD fA fB fI aq rl R NM) g PL fB R.length (NM.length * NM.length) a b) c) (fun cv _ _ _ _ _ => R.length - (intOf cv).toNat)
              case atStart => exact ⟨0, by omega, rfl, TWb.out, NoneUpto.zero _⟩
              case round =>
                obtain ⟨c, hc, rfl, htw, hno⟩ := hrel
                have TWc : Hid (Two w wr (instrC k 0 0 0 0 0 aq rl) #[.int .i64 0, .int .i64 0, .int .i64 0, .int .i64 0, .int .i64 0, .int .i64 0, .bool false, .bool false]) := htw
                have NC : Hid (NoneUpto (PC (candY (k : Nat) g fD fA fB fI aq rl R NM) g PL fB R.length (NM.length * NM.length) a b) c) := hno
                clear htw hno
                go_upto_region 10 with fail
                go_cut [72] (fun cv wx => cv = .bool (decide (inR fB R.length c)) ∧ Two w wx (instrC k 0 0 0 0 0 aq rl) #[.int .i64 0, .int .i64 0, .int .i64 0, .int .i64 0, .int .i64 0, .int .i64 0, .bool false, .bool false])
                case first => as_aux_lemma =>
                  by_cases h1 : c < R.length
                  · have h1i : (c : Int) < R.length := by omega
                    by_cases h2 : c = 0
                    · subst h2
                      go_wp2_with fail
                      go_meet
                      exact ⟨congrArg Value.bool (by rw [decide_eq_true (show inR fB R.length 0 from ⟨h1, .inl rfl⟩)]; try (first | rfl | simp)), TWc.out⟩
                    · have h2i : ((c : Int) == 0) = false := by simp; omega
                      go_wp2_with (go_at_call 70; (with_reducible refine Calls.mono (HB.out _) ?_); rintro e w9 ⟨rfl, hb9⟩)
                      go_meet
                      exact ⟨congrArg Value.bool (by rw [show decide (inR fB R.length c) = fB from by unfold inR; simp [h1, h2]]; try (first | rfl | simp)), TWc.out.step hb9⟩
                  · have h1i : ¬ (c : Int) < R.length := by omega
                    go_wp2_with fail
                    go_meet
                    exact ⟨congrArg Value.bool (by rw [decide_eq_false (show ¬ inR fB R.length c from fun h => h1 h.1)]; try (first | rfl | simp)), TWc.out⟩
                case rest =>
                  obtain ⟨rfl, htw⟩ := hcut
                  clear TWc
                  have TWc : Hid (Two w wc (instrC k 0 0 0 0 0 aq rl) #[.int .i64 0, .int .i64 0, .int .i64 0, .int .i64 0, .int .i64 0, .int .i64 0, .bool false, .bool false]) := htw
                  clear htw
                  by_cases hin : inR fB R.length c
                  · rw [decide_eq_true hin]
                    have hlc : c < R.length := hin.1
                    clear hin
                    go_wp2_with fail
                    go_loopw [18, 19, 20, 21] (fun iv yv nv mv wr => ∃ i : Nat, i ≤ NM.length * NM.length ∧ iv = .int .i64 i ∧ Two w wr (instrC k 0 0 0 0 0 aq rl) #[.int .i64 0, .int .i64 0, .int .i64 0, .int .i64 0, .int .i64 0, .int .i64 0, .bool false, .bool false] ∧ NoneUpto (PI (candY (k : Nat) g fD fA fB fI aq rl R NM) g PL a b c) i) (fun iv _ _ _ _ => NM.length * NM.length - (intOf iv).toNat)
                    case atStart => exact ⟨0, by omega, rfl, TWc.out, NoneUpto.zero _⟩
                    case round =>
                      obtain ⟨i, hi, rfl, htw, hno⟩ := hrel
                      have TWi : Hid (Two w wr (instrC k 0 0 0 0 0 aq rl) #[.int .i64 0, .int .i64 0, .int .i64 0, .int .i64 0, .int .i64 0, .int .i64 0, .bool false, .bool false]) := htw
                      have NI : Hid (NoneUpto (PI (candY (k : Nat) g fD fA fB fI aq rl R NM) g PL a b c) i) := hno
                      clear htw hno TWa TWb TWc
                      have hll : NM.length * NM.length ≤ 16 := Nat.mul_le_mul hN2 hN2
                      obtain ⟨LL, eLL⟩ : ∃ LL, NM.length * NM.length = LL := ⟨_, rfl⟩
                      have hlli : (NM.length : Int) * NM.length = (LL : Int) := by rw [← eLL]; simp
                      have ELL : Hid (NM.length * NM.length = LL) := eLL
                      rw [eLL] at hll hi
                      by_cases hil : i < LL
                      · have hili : (i : Int) < (LL : Int) := by omega
                        have hj1 : i % NM.length < NM.length := Nat.mod_lt _ hN1
                        have hj2 : i / NM.length < NM.length := Nat.div_lt_of_lt_mul (by rw [eLL]; exact hil)
                        clear eLL
                        obtain ⟨j1, ej1⟩ : ∃ j1, i % NM.length = j1 := ⟨_, rfl⟩
                        obtain ⟨j2, ej2⟩ : ∃ j2, i / NM.length = j2 := ⟨_, rfl⟩
                        have ej1i : (i : Int) % (NM.length : Int) = (j1 : Int) := by rw [← ej1]; simp
                        have ej2i : (i : Int) / (NM.length : Int) = (j2 : Int) := by rw [← ej2]; simp
                        have ej1t : Int.tmod (i : Int) (NM.length : Int) = (j1 : Int) := by rw [Int.tmod_eq_emod_of_nonneg (by omega)]; exact ej1i
                        have ej2t : Int.tdiv (i : Int) (NM.length : Int) = (j2 : Int) := by rw [Int.tdiv_eq_ediv_of_nonneg (by omega)]; exact ej2i
                        rw [ej1] at hj1
                        rw [ej2] at hj2
                        have hj1i : (j1 : Int) < NM.length := by omega
                        have hj2i : (j2 : Int) < NM.length := by omega
                        have hlen0 : ((NM.length : Int) == 0) = false := beq_eq_false_iff_ne.2 (by omega)
                        have hln0 : ¬ (NM.length : Int) = 0 := by omega
                        obtain ⟨va, eva⟩ : ∃ va, R[a]'hla = va := ⟨_, rfl⟩
                        have qva := HRC.out a hla
                        rw [eva] at qva
                        have gva : R.getD a 0 = va := by rw [← eva]; simp [List.getD_eq_getElem?_getD, hla]
                        have hlai : (a : Int) < R.length := by omega
                        obtain ⟨vb, evb⟩ : ∃ vb, R[b]'hlb = vb := ⟨_, rfl⟩
                        have qvb := HRC.out b hlb
                        rw [evb] at qvb
                        have gvb : R.getD b 0 = vb := by rw [← evb]; simp [List.getD_eq_getElem?_getD, hlb]
                        have hlbi : (b : Int) < R.length := by omega
                        obtain ⟨vc, evc⟩ : ∃ vc, R[c]'hlc = vc := ⟨_, rfl⟩
                        have qvc := HRC.out c hlc
                        rw [evc] at qvc
                        have gvc : R.getD c 0 = vc := by rw [← evc]; simp [List.getD_eq_getElem?_getD, hlc]
                        have hlci : (c : Int) < R.length := by omega
                        obtain ⟨n, en⟩ : ∃ n, NM[j1]'hj1 = n := ⟨_, rfl⟩
                        have qn := HNC.out j1 hj1
                        rw [en] at qn
                        have gn : NM.getD j1 0 = n := by rw [← en]; simp [List.getD_eq_getElem?_getD, hj1]
                        obtain ⟨m, em⟩ : ∃ m, NM[j2]'hj2 = m := ⟨_, rfl⟩
                        have qm := HNC.out j2 hj2
                        rw [em] at qm
                        have gm : NM.getD j2 0 = m := by rw [← em]; simp [List.getD_eq_getElem?_getD, hj2]
                        have CN : Hid (fI = true → fU = true → (n < -524288 ∨ 524287 < n) → (candY (k : Nat) g fD fA fB fI aq rl R NM) a b c i = none) := fun h1 h2 h3 => by
                          show candY _ _ _ _ _ _ _ _ _ _ _ _ _ _ = _
                          unfold candY
                          have hg : g = 1 := by rw [h2] at HU; exact of_decide_eq_true HU.out
                          rw [ej1, gn, if_pos ⟨h1, hg, by omega⟩]
                        have CS : Hid (¬ (fI = true ∧ fU = true ∧ (n < -524288 ∨ 524287 < n)) → (candY (k : Nat) g fD fA fB fI aq rl R NM) a b c i = some ⟨(k : Nat), if fD then va else 0, if fA then vb else 0, if fB then vc else 0, if fI then (if fU then n * 4096 else n) else 0, if (f1 || f2) && (decide (0 ≤ m) && decide (m < 4096)) then m else 0, aq, rl⟩) := fun h => by
                          show candY _ _ _ _ _ _ _ _ _ _ _ _ _ _ = _
                          unfold candY
                          have hg : (g = 1) ↔ fU = true := by rw [← HU.out]; simp
                          have h12 : (g = 12) ↔ f1 = true := by rw [← H12.out]; simp
                          have h13 : (g = 13) ↔ f2 = true := by rw [← H13.out]; simp
                          rw [ej1, ej2, gn, gm, gva, gvb, gvc, if_neg (fun h9 => h ⟨h9.1, hg.1 h9.2.1, by omega⟩)]
                          simp only [hg, h12, h13, Bool.and_eq_true, Bool.or_eq_true, decide_eq_true_eq]
                        clear gva gvb gvc gn gm eva evb evc en em ej1 ej2
                        obtain ⟨p0, p1, p2, p3, p4, p5, p6, p7⟩ := box8_facts TWi.out.1
                        go_upto_if 86 with (go_at_call 68; (with_reducible refine Calls.mono (HD.out _) ?_); rintro e w1 ⟨rfl, hb1⟩; have T1 : Hid (Three w w1 wr.heap.size (instrC k 0 0 0 0 0 aq rl) #[.int .i64 0, .int .i64 0, .int .i64 0, .int .i64 0, .int .i64 0, .int .i64 0, .bool false, .bool false] #[.int .i64 (k : Nat), .int .i64 0, .int .i64 0, .int .i64 0, .int .i64 0, .int .i64 0, .bool aq, .bool rl]) := (Three.new TWi.out _).step hb1; clear hb1)
                        clear p0 p1 p2 p3 p4 p5 p6 p7
                        go_cut [10] (fun fv wx => fv = .int .i64 (g : Nat) ∧ Three w wx wr.heap.size (instrC k 0 0 0 0 0 aq rl) #[.int .i64 0, .int .i64 0, .int .i64 0, .int .i64 0, .int .i64 0, .int .i64 0, .bool false, .bool false] #[.int .i64 (k : Nat), .int .i64 (if fD then va else 0), .int .i64 0, .int .i64 0, .int .i64 0, .int .i64 0, .bool aq, .bool rl])
                        case first => as_aux_lemma =>
                          have xx := (box8_facts T1.out.2.1).2.1
                          have ff := box8_frozen T1.out.2.1 1
                          have qvau := T1.out.old qva
                          cases fD
                          · go_wp2_with fail
                            go_meet
                            exact ⟨rfl, T1.out⟩
                          · go_wp2_with fail
                            go_meet
                            exact ⟨rfl, T1.out.set 1 (.int .i64 va)⟩
                        case rest =>
                        obtain ⟨rfl, ht3⟩ := hcut
                        clear T1
                        have T2 : Hid (Three w wc wr.heap.size (instrC k 0 0 0 0 0 aq rl) #[.int .i64 0, .int .i64 0, .int .i64 0, .int .i64 0, .int .i64 0, .int .i64 0, .bool false, .bool false] #[.int .i64 (k : Nat), .int .i64 (if fD then va else 0), .int .i64 0, .int .i64 0, .int .i64 0, .int .i64 0, .bool aq, .bool rl]) := ht3
                        clear ht3
                        generalize wc = wd at *
                        go_upto_if 93 with (go_at_call 69; (with_reducible refine Calls.mono (HA.out _) ?_); rintro e w2 ⟨rfl, hb2⟩; have T3 : Hid (Three w w2 wr.heap.size (instrC k 0 0 0 0 0 aq rl) #[.int .i64 0, .int .i64 0, .int .i64 0, .int .i64 0, .int .i64 0, .int .i64 0, .bool false, .bool false] #[.int .i64 (k : Nat), .int .i64 (if fD then va else 0), .int .i64 0, .int .i64 0, .int .i64 0, .int .i64 0, .bool aq, .bool rl]) := T2.out.step hb2; clear hb2)
                        go_cut [10] (fun fv wx => fv = .int .i64 (g : Nat) ∧ Three w wx wr.heap.size (instrC k 0 0 0 0 0 aq rl) #[.int .i64 0, .int .i64 0, .int .i64 0, .int .i64 0, .int .i64 0, .int .i64 0, .bool false, .bool false] #[.int .i64 (k : Nat), .int .i64 (if fD then va else 0), .int .i64 (if fA then vb else 0), .int .i64 0, .int .i64 0, .int .i64 0, .bool aq, .bool rl])
                        case first => as_aux_lemma =>
                          have xx := (box8_facts T3.out.2.1).2.2.1
                          have ff := box8_frozen T3.out.2.1 2
                          have qvbu := T3.out.old qvb
                          cases fA
                          · go_wp2_with fail
                            go_meet
                            exact ⟨rfl, T3.out⟩
                          · go_wp2_with fail
                            go_meet
                            exact ⟨rfl, T3.out.set 2 (.int .i64 vb)⟩
                        case rest =>
                        obtain ⟨rfl, ht3⟩ := hcut
                        clear T3
                        have T4 : Hid (Three w wc wr.heap.size (instrC k 0 0 0 0 0 aq rl) #[.int .i64 0, .int .i64 0, .int .i64 0, .int .i64 0, .int .i64 0, .int .i64 0, .bool false, .bool false] #[.int .i64 (k : Nat), .int .i64 (if fD then va else 0), .int .i64 (if fA then vb else 0), .int .i64 0, .int .i64 0, .int .i64 0, .bool aq, .bool rl]) := ht3
                        clear ht3
                        generalize wc = we at *
                        go_upto_if 100 with (go_at_call 70; (with_reducible refine Calls.mono (HB.out _) ?_); rintro e w3 ⟨rfl, hb3⟩; have T5 : Hid (Three w w3 wr.heap.size (instrC k 0 0 0 0 0 aq rl) #[.int .i64 0, .int .i64 0, .int .i64 0, .int .i64 0, .int .i64 0, .int .i64 0, .bool false, .bool false] #[.int .i64 (k : Nat), .int .i64 (if fD then va else 0), .int .i64 (if fA then vb else 0), .int .i64 0, .int .i64 0, .int .i64 0, .bool aq, .bool rl]) := T4.out.step hb3; clear hb3)
                        go_cut [10] (fun fv wx => fv = .int .i64 (g : Nat) ∧ Three w wx wr.heap.size (instrC k 0 0 0 0 0 aq rl) #[.int .i64 0, .int .i64 0, .int .i64 0, .int .i64 0, .int .i64 0, .int .i64 0, .bool false, .bool false] #[.int .i64 (k : Nat), .int .i64 (if fD then va else 0), .int .i64 (if fA then vb else 0), .int .i64 (if fB then vc else 0), .int .i64 0, .int .i64 0, .bool aq, .bool rl])
                        case first => as_aux_lemma =>
                          have xx := (box8_facts T5.out.2.1).2.2.2.1
                          have ff := box8_frozen T5.out.2.1 3
                          have qvcu := T5.out.old qvc
                          cases fB
                          · go_wp2_with fail
                            go_meet
                            exact ⟨rfl, T5.out⟩
                          · go_wp2_with fail
                            go_meet
                            exact ⟨rfl, T5.out.set 3 (.int .i64 vc)⟩
                        case rest =>
                        obtain ⟨rfl, ht3⟩ := hcut
                        clear T5
                        have T6 : Hid (Three w wc wr.heap.size (instrC k 0 0 0 0 0 aq rl) #[.int .i64 0, .int .i64 0, .int .i64 0, .int .i64 0, .int .i64 0, .int .i64 0, .bool false, .bool false] #[.int .i64 (k : Nat), .int .i64 (if fD then va else 0), .int .i64 (if fA then vb else 0), .int .i64 (if fB then vc else 0), .int .i64 0, .int .i64 0, .bool aq, .bool rl]) := ht3
                        clear ht3
                        generalize wc = wf at *
                        by_cases hout : fI = true ∧ fU = true ∧ (n < -524288 ∨ 524287 < n)
                        · obtain ⟨rfl, rfl, hn⟩ := hout
                          have NOT : Hid (¬ (PI (candY (k : Nat) g fD fA fB true aq rl R NM) g PL a b c) i) := by
                            rintro ⟨y, h1, _⟩
                            rw [CN.out rfl rfl hn] at h1
                            cases h1
                          have qnu := T6.out.old qn
                          have xx := (box8_facts T6.out.2.1).2.2.2.2.1
                          have ff := box8_frozen T6.out.2.1 4
                          clear CN CS
                          by_cases hn1 : n < -524288
                          · clear hn
                            go_wp2_with fail
                            go_roundw
                            case rel => exact ⟨i + 1, by rw [ELL.out]; omega, by go_num, (T6.out.set 4 (.int .i64 n)).1, NI.out.succ NOT.out⟩
                            case measure => (simp [intOf]) <;> omega
                          · have hn2 : 524287 < n := by omega
                            clear hn
                            go_wp2_with fail
                            go_roundw
                            case rel => exact ⟨i + 1, by rw [ELL.out]; omega, by go_num, (T6.out.set 4 (.int .i64 n)).1, NI.out.succ NOT.out⟩
                            case measure => (simp [intOf]) <;> omega
                        have CY := CS.out hout
                        have HOUT : Hid (¬ (fI = true ∧ fU = true ∧ (n < -524288 ∨ 524287 < n))) := hout
                        clear CN hout
                        have CYH : Hid _ := CY
                        clear CY CS
                        have qnu := T6.out.old qn
                        go_upto_if 113 with fail
                        clear qnu
                        go_cut [20] (fun nv wx => nv = .int .i64 n ∧ Three w wx wr.heap.size (instrC k 0 0 0 0 0 aq rl) #[.int .i64 0, .int .i64 0, .int .i64 0, .int .i64 0, .int .i64 0, .int .i64 0, .bool false, .bool false] #[.int .i64 (k : Nat), .int .i64 (if fD then va else 0), .int .i64 (if fA then vb else 0), .int .i64 (if fB then vc else 0), .int .i64 (if fI then (if fU then n * 4096 else n) else 0), .int .i64 0, .bool aq, .bool rl])
                        case first => as_aux_lemma =>
                          have xx := (box8_facts T6.out.2.1).2.2.2.2.1
                          have ff := box8_frozen T6.out.2.1 4
                          cases fI
                          · go_wp2_with fail
                            go_meet
                            exact ⟨rfl, T6.out⟩
                          · cases fU
                            · go_wp2_with fail
                              go_meet
                              exact ⟨rfl, T6.out.set 4 (.int .i64 n)⟩
                            · have hn1 : ¬ n < -524288 := fun h => HOUT.out ⟨rfl, rfl, .inl h⟩
                              have hn2 : ¬ 524287 < n := fun h => HOUT.out ⟨rfl, rfl, .inr h⟩
                              have hs := HST.out rfl
                              subst hs
                              have hnw : IntKind.i64.wrap (n * 4096) = n * 4096 := by simp [IntKind.wrap, IntKind.signed, IntKind.bits]; omega
                              have xy := (box8_facts (T6.out.set 4 (.int .i64 n)).2.1).2.2.2.2.1
                              have fy := box8_frozen (T6.out.set 4 (.int .i64 n)).2.1 4
                              go_wp2_with fail
                              go_meet
                              exact ⟨rfl, T6.out.set2 4 (.int .i64 n) (.int .i64 (n * 4096))⟩
                        case rest =>
                        obtain ⟨rfl, ht3⟩ := hcut
                        clear T6 HOUT
                        have T7 : Hid (Three w wc wr.heap.size (instrC k 0 0 0 0 0 aq rl) #[.int .i64 0, .int .i64 0, .int .i64 0, .int .i64 0, .int .i64 0, .int .i64 0, .bool false, .bool false] #[.int .i64 (k : Nat), .int .i64 (if fD then va else 0), .int .i64 (if fA then vb else 0), .int .i64 (if fB then vc else 0), .int .i64 (if fI then (if fU then n * 4096 else n) else 0), .int .i64 0, .bool aq, .bool rl]) := ht3
                        clear ht3
                        generalize wc = wg at *
                        have qmu := T7.out.old qm
                        go_upto_region 29 with fail
                        clear qmu
                        go_cut [148] (fun cv wx => cv = .bool ((f1 || f2) && (decide (0 ≤ m) && decide (m < 4096))) ∧ wx = wg)
                        case first => as_aux_lemma =>
                          by_cases hm1 : 0 ≤ m
                          all_goals by_cases hm2 : m < 4096
                          all_goals cases f1
                          all_goals cases f2
                          all_goals go_wp2_with fail
                          all_goals go_meet
                          all_goals exact ⟨congrArg Value.bool (by simp [hm1, hm2]), rfl⟩
                        case rest =>
                        obtain ⟨rfl, rfl⟩ := hcut
                        generalize ((f1 || f2) && (decide (0 ≤ m) && decide (m < 4096))) = sc at *
                        go_upto_if 148 with fail
                        go_cut [10] (fun fv wx => fv = .int .i64 (g : Nat) ∧ Three w wx wr.heap.size (instrC k 0 0 0 0 0 aq rl) #[.int .i64 0, .int .i64 0, .int .i64 0, .int .i64 0, .int .i64 0, .int .i64 0, .bool false, .bool false] #[.int .i64 (k : Nat), .int .i64 (if fD then va else 0), .int .i64 (if fA then vb else 0), .int .i64 (if fB then vc else 0), .int .i64 (if fI then (if fU then n * 4096 else n) else 0), .int .i64 (if sc then m else 0), .bool aq, .bool rl])
                        case first => as_aux_lemma =>
                          have xx := (box8_facts T7.out.2.1).2.2.2.2.2.1
                          have ff := box8_frozen T7.out.2.1 5
                          cases sc
                          · go_wp2_with fail
                            go_meet
                            exact ⟨rfl, T7.out⟩
                          · go_wp2_with fail
                            go_meet
                            exact ⟨rfl, T7.out.set 5 (.int .i64 m)⟩
                        case rest =>
                        obtain ⟨rfl, ht3⟩ := hcut
                        clear T7
                        have T8 : Hid (Three w wc wr.heap.size (instrC k 0 0 0 0 0 aq rl) #[.int .i64 0, .int .i64 0, .int .i64 0, .int .i64 0, .int .i64 0, .int .i64 0, .bool false, .bool false] #[.int .i64 (k : Nat), .int .i64 (if fD then va else 0), .int .i64 (if fA then vb else 0), .int .i64 (if fB then vc else 0), .int .i64 (if fI then (if fU then n * 4096 else n) else 0), .int .i64 (if sc then m else 0), .bool aq, .bool rl]) := ht3
                        clear ht3
                        generalize wc = wh at *
                        generalize (if fD then va else 0) = zd at *
                        generalize (if fA then vb else 0) = za at *
                        generalize (if fB then vc else 0) = zb at *
                        generalize (if fI then (if fU then n * 4096 else n) else 0) = zi at *
                        generalize (if sc then m else 0) = zc at *
                        clear qva qvb qvc qn qm
                        obtain ⟨rt, ert⟩ : ∃ rt, rightB (k : Nat) zd za zb zi zc aq rl = rt := ⟨_, rfl⟩
                        have HRT : Hid (∀ V, Calls Tryz.prog 30 #[.agg (instrC (k : Nat) zd za zb zi zc aq rl)] V fun e w' => e = .returned (.bool rt) ∧ Below V.heap.size V w') := fun V => by
                          have h := dright_any (k : Nat) zd za zb zi zc aq rl V
                          rw [ert] at h
                          exact h
                        have ERT : Hid (rightB (k : Nat) zd za zb zi zc aq rl = rt) := ert
                        clear ert
                        obtain ⟨v0, v1, v2, v3, v4, v5, v6, v7⟩ := box8_facts T8.out.2.1
                        go_upto_region 31 with fail
                        go_wp2_with fail
                        refine Calls.mono (HRT.out _) ?_
                        rintro e w4 ⟨rfl, hb4⟩
                        have T9 : Hid (Three w w4 wr.heap.size (instrC k 0 0 0 0 0 aq rl) #[.int .i64 0, .int .i64 0, .int .i64 0, .int .i64 0, .int .i64 0, .int .i64 0, .bool false, .bool false] #[.int .i64 (k : Nat), .int .i64 zd, .int .i64 za, .int .i64 zb, .int .i64 zi, .int .i64 zc, .bool aq, .bool rl]) := T8.out.step hb4
                        clear hb4 v0 v1 v2 v3 v4 v5 v6 v7 T8
                        cases rt
                        · have NOT : Hid (¬ (PI (candY (k : Nat) g fD fA fB fI aq rl R NM) g PL a b c) i) := by
                            rintro ⟨y, h1, h2, _⟩
                            rw [CYH.out] at h1
                            cases h1
                            exact absurd (ERT.out.symm.trans h2) (by decide)
                          clear CYH ERT
                          go_wp2_with fail
                          go_roundw
                          case rel => exact ⟨i + 1, by rw [ELL.out]; omega, by go_num, T9.out.1, NI.out.succ NOT.out⟩
                          case measure => (simp [intOf]) <;> omega
                        · have HIS : Hid (∀ V, Below w.heap.size w V → Calls Tryz.prog 87 #[.agg (instrC (k : Nat) zd za zb zi zc aq rl), .slice pa PL.length pc] V fun e w' => e = .returned (.bool (decide ((takesL zd za zb zi zc.toNat g).map plainL = PL.map plainL))) ∧ Below V.heap.size V w') := fun V hV => his_any k zd za zb zi zc aq rl ERT.out s g cc f3 f7 h0 h16 HO.out PL HPL.out hPn pa pc V (StrsAt.below HPA.out hV)
                          obtain ⟨it, eit⟩ : ∃ it, decide ((takesL zd za zb zi zc.toNat g).map plainL = PL.map plainL) = it := ⟨_, rfl⟩
                          rw [eit] at HIS
                          have EIT : Hid _ := eit
                          clear eit
                          obtain ⟨v0, v1, v2, v3, v4, v5, v6, v7⟩ := box8_facts T9.out.2.1
                          go_wp2_with fail
                          refine Calls.mono (HIS.out _ T9.out.1.2.2) ?_
                          rintro e w5 ⟨rfl, hb5⟩
                          have TA : Hid (Three w w5 wr.heap.size (instrC k 0 0 0 0 0 aq rl) #[.int .i64 0, .int .i64 0, .int .i64 0, .int .i64 0, .int .i64 0, .int .i64 0, .bool false, .bool false] #[.int .i64 (k : Nat), .int .i64 zd, .int .i64 za, .int .i64 zb, .int .i64 zi, .int .i64 zc, .bool aq, .bool rl]) := T9.out.step hb5
                          clear hb5 v0 v1 v2 v3 v4 v5 v6 v7 T9 HIS
                          cases it
                          · have NOT : Hid (¬ (PI (candY (k : Nat) g fD fA fB fI aq rl R NM) g PL a b c) i) := by
                              rintro ⟨y, h1, _, h2⟩
                              rw [CYH.out] at h1
                              cases h1
                              exact of_decide_eq_false EIT.out h2
                            clear CYH
                            go_wp2_with fail
                            go_roundw
                            case rel => exact ⟨i + 1, by rw [ELL.out]; omega, by go_num, TA.out.1, NI.out.succ NOT.out⟩
                            case measure => (simp [intOf]) <;> omega
                          · obtain ⟨o0, o1, o2, o3, o4, o5, o6, o7⟩ := box8_facts TA.out.2.1
                            obtain ⟨c0, c1, c2, c3, c4, c5, c6, c7⟩ := box8_facts TA.out.1.2.1
                            have z0 := box8_frozen TA.out.1.2.1 0
                            have z1 := box8_frozen TA.out.1.2.1 1
                            have z2 := box8_frozen TA.out.1.2.1 2
                            have z3 := box8_frozen TA.out.1.2.1 3
                            have z4 := box8_frozen TA.out.1.2.1 4
                            have z5 := box8_frozen TA.out.1.2.1 5
                            have z6 := box8_frozen TA.out.1.2.1 6
                            have z7 := box8_frozen TA.out.1.2.1 7
                            go_wp2_with ((with_reducible refine bodyPost_ret (v := .tuple #[.agg (instrC (k : Nat) zd za zb zi zc aq rl), .bool true]) ?_ ?_ ?_); (· (have hput := box8_put TA.out.1.2.1 (.int .i64 (k : Nat)) (.int .i64 zd) (.int .i64 za) (.int .i64 zb) (.int .i64 zi) (.int .i64 zc) (.bool aq) (.bool rl)); (obtain ⟨t0, t1, t2, t3, t4, t5, t6, t7⟩ := box8_facts hput); (simp [results, Tryz.results43, go_sem, t0, t1, t2, t3, t4, t5, t6, t7, instrC])); (· rfl); (· exact ⟨set8_below TA.out.1.2.2 (Nat.le_succ _) _ _ _ _ _ _ _ _, .inl ⟨⟨(k : Nat), zd, za, zb, zi, zc, aq, rl⟩, rfl, ⟨ERT.out, of_decide_eq_true EIT.out⟩, rfl, rfl, rfl⟩⟩))
                      · have hili : ¬ (i : Int) < (LL : Int) := by omega
                        have HEND : Hid (¬ ∃ j, j < NM.length * NM.length ∧ (PI (candY (k : Nat) g fD fA fB fI aq rl R NM) g PL a b c) j) := fun ⟨j, h1, h2⟩ => NI.out j (by rw [eLL] at h1; omega) h2
                        clear eLL
                        go_wp2_with fail
                        go_roundw
                        case rel => exact ⟨c + 1, by omega, by go_num, TWi.out, NC.out.succ fun h => HEND.out h.2⟩
                        case measure => (simp [intOf]) <;> omega
                  · rw [decide_eq_false hin]
                    have HEND : Hid (∀ i, ¬ (PC (candY (k : Nat) g fD fA fB fI aq rl R NM) g PL fB R.length (NM.length * NM.length) a b) i) := none_end NC.out hin (by omega)
                    clear hin
                    go_wp2_with fail
                    go_roundw
                    case rel => exact ⟨b + 1, by omega, by go_num, TWc.out, NB.out.succ fun h => by obtain ⟨_, j, hj⟩ := h; exact HEND.out j hj⟩
                    case measure => (simp [intOf]) <;> omega
            · rw [decide_eq_false hin]
              have HEND : Hid (∀ i, ¬ (PB (candY (k : Nat) g fD fA fB fI aq rl R NM) g PL fA fB R.length (NM.length * NM.length) a) i) := none_end NB.out hin (by omega)
              clear hin
              go_wp2_with fail
              go_roundw
              case rel => exact ⟨a + 1, by omega, by go_num, TWb.out, NA.out.succ fun h => by obtain ⟨_, j, hj⟩ := h; exact HEND.out j hj⟩
              case measure => (simp [intOf]) <;> omega
      · rw [decide_eq_false hin]
        have HEND : Hid (∀ i, ¬ (PA (candY (k : Nat) g fD fA fB fI aq rl R NM) g PL fD fA fB R.length (NM.length * NM.length)) i) := none_end NA.out hin (by omega)
        clear hin
        obtain ⟨p0, p1, p2, p3, p4, p5, p6, p7⟩ := box8_facts TWa.out.1
        obtain ⟨c0, c1, c2, c3, c4, c5, c6, c7⟩ := box8_facts TWa.out.2.1
        have z0 := box8_frozen TWa.out.2.1 0
        have z1 := box8_frozen TWa.out.2.1 1
        have z2 := box8_frozen TWa.out.2.1 2
        have z3 := box8_frozen TWa.out.2.1 3
        have z4 := box8_frozen TWa.out.2.1 4
        have z5 := box8_frozen TWa.out.2.1 5
        have z6 := box8_frozen TWa.out.2.1 6
        have z7 := box8_frozen TWa.out.2.1 7
        go_wp2_with ((with_reducible refine bodyPost_ret (v := .tuple #[.agg (instrC k 0 0 0 0 0 aq rl), .bool false]) ?_ ?_ ?_); (· (have hput := box8_put TWa.out.2.1 (.int .i64 (k : Nat)) (.int .i64 0) (.int .i64 0) (.int .i64 0) (.int .i64 0) (.int .i64 0) (.bool aq) (.bool rl)); (obtain ⟨r0, r1, r2, r3, r4, r5, r6, r7⟩ := box8_facts hput); (simp [results, Tryz.results43, go_sem, r0, r1, r2, r3, r4, r5, r6, r7, instrC])); (· rfl); (· exact ⟨set8_below TWa.out.2.2 (Nat.le_succ _) _ _ _ _ _ _ _ _, .inr ⟨rfl, HEND.out⟩⟩))
end Go.Proofs.YtooaafbdjnlmfaaGreatDoor
