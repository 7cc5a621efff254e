/- The document's call Guess of layer 3, whatever the operation. -/
import Derived.Test.YtooaafbdjnlmfaaGreatDoorQDocNum
import Derived.Test.YtooaafbdjnlmfaaGreatDoorQBack
import Derived.Test.YtooaafbdjnlmfaaGreatDoorQDocGuess1
import Derived.Test.YtooaafbdjnlmfaaGreatDoorQDocGuess2
import Derived.Test.YtooaafbdjnlmfaaGreatDoorQDocGuess3
import Derived.Test.YtooaafbdjnlmfaaGreatDoorQDocGuess4
import Derived.Test.YtooaafbdjnlmfaaGreatDoorQBackL
namespace Go.Proofs.YtooaafbdjnlmfaaGreatDoor
open Go.RowKit
set_option linter.unusedVariables false
set_option linter.unusedSimpArgs false
theorem fixed_low : ∀ f, f < 17 → f ≠ 0 → fixedT.getD f 0 % 128 = 127 := by decide +kernel
theorem words_low : ∀ o, o < 99 → 1 ≤ o → wordsT.getD o 0 % 128 = dCode o := by decide +kernel
/-- what is hit has the operation's code -/
theorem hit_code (x o : Nat) (h1 : 1 ≤ o) (h2 : o < 99) (hh : hit x o = true) : dCode o = x % 128 := by
  have hm : x &&& fixedT.getD (formsT.getD o 0) 0 = wordsT.getD o 0 := eq_of_beq hh
  have hl := words_low o h2 h1
  rw [← hm] at hl
  rw [show (128 : Nat) = 2 ^ 7 from rfl, Nat.and_mod_two_pow] at hl
  rw [show fixedT.getD (formsT.getD o 0) 0 % 2 ^ 7 = 2 ^ 7 - 1 from fixed_low _ (forms_lt o h2) (forms_pos o h2 h1), Nat.and_two_pow_sub_one_eq_mod, Nat.mod_mod] at hl
  exact hl.symm
/-- what the document tells of a word and an operation -/
structure Parts where
  op : Int
  rd : Int
  ra : Int
  rb : Int
  im : Int
  cs : Int
  aq : Bool
  rl : Bool
def Parts.cells (p : Parts) : Array Value := instrC p.op p.rd p.ra p.rb p.im p.cs p.aq p.rl
def partsAt (x o : Nat) : Parts := ⟨(o : Nat), (dP (formsT.getD o 0) 1 128 32 x : Nat), (dP (formsT.getD o 0) 2 32768 32 x : Nat), (dP (formsT.getD o 0) 4 1048576 32 x : Nat), immD (formsT.getD o 0) x, (dP (formsT.getD o 0) 8 1048576 4096 x : Nat), dB (formsT.getD o 0) 67108864 x, dB (formsT.getD o 0) 33554432 x⟩
theorem partsAt_cells (x o : Nat) : (partsAt x o).cells = decC x o := rfl
/-- where a word is hit the document's trial comes out true -/
theorem try_hit (x o : Nat) (hx : x < 4294967296) (h1 : 1 ≤ o) (h2 : o < 99) (hh : hit x o = true) :
    (∀ w, Calls Tryz.prog 30 #[.agg (partsAt x o).cells] w fun e w' => e = .returned (.bool true) ∧ Below w.heap.size w w') ∧ (∀ w, Calls Tryz.prog 16 #[.agg (partsAt x o).cells] w fun e w' => e = .returned (.int .i64 (x : Nat)) ∧ Below w.heap.size w w') := by
  obtain ⟨v, hv⟩ : ∃ v, immD (formsT.getD o 0) x = v := ⟨_, rfl⟩
  obtain ⟨U, hU⟩ : ∃ U : Nat, (U : Int) = v % 18446744073709551616 := ⟨(v % 18446744073709551616).toNat, by omega⟩
  obtain ⟨hr, hb, hs⟩ := worded x o hx h1 h2 hh v hv U hU
  have hpc : (partsAt x o).cells = instrC (o : Nat) (dP (formsT.getD o 0) 1 128 32 x : Nat) (dP (formsT.getD o 0) 2 32768 32 x : Nat) (dP (formsT.getD o 0) 4 1048576 32 x : Nat) v (dP (formsT.getD o 0) 8 1048576 4096 x : Nat) (dB (formsT.getD o 0) 67108864 x) (dB (formsT.getD o 0) 33554432 x) := by rw [← hv]; rfl
  rw [hpc]
  generalize dP (formsT.getD o 0) 1 128 32 x = a at *
  generalize dP (formsT.getD o 0) 2 32768 32 x = b at *
  generalize dP (formsT.getD o 0) 4 1048576 32 x = c at *
  generalize dP (formsT.getD o 0) 8 1048576 4096 x = d at *
  generalize dB (formsT.getD o 0) 67108864 x = aq at *
  generalize dB (formsT.getD o 0) 33554432 x = rl at *
  refine ⟨fun w => ?_, fun w => ?_⟩
  · have := dright_any (o : Nat) (a : Nat) (b : Nat) (c : Nat) v (d : Nat) aq rl w
    rw [hr] at this
    exact this
  · obtain ⟨o', a', b', c', d', e1, e2, e3, e4, e5, g1, g2, gf, gz, gl, gp, gi⟩ := right_nat hr
    obtain rfl : o' = o := by omega
    obtain rfl : a' = a := by omega
    obtain rfl : b' = b := by omega
    obtain rfl : c' = c := by omega
    obtain rfl : d' = d := by omega
    have := dword_any o' a' b' c' d' v aq rl U hU g1 g2 gp gi w
    rw [hs] at this
    exact this
/-- where it is not, it comes out false -/
theorem try_no (x o : Nat) (hx : x < 4294967296) (h1 : 1 ≤ o) (h2 : o < 99) (hh : hit x o = false) :
    (∀ w, Calls Tryz.prog 30 #[.agg (partsAt x o).cells] w fun e w' => e = .returned (.bool false) ∧ Below w.heap.size w w') ∨ (∀ w, Calls Tryz.prog 30 #[.agg (partsAt x o).cells] w fun e w' => e = .returned (.bool true) ∧ Below w.heap.size w w') ∧ ∃ y : Nat, y ≠ x ∧ y < 4294967296 ∧ ∀ w, Calls Tryz.prog 16 #[.agg (partsAt x o).cells] w fun e w' => e = .returned (.int .i64 (y : Nat)) ∧ Below w.heap.size w w' := by
  obtain ⟨v, hv⟩ : ∃ v, immD (formsT.getD o 0) x = v := ⟨_, rfl⟩
  obtain ⟨U, hU⟩ : ∃ U : Nat, (U : Int) = v % 18446744073709551616 := ⟨(v % 18446744073709551616).toNat, by omega⟩
  have hpc : (partsAt x o).cells = instrC (o : Nat) (dP (formsT.getD o 0) 1 128 32 x : Nat) (dP (formsT.getD o 0) 2 32768 32 x : Nat) (dP (formsT.getD o 0) 4 1048576 32 x : Nat) v (dP (formsT.getD o 0) 8 1048576 4096 x : Nat) (dB (formsT.getD o 0) 67108864 x) (dB (formsT.getD o 0) 33554432 x) := by rw [← hv]; rfl
  rw [hpc]
  generalize dP (formsT.getD o 0) 1 128 32 x = a at *
  generalize dP (formsT.getD o 0) 2 32768 32 x = b at *
  generalize dP (formsT.getD o 0) 4 1048576 32 x = c at *
  generalize dP (formsT.getD o 0) 8 1048576 4096 x = d at *
  generalize dB (formsT.getD o 0) 67108864 x = aq at *
  generalize dB (formsT.getD o 0) 33554432 x = rl at *
  have hD := fun w => dright_any (o : Nat) (a : Nat) (b : Nat) (c : Nat) v (d : Nat) aq rl w
  cases hr : rightB (o : Nat) (a : Nat) (b : Nat) (c : Nat) v (d : Nat) aq rl
  · rw [hr] at hD
    exact .inl hD
  · rw [hr] at hD
    obtain ⟨o', a', b', c', d', e1, e2, e3, e4, e5, g1, g2, gf, gz, gl, gp, gi⟩ := right_nat hr
    obtain rfl : o' = o := by omega
    obtain rfl : a' = a := by omega
    obtain rfl : b' = b := by omega
    obtain rfl : c' = c := by omega
    obtain rfl : d' = d := by omega
    obtain ⟨r0, r1, r2⟩ := decoded o' a' b' c' d' v aq rl U hU g1 g2 gp gi
    refine .inr ⟨hD, encS o' a' b' c' d' aq rl U, fun he => ?_, r0, fun w => dword_any o' a' b' c' d' v aq rl U hU g1 g2 gp gi w⟩
    rw [he, hh] at r1
    cases r1
theorem dP_yes (f p k m x : Nat) (h : ¬ (partsT.getD f 0 &&& p = 0)) : dP f p k m x = x / k % m := by unfold dP; rw [if_neg h]
theorem dP_no (f p k m x : Nat) (h : partsT.getD f 0 &&& p = 0) : dP f p k m x = 0 := by unfold dP; rw [if_pos h]
theorem dB_no (f k x : Nat) (h : partsT.getD f 0 &&& 16 = 0) : dB f k x = false := by unfold dB; rw [decide_eq_false (by simpa using h)]; rfl
theorem dB_yes (f k x : Nat) (h : ¬ (partsT.getD f 0 &&& 16 = 0)) : dB f k x = (x / k % 2 == 1) := by unfold dB; rw [decide_eq_true h]; rfl
theorem instr_eq {o a a' b b' c c' v d d' : Int} {q q' r r' : Bool} (h1 : a = a') (h2 : b = b') (h3 : c = c') (h4 : d = d') (h5 : q = q') (h6 : r = r') : instrC o a b c v d q r = instrC o a' b' c' v d' q' r' := by subst h1 h2 h3 h4 h5 h6; rfl
theorem gets (x : Nat) : getI x 7 5 = x / 128 % 32 ∧ getI x 15 5 = x / 32768 % 32 ∧ getI x 20 5 = x / 1048576 % 32 ∧ getI x 20 12 = x / 1048576 % 4096 ∧ getI x 26 1 = x / 67108864 % 2 ∧ getI x 25 1 = x / 33554432 % 2 := ⟨rfl, rfl, rfl, rfl, rfl, rfl⟩
theorem zero_cast {n : Nat} (h : n = 0) : (0 : Int) = (n : Int) := by rw [h]; rfl
theorem beq_one (n : Nat) : ((n : Int) == 1) = (n == 1) := by rw [Bool.eq_iff_iff]; simp; omega
theorem cast_eq {a b : Nat} (h : a = b) : (a : Int) = (b : Int) := by rw [h]
theorem guess_any (o x : Nat) (hx : x < 4294967296) (h1 : 1 ≤ o) (h2 : o < 99) (w : World) :
    Calls Tryz.prog 51 #[.int .i64 (o : Nat), .int .u64 (x : Int)] w fun e w' => e = .returned (.agg (partsAt x o).cells) ∧ Below w.heap.size w w' := by
  have hf := forms_lt o h2
  have hz := forms_pos o h2 h1
  have hO := fun w => of_op o h1 h2 w
  have hrf := rows_forms o h2 h1
  unfold Parts.cells partsAt
  simp only
  generalize formsT.getD o 0 = f at *
  obtain ⟨g0, g1, g2, g3, g4, g5⟩ := gets x
  have hcs : f = 1 ∨ f = 2 ∨ f = 3 ∨ f = 4 ∨ f = 5 ∨ f = 6 ∨ f = 7 ∨ f = 8 ∨ f = 9 ∨ f = 10 ∨ f = 11 ∨ f = 12 ∨ f = 13 ∨ f = 14 ∨ f = 15 ∨ f = 16 := by omega
  rcases hcs with rfl | rfl | rfl | rfl | rfl | rfl | rfl | rfl | rfl | rfl | rfl | rfl | rfl | rfl | rfl | rfl
  · rw [show dForm o = 1 from hrf] at hO
    refine (guess_1 o x hx (immD 1 x) (dName (o - 1)) (dCode o : Nat) (dF3 o : Nat) (dF7 o : Nat) _ _ _ _ _ _ _ rfl rfl rfl rfl rfl rfl rfl w hO (fun w => back_1 x hx w)).mono ?_
    rintro e w' ⟨rfl, hb⟩
    exact ⟨congrArg (fun c => Ending.returned (.agg c)) (instr_eq (cast_eq (g0.trans (dP_yes 1 1 128 32 x (by decide)).symm)) (zero_cast (dP_no 1 2 32768 32 x (by decide))) (zero_cast (dP_no 1 4 1048576 32 x (by decide))) (zero_cast (dP_no 1 8 1048576 4096 x (by decide))) ((dB_no 1 _ x (by decide)).symm) ((dB_no 1 _ x (by decide)).symm)), hb⟩
  · rw [show dForm o = 2 from hrf] at hO
    refine (guess_2 o x hx (immD 2 x) (dName (o - 1)) (dCode o : Nat) (dF3 o : Nat) (dF7 o : Nat) _ _ _ _ _ _ _ rfl rfl rfl rfl rfl rfl rfl w hO (fun w => back_2 x hx w)).mono ?_
    rintro e w' ⟨rfl, hb⟩
    exact ⟨congrArg (fun c => Ending.returned (.agg c)) (instr_eq (cast_eq (g0.trans (dP_yes 2 1 128 32 x (by decide)).symm)) (zero_cast (dP_no 2 2 32768 32 x (by decide))) (zero_cast (dP_no 2 4 1048576 32 x (by decide))) (zero_cast (dP_no 2 8 1048576 4096 x (by decide))) ((dB_no 2 _ x (by decide)).symm) ((dB_no 2 _ x (by decide)).symm)), hb⟩
  · rw [show dForm o = 3 from hrf] at hO
    refine (guess_3 o x hx (immD 3 x) (dName (o - 1)) (dCode o : Nat) (dF3 o : Nat) (dF7 o : Nat) _ _ _ _ _ _ _ rfl rfl rfl rfl rfl rfl rfl w hO (fun w => back_3 x hx w)).mono ?_
    rintro e w' ⟨rfl, hb⟩
    exact ⟨congrArg (fun c => Ending.returned (.agg c)) (instr_eq (cast_eq (g0.trans (dP_yes 3 1 128 32 x (by decide)).symm)) (cast_eq (g1.trans (dP_yes 3 2 32768 32 x (by decide)).symm)) (zero_cast (dP_no 3 4 1048576 32 x (by decide))) (zero_cast (dP_no 3 8 1048576 4096 x (by decide))) ((dB_no 3 _ x (by decide)).symm) ((dB_no 3 _ x (by decide)).symm)), hb⟩
  · rw [show dForm o = 5 from hrf] at hO
    refine (guess_5 o x hx (immD 4 x) (dName (o - 1)) (dCode o : Nat) (dF3 o : Nat) (dF7 o : Nat) _ _ _ _ _ _ _ rfl rfl rfl rfl rfl rfl rfl w hO (fun w => back_5 x hx w)).mono ?_
    rintro e w' ⟨rfl, hb⟩
    exact ⟨congrArg (fun c => Ending.returned (.agg c)) (instr_eq (cast_eq (g0.trans (dP_yes 4 1 128 32 x (by decide)).symm)) (cast_eq (g1.trans (dP_yes 4 2 32768 32 x (by decide)).symm)) (zero_cast (dP_no 4 4 1048576 32 x (by decide))) (zero_cast (dP_no 4 8 1048576 4096 x (by decide))) ((dB_no 4 _ x (by decide)).symm) ((dB_no 4 _ x (by decide)).symm)), hb⟩
  · rw [show dForm o = 4 from hrf] at hO
    refine (guess_4 o x hx (immD 5 x) (dName (o - 1)) (dCode o : Nat) (dF3 o : Nat) (dF7 o : Nat) _ _ _ _ _ _ _ rfl rfl rfl rfl rfl rfl rfl w hO (fun w => back_4 x hx w)).mono ?_
    rintro e w' ⟨rfl, hb⟩
    exact ⟨congrArg (fun c => Ending.returned (.agg c)) (instr_eq (zero_cast (dP_no 5 1 128 32 x (by decide))) (cast_eq (g1.trans (dP_yes 5 2 32768 32 x (by decide)).symm)) (cast_eq (g2.trans (dP_yes 5 4 1048576 32 x (by decide)).symm)) (zero_cast (dP_no 5 8 1048576 4096 x (by decide))) ((dB_no 5 _ x (by decide)).symm) ((dB_no 5 _ x (by decide)).symm)), hb⟩
  · rw [show dForm o = 6 from hrf] at hO
    refine (guess_6 o x hx (immD 6 x) (dName (o - 1)) (dCode o : Nat) (dF3 o : Nat) (dF7 o : Nat) _ _ _ _ _ _ _ rfl rfl rfl rfl rfl rfl rfl w hO (fun w => back_6 x hx w)).mono ?_
    rintro e w' ⟨rfl, hb⟩
    exact ⟨congrArg (fun c => Ending.returned (.agg c)) (instr_eq (zero_cast (dP_no 6 1 128 32 x (by decide))) (cast_eq (g1.trans (dP_yes 6 2 32768 32 x (by decide)).symm)) (cast_eq (g2.trans (dP_yes 6 4 1048576 32 x (by decide)).symm)) (zero_cast (dP_no 6 8 1048576 4096 x (by decide))) ((dB_no 6 _ x (by decide)).symm) ((dB_no 6 _ x (by decide)).symm)), hb⟩
  · rw [show dForm o = 7 from hrf] at hO
    refine (guess_7 o x hx (immD 7 x) (dName (o - 1)) (dCode o : Nat) (dF3 o : Nat) (dF7 o : Nat) _ _ _ _ _ _ _ rfl rfl rfl rfl rfl rfl rfl w hO (fun w => back_7 x hx w)).mono ?_
    rintro e w' ⟨rfl, hb⟩
    exact ⟨congrArg (fun c => Ending.returned (.agg c)) (instr_eq (cast_eq (g0.trans (dP_yes 7 1 128 32 x (by decide)).symm)) (cast_eq (g1.trans (dP_yes 7 2 32768 32 x (by decide)).symm)) (zero_cast (dP_no 7 4 1048576 32 x (by decide))) (zero_cast (dP_no 7 8 1048576 4096 x (by decide))) ((dB_no 7 _ x (by decide)).symm) ((dB_no 7 _ x (by decide)).symm)), hb⟩
  · rw [show dForm o = 8 from hrf] at hO
    refine (guess_8 o x hx (immD 8 x) (dName (o - 1)) (dCode o : Nat) (dF3 o : Nat) (dF7 o : Nat) _ _ _ _ _ _ _ rfl rfl rfl rfl rfl rfl rfl w hO (fun w => back_8 x hx w)).mono ?_
    rintro e w' ⟨rfl, hb⟩
    exact ⟨congrArg (fun c => Ending.returned (.agg c)) (instr_eq (cast_eq (g0.trans (dP_yes 8 1 128 32 x (by decide)).symm)) (cast_eq (g1.trans (dP_yes 8 2 32768 32 x (by decide)).symm)) (zero_cast (dP_no 8 4 1048576 32 x (by decide))) (zero_cast (dP_no 8 8 1048576 4096 x (by decide))) ((dB_no 8 _ x (by decide)).symm) ((dB_no 8 _ x (by decide)).symm)), hb⟩
  · rw [show dForm o = 9 from hrf] at hO
    refine (guess_9 o x hx (immD 9 x) (dName (o - 1)) (dCode o : Nat) (dF3 o : Nat) (dF7 o : Nat) _ _ _ _ _ _ _ rfl rfl rfl rfl rfl rfl rfl w hO (fun w => back_9 x hx w)).mono ?_
    rintro e w' ⟨rfl, hb⟩
    exact ⟨congrArg (fun c => Ending.returned (.agg c)) (instr_eq (cast_eq (g0.trans (dP_yes 9 1 128 32 x (by decide)).symm)) (cast_eq (g1.trans (dP_yes 9 2 32768 32 x (by decide)).symm)) (cast_eq (g2.trans (dP_yes 9 4 1048576 32 x (by decide)).symm)) (zero_cast (dP_no 9 8 1048576 4096 x (by decide))) ((dB_no 9 _ x (by decide)).symm) ((dB_no 9 _ x (by decide)).symm)), hb⟩
  · rw [show dForm o = 10 from hrf] at hO
    refine (guess_10 o x hx (immD 10 x) (dName (o - 1)) (dCode o : Nat) (dF3 o : Nat) (dF7 o : Nat) _ _ _ _ _ _ _ rfl rfl rfl rfl rfl rfl rfl w hO (fun w => back_10 x hx w)).mono ?_
    rintro e w' ⟨rfl, hb⟩
    exact ⟨congrArg (fun c => Ending.returned (.agg c)) (instr_eq (cast_eq (g0.trans (dP_yes 10 1 128 32 x (by decide)).symm)) (cast_eq (g1.trans (dP_yes 10 2 32768 32 x (by decide)).symm)) (zero_cast (dP_no 10 4 1048576 32 x (by decide))) (zero_cast (dP_no 10 8 1048576 4096 x (by decide))) ((dB_no 10 _ x (by decide)).symm) ((dB_no 10 _ x (by decide)).symm)), hb⟩
  · rw [show dForm o = 11 from hrf] at hO
    refine (guess_11 o x hx (immD 11 x) (dName (o - 1)) (dCode o : Nat) (dF3 o : Nat) (dF7 o : Nat) _ _ _ _ _ _ _ rfl rfl rfl rfl rfl rfl rfl w hO (fun w => back_11 x hx w)).mono ?_
    rintro e w' ⟨rfl, hb⟩
    exact ⟨congrArg (fun c => Ending.returned (.agg c)) (instr_eq (zero_cast (dP_no 11 1 128 32 x (by decide))) (zero_cast (dP_no 11 2 32768 32 x (by decide))) (zero_cast (dP_no 11 4 1048576 32 x (by decide))) (zero_cast (dP_no 11 8 1048576 4096 x (by decide))) ((dB_no 11 _ x (by decide)).symm) ((dB_no 11 _ x (by decide)).symm)), hb⟩
  · rw [show dForm o = 12 from hrf] at hO
    refine (guess_12 o x hx (immD 12 x) (dName (o - 1)) (dCode o : Nat) (dF3 o : Nat) (dF7 o : Nat) _ _ _ _ _ _ _ rfl rfl rfl rfl rfl rfl rfl w hO (fun w => back_12 x hx w)).mono ?_
    rintro e w' ⟨rfl, hb⟩
    exact ⟨congrArg (fun c => Ending.returned (.agg c)) (instr_eq (cast_eq (g0.trans (dP_yes 12 1 128 32 x (by decide)).symm)) (cast_eq (g1.trans (dP_yes 12 2 32768 32 x (by decide)).symm)) (zero_cast (dP_no 12 4 1048576 32 x (by decide))) (cast_eq (g3.trans (dP_yes 12 8 1048576 4096 x (by decide)).symm)) ((dB_no 12 _ x (by decide)).symm) ((dB_no 12 _ x (by decide)).symm)), hb⟩
  · rw [show dForm o = 13 from hrf] at hO
    refine (guess_13 o x hx (immD 13 x) (dName (o - 1)) (dCode o : Nat) (dF3 o : Nat) (dF7 o : Nat) _ _ _ _ _ _ _ rfl rfl rfl rfl rfl rfl rfl w hO (fun w => back_13 x hx w)).mono ?_
    rintro e w' ⟨rfl, hb⟩
    exact ⟨congrArg (fun c => Ending.returned (.agg c)) (instr_eq (cast_eq (g0.trans (dP_yes 13 1 128 32 x (by decide)).symm)) (zero_cast (dP_no 13 2 32768 32 x (by decide))) (zero_cast (dP_no 13 4 1048576 32 x (by decide))) (cast_eq (g3.trans (dP_yes 13 8 1048576 4096 x (by decide)).symm)) ((dB_no 13 _ x (by decide)).symm) ((dB_no 13 _ x (by decide)).symm)), hb⟩
  · rw [show dForm o = 14 from hrf] at hO
    refine (guess_14 o x hx (immD 14 x) (dName (o - 1)) (dCode o : Nat) (dF3 o : Nat) (dF7 o : Nat) _ _ _ _ _ _ _ rfl rfl rfl rfl rfl rfl rfl w hO (fun w => back_14 x hx w)).mono ?_
    rintro e w' ⟨rfl, hb⟩
    exact ⟨congrArg (fun c => Ending.returned (.agg c)) (instr_eq (cast_eq (g0.trans (dP_yes 14 1 128 32 x (by decide)).symm)) (cast_eq (g1.trans (dP_yes 14 2 32768 32 x (by decide)).symm)) (zero_cast (dP_no 14 4 1048576 32 x (by decide))) (zero_cast (dP_no 14 8 1048576 4096 x (by decide))) ((beq_one _).trans (by rw [dB_yes 14 _ x (by decide), g4])) ((beq_one _).trans (by rw [dB_yes 14 _ x (by decide), g5]))), hb⟩
  · rw [show dForm o = 15 from hrf] at hO
    refine (guess_15 o x hx (immD 15 x) (dName (o - 1)) (dCode o : Nat) (dF3 o : Nat) (dF7 o : Nat) _ _ _ _ _ _ _ rfl rfl rfl rfl rfl rfl rfl w hO (fun w => back_15 x hx w)).mono ?_
    rintro e w' ⟨rfl, hb⟩
    exact ⟨congrArg (fun c => Ending.returned (.agg c)) (instr_eq (cast_eq (g0.trans (dP_yes 15 1 128 32 x (by decide)).symm)) (cast_eq (g1.trans (dP_yes 15 2 32768 32 x (by decide)).symm)) (cast_eq (g2.trans (dP_yes 15 4 1048576 32 x (by decide)).symm)) (zero_cast (dP_no 15 8 1048576 4096 x (by decide))) ((beq_one _).trans (by rw [dB_yes 15 _ x (by decide), g4])) ((beq_one _).trans (by rw [dB_yes 15 _ x (by decide), g5]))), hb⟩
  · rw [show dForm o = 16 from hrf] at hO
    refine (guess_16 o x hx (immD 16 x) (dName (o - 1)) (dCode o : Nat) (dF3 o : Nat) (dF7 o : Nat) _ _ _ _ _ _ _ rfl rfl rfl rfl rfl rfl rfl w hO (fun w => back_16 x hx w)).mono ?_
    rintro e w' ⟨rfl, hb⟩
    exact ⟨congrArg (fun c => Ending.returned (.agg c)) (instr_eq (zero_cast (dP_no 16 1 128 32 x (by decide))) (cast_eq (g1.trans (dP_yes 16 2 32768 32 x (by decide)).symm)) (cast_eq (g2.trans (dP_yes 16 4 1048576 32 x (by decide)).symm)) (zero_cast (dP_no 16 8 1048576 4096 x (by decide))) ((dB_no 16 _ x (by decide)).symm) ((dB_no 16 _ x (by decide)).symm)), hb⟩
end Go.Proofs.YtooaafbdjnlmfaaGreatDoor

namespace Go.Proofs.YtooaafbdjnlmfaaGreatDoor
open Go.RowKit
set_option linter.unusedVariables false
set_option linter.unusedSimpArgs false
/-- the trial at an operation comes out false -/
def TryNo (x i : Nat) : Prop := ∃ (op rd ra rb im cs : Int) (aq rl : Bool), (∀ w, Calls Tryz.prog 51 #[.int .i64 ((i : Int) + 1), .int .u64 (x : Int)] w fun e w' => e = .returned (.agg (instrC op rd ra rb im cs aq rl)) ∧ Below w.heap.size w w') ∧ ((∀ w, Calls Tryz.prog 30 #[.agg (instrC op rd ra rb im cs aq rl)] w fun e w' => e = .returned (.bool false) ∧ Below w.heap.size w w') ∨ (∀ w, Calls Tryz.prog 30 #[.agg (instrC op rd ra rb im cs aq rl)] w fun e w' => e = .returned (.bool true) ∧ Below w.heap.size w w') ∧ ∃ y : Nat, y ≠ x ∧ y < 4294967296 ∧ ∀ w, Calls Tryz.prog 16 #[.agg (instrC op rd ra rb im cs aq rl)] w fun e w' => e = .returned (.int .i64 (y : Nat)) ∧ Below w.heap.size w w')
/-- what lies in the world as the document decodes -/
structure DecIn (w wr : World) : Prop where
  below : Below w.heap.size w wr
  box : Box8 wr w.heap.size (instrC 0 0 0 0 0 0 false false)
  rows : RowsAt wr (w.heap.size + 1)
  lt : w.heap.size + 1 < wr.heap.size
theorem DecIn.step {w w1 w2 : World} (h : DecIn w w1) (hb : Below w1.heap.size w1 w2) : DecIn w w2 := ⟨h.below.trans (hb.mono h.below.size), h.box.step hb, h.rows.below hb h.lt, Nat.lt_of_lt_of_le h.lt hb.size⟩
theorem DecIn.alloc {w w1 : World} (h : DecIn w w1) (o : Obj) : DecIn w (w1.alloc o) := h.step ((Below.refl _ _).alloc (Nat.le_refl _) o)
set_option maxRecDepth 100000 in
set_option maxHeartbeats 2000000 in
theorem ddecode_none (x : Nat) (hx : x < 4294967296) (hno : ∀ i, i < 98 → TryNo x i) (w : World) :
    Calls Tryz.prog 21 #[.int .u32 (x : Nat)] w fun e w' => e = .returned (.tuple #[.agg (instrC 0 0 0 0 0 0 false false), .bool false]) ∧ Below w.heap.size w w' := by
  have hxi : decide (4294967296 ≤ (x : Int)) = false := by simp; omega
  have HN : Hid _ := hno
  clear hno
  go_enter Tryz.func21, Tryz.ntmps21
  go_wp2_with fail
  refine (rows_at _).mono ?_
  rintro e w1 ⟨rfl, hb, hl, hr⟩
  have S : Hid (DecIn w w1) := ⟨((Below.refl _ _).alloc (Nat.le_refl _) _).trans (hb.mono (by simp)), (Box8.new w _).step hb, by simpa using hr, by simpa using hl⟩
  clear hb hl hr
  go_wp2
  go_loopw [5] (fun v wr => ∃ i : Nat, i ≤ 98 ∧ v = .int .i64 ((i : Int) + 1) ∧ DecIn w wr) (fun v _ => 100 - (intOf v).toNat)
  case atStart => exact ⟨0, by omega, rfl, S.out⟩
  case round =>
    obtain ⟨i, hi, rfl, hinv⟩ := hrel
    have I : Hid (DecIn w wr) := hinv
    clear hinv S
    by_cases him : i < 98
    · have c2 := (I.out.rows.at5 i (by omega)).2.2.1
      have hki : (i : Int) < 98 := by omega
      by_cases hc : dCode (i + 1) = x % 128
      · have hcb : (((dCode (i + 1) : Nat) : Int) != (x : Int) % 128) = false := by rw [hc]; simp
        have HC : Hid _ := hc
        clear hc
        generalize ((dCode (i + 1) : Nat) : Int) = code at *
        obtain ⟨op, rd, ra, rb, im, cs, aq, rl, hG, hR⟩ := HN.out i (by omega)
        have G : Hid _ := hG
        have R : Hid _ := hR
        clear hG hR
        go_wp2_with fail
        refine (G.out _).mono ?_
        rintro e w2 ⟨rfl, hb⟩
        have I2 : Hid (DecIn w w2) := I.out.step hb
        have X2 : Hid (Box8 (w2.alloc (.cells (instrC op rd ra rb im cs aq rl) 23)) w2.heap.size (instrC op rd ra rb im cs aq rl)) := Box8.new w2 _
        have I3 : Hid (DecIn w (w2.alloc (.cells (instrC op rd ra rb im cs aq rl) 23))) := I2.out.alloc _
        clear hb
        rcases R.out with r | ⟨r, y, hy, hyl, hw⟩
        · have RR : Hid _ := r
          clear r
          go_wp2_with fail
          refine (RR.out _).mono ?_
          rintro e w4 ⟨rfl, hb⟩
          have I4 : Hid (DecIn w w4) := I3.out.step hb
          clear hb
          go_wp2
          go_roundw
          case rel => exact ⟨i + 1, by omega, by go_num, I4.out⟩
          case measure => simp [intOf]; omega
        · have RR : Hid _ := r
          have RW : Hid _ := hw
          have hyb : ((y : Int) == (x : Int)) = false := by simp; omega
          have hyi : (y : Int) < 4294967296 := by omega
          clear r hw hy hyl
          go_wp2_with fail
          refine (RR.out _).mono ?_
          rintro e w4 ⟨rfl, hb⟩
          have I4 : Hid (DecIn w w4) := I3.out.step hb
          have X4 : Hid (Box8 w4 w2.heap.size (instrC op rd ra rb im cs aq rl)) := X2.out.step hb
          obtain ⟨q0, q1, q2, q3, q4, q5, q6, q7⟩ := box8_facts X4.out
          clear hb
          go_wp2_with fail
          refine (RW.out _).mono ?_
          rintro e w5 ⟨rfl, hb⟩
          have I5 : Hid (DecIn w w5) := I4.out.step hb
          clear hb
          go_wp2
          go_roundw
          case rel => exact ⟨i + 1, by omega, by go_num, I5.out⟩
          case measure => simp [intOf]; omega
      · have hcb : (((dCode (i + 1) : Nat) : Int) != (x : Int) % 128) = true := by simp; omega
        have HC : Hid _ := hc
        clear hc
        generalize ((dCode (i + 1) : Nat) : Int) = code at *
        go_wp2
        go_roundw
        case rel => exact ⟨i + 1, by omega, by go_num, I.out⟩
        case measure => simp [intOf]; omega
    · have hki : ¬ ((i : Int) < 98) := by omega
      obtain ⟨y0, y1, y2, y3, y4, y5, y6, y7⟩ := box8_facts I.out.box
      have v0 := box8_frozen I.out.box 0
      have v1 := box8_frozen I.out.box 1
      have v2 := box8_frozen I.out.box 2
      have v3 := box8_frozen I.out.box 3
      have v4 := box8_frozen I.out.box 4
      have v5 := box8_frozen I.out.box 5
      have v6 := box8_frozen I.out.box 6
      have v7 := box8_frozen I.out.box 7
      go_wp2
      refine bodyPost_ret (v := .tuple #[.agg (instrC 0 0 0 0 0 0 false false), .bool false]) (by simp [results, Tryz.results21, go_sem, y0, y1, y2, y3, y4, y5, y6, y7]) rfl ⟨rfl, ?_⟩
      iterate 8 (refine Below.setCell ?_ (by exact Nat.le_refl _) _)
      exact I.out.below
set_option maxRecDepth 100000 in
set_option maxHeartbeats 2000000 in
theorem ddecode_hit (x m : Nat) (hx : x < 4294967296) (hm : m < 98) (hno : ∀ i, i < m → TryNo x i) (hcm : dCode (m + 1) = x % 128) (op rd ra rb im cs : Int) (aq rl : Bool)
    (hG : ∀ w, Calls Tryz.prog 51 #[.int .i64 ((m : Int) + 1), .int .u64 (x : Int)] w fun e w' => e = .returned (.agg (instrC op rd ra rb im cs aq rl)) ∧ Below w.heap.size w w')
    (hR : ∀ w, Calls Tryz.prog 30 #[.agg (instrC op rd ra rb im cs aq rl)] w fun e w' => e = .returned (.bool true) ∧ Below w.heap.size w w')
    (hW : ∀ w, Calls Tryz.prog 16 #[.agg (instrC op rd ra rb im cs aq rl)] w fun e w' => e = .returned (.int .i64 (x : Nat)) ∧ Below w.heap.size w w') (w : World) :
    Calls Tryz.prog 21 #[.int .u32 (x : Nat)] w fun e w' => e = .returned (.tuple #[.agg (instrC op rd ra rb im cs aq rl), .bool true]) ∧ Below w.heap.size w w' := by
  have HG : Hid _ := hG
  have HR : Hid _ := hR
  have HW : Hid _ := hW
  have HCM : Hid _ := hcm
  clear hG hR hW hcm
  have hxi : decide (4294967296 ≤ (x : Int)) = false := by simp; omega
  have HN : Hid _ := hno
  clear hno
  go_enter Tryz.func21, Tryz.ntmps21
  go_wp2_with fail
  refine (rows_at _).mono ?_
  rintro e w1 ⟨rfl, hb, hl, hr⟩
  have S : Hid (DecIn w w1) := ⟨((Below.refl _ _).alloc (Nat.le_refl _) _).trans (hb.mono (by simp)), (Box8.new w _).step hb, by simpa using hr, by simpa using hl⟩
  clear hb hl hr
  go_wp2
  go_loopw [5] (fun v wr => ∃ i : Nat, i ≤ m ∧ v = .int .i64 ((i : Int) + 1) ∧ DecIn w wr) (fun v _ => 100 - (intOf v).toNat)
  case atStart => exact ⟨0, by omega, rfl, S.out⟩
  case round =>
    obtain ⟨i, hi, rfl, hinv⟩ := hrel
    have I : Hid (DecIn w wr) := hinv
    clear hinv S
    by_cases him : i < m
    · have c2 := (I.out.rows.at5 i (by omega)).2.2.1
      have hki : (i : Int) < 98 := by omega
      by_cases hc : dCode (i + 1) = x % 128
      · have hcb : (((dCode (i + 1) : Nat) : Int) != (x : Int) % 128) = false := by rw [hc]; simp
        have HC : Hid _ := hc
        clear hc
        generalize ((dCode (i + 1) : Nat) : Int) = code at *
        obtain ⟨op1, rd1, ra1, rb1, im1, cs1, aq1, rl1, hG, hR⟩ := HN.out i (by omega)
        have G : Hid _ := hG
        have R : Hid _ := hR
        clear hG hR
        go_wp2_with fail
        refine (G.out _).mono ?_
        rintro e w2 ⟨rfl, hb⟩
        have I2 : Hid (DecIn w w2) := I.out.step hb
        have X2 : Hid (Box8 (w2.alloc (.cells (instrC op1 rd1 ra1 rb1 im1 cs1 aq1 rl1) 23)) w2.heap.size (instrC op1 rd1 ra1 rb1 im1 cs1 aq1 rl1)) := Box8.new w2 _
        have I3 : Hid (DecIn w (w2.alloc (.cells (instrC op1 rd1 ra1 rb1 im1 cs1 aq1 rl1) 23))) := I2.out.alloc _
        clear hb
        rcases R.out with r | ⟨r, y, hy, hyl, hw⟩
        · have RR : Hid _ := r
          clear r
          go_wp2_with fail
          refine (RR.out _).mono ?_
          rintro e w4 ⟨rfl, hb⟩
          have I4 : Hid (DecIn w w4) := I3.out.step hb
          clear hb
          go_wp2
          go_roundw
          case rel => exact ⟨i + 1, by omega, by go_num, I4.out⟩
          case measure => simp [intOf]; omega
        · have RR : Hid _ := r
          have RW : Hid _ := hw
          have hyb : ((y : Int) == (x : Int)) = false := by simp; omega
          have hyi : (y : Int) < 4294967296 := by omega
          clear r hw hy hyl
          go_wp2_with fail
          refine (RR.out _).mono ?_
          rintro e w4 ⟨rfl, hb⟩
          have I4 : Hid (DecIn w w4) := I3.out.step hb
          have X4 : Hid (Box8 w4 w2.heap.size (instrC op1 rd1 ra1 rb1 im1 cs1 aq1 rl1)) := X2.out.step hb
          obtain ⟨q0, q1, q2, q3, q4, q5, q6, q7⟩ := box8_facts X4.out
          clear hb
          go_wp2_with fail
          refine (RW.out _).mono ?_
          rintro e w5 ⟨rfl, hb⟩
          have I5 : Hid (DecIn w w5) := I4.out.step hb
          clear hb
          go_wp2
          go_roundw
          case rel => exact ⟨i + 1, by omega, by go_num, I5.out⟩
          case measure => simp [intOf]; omega
      · have hcb : (((dCode (i + 1) : Nat) : Int) != (x : Int) % 128) = true := by simp; omega
        have HC : Hid _ := hc
        clear hc
        generalize ((dCode (i + 1) : Nat) : Int) = code at *
        go_wp2
        go_roundw
        case rel => exact ⟨i + 1, by omega, by go_num, I.out⟩
        case measure => simp [intOf]; omega
    · obtain rfl : i = m := by omega
      have c2 := (I.out.rows.at5 i (by omega)).2.2.1
      have hki : (i : Int) < 98 := by omega
      have hcb : (((dCode (i + 1) : Nat) : Int) != (x : Int) % 128) = false := by rw [HCM.out]; simp
      generalize ((dCode (i + 1) : Nat) : Int) = code at *
      go_wp2_with fail
      refine (HG.out _).mono ?_
      rintro e w2 ⟨rfl, hb⟩
      have I2 : Hid (DecIn w w2) := I.out.step hb
      have X2 : Hid (Box8 (w2.alloc (.cells (instrC op rd ra rb im cs aq rl) 23)) w2.heap.size (instrC op rd ra rb im cs aq rl)) := Box8.new w2 _
      have I3 : Hid (DecIn w (w2.alloc (.cells (instrC op rd ra rb im cs aq rl) 23))) := I2.out.alloc _
      clear hb
      go_wp2_with fail
      refine (HR.out _).mono ?_
      rintro e w4 ⟨rfl, hb⟩
      have I4 : Hid (DecIn w w4) := I3.out.step hb
      have X4 : Hid (Box8 w4 w2.heap.size (instrC op rd ra rb im cs aq rl)) := X2.out.step hb
      obtain ⟨q0, q1, q2, q3, q4, q5, q6, q7⟩ := box8_facts X4.out
      clear hb
      go_wp2_with fail
      refine (HW.out _).mono ?_
      rintro e w5 ⟨rfl, hb⟩
      have I5 : Hid (DecIn w w5) := I4.out.step hb
      have X5 : Hid (Box8 w5 w2.heap.size (instrC op rd ra rb im cs aq rl)) := X4.out.step hb
      obtain ⟨q0, q1, q2, q3, q4, q5, q6, q7⟩ := box8_facts X5.out
      obtain ⟨y0, y1, y2, y3, y4, y5, y6, y7⟩ := box8_facts I5.out.box
      have v0 := box8_frozen I5.out.box 0
      have v1 := box8_frozen I5.out.box 1
      have v2 := box8_frozen I5.out.box 2
      have v3 := box8_frozen I5.out.box 3
      have v4 := box8_frozen I5.out.box 4
      have v5 := box8_frozen I5.out.box 5
      have v6 := box8_frozen I5.out.box 6
      have v7 := box8_frozen I5.out.box 7
      have ne1 : w.heap.size ≠ w2.heap.size := Nat.ne_of_lt (Nat.lt_trans (Nat.lt_succ_self _) I2.out.lt)
      have ne2 : w2.heap.size ≠ w.heap.size := ne1.symm
      clear hb
      go_wp2
      refine bodyPost_ret (v := .tuple #[.agg (instrC op rd ra rb im cs aq rl), .bool true]) (by simp [results, Tryz.results21, go_sem, y0, y1, y2, y3, y4, y5, y6, y7]) rfl ⟨rfl, ?_⟩
      iterate 8 (refine Below.setCell ?_ (by exact Nat.le_refl _) _)
      exact I5.out.below
end Go.Proofs.YtooaafbdjnlmfaaGreatDoor

namespace Go.Proofs.YtooaafbdjnlmfaaGreatDoor
open Go.RowKit
set_option linter.unusedVariables false
set_option linter.unusedSimpArgs false
theorem tryno_of (x i : Nat) (hx : x < 4294967296) (hi : i < 98) (hh : hit x (i + 1) = false) : TryNo x i := by
  have hg := fun w => guess_any (i + 1) x hx (by omega) (by omega) w
  rw [show ((i + 1 : Nat) : Int) = (i : Int) + 1 from by omega] at hg
  exact ⟨_, _, _, _, _, _, _, _, hg, try_no x (i + 1) hx (by omega) (by omega) hh⟩

theorem decode_both (x : Nat) (hx : x < 4294967296) : ∃ y e, Dec x y e ∧ (∀ V, TabsD V → Calls Tryz.prog 23 #[.int .u32 (x : Nat)] V fun r w' => r = .returned (.tuple #[.agg #[.int .i64 y.op, .int .i64 y.rd, .int .i64 y.rs1, .int .i64 y.rs2, .int .i64 y.imm, .int .i64 y.csr, .bool y.aq, .bool y.rl], .int .i64 e]) ∧ Below V.heap.size V w') ∧
    (∀ V, Calls Tryz.prog 21 #[.int .u32 (x : Nat)] V fun r w' => r = .returned (.tuple #[.agg #[.int .i64 y.op, .int .i64 y.rd, .int .i64 y.rs1, .int .i64 y.rs2, .int .i64 y.imm, .int .i64 y.csr, .bool y.aq, .bool y.rl], .bool (decide (e = 0))]) ∧ Below V.heap.size V w') := by
  rcases first_hit x 99 with ⟨o, h1, h2, hh, hno⟩ | hno
  · obtain ⟨v, hv⟩ : ∃ v, immD (formsT.getD o 0) x = v := ⟨_, rfl⟩
    obtain ⟨U, hU⟩ : ∃ U : Nat, (U : Int) = v % 18446744073709551616 := ⟨(v % 18446744073709551616).toNat, by omega⟩
    obtain ⟨hr, hb, hs⟩ := worded x o hx h1 h2 hh v hv U hU
    refine ⟨⟨(o : Nat), (dP (formsT.getD o 0) 1 128 32 x : Nat), (dP (formsT.getD o 0) 2 32768 32 x : Nat), (dP (formsT.getD o 0) 4 1048576 32 x : Nat), v, (dP (formsT.getD o 0) 8 1048576 4096 x : Nat), dB (formsT.getD o 0) 67108864 x, dB (formsT.getD o 0) 33554432 x⟩, 0, .yes _ hr hb ?_, fun w t => ?_, fun w => ?_⟩
    · simp only [Int.toNat_natCast]
      rw [show (v % 18446744073709551616).toNat = U from by omega]
      exact hs
    · have hD := decode_hit x o hx h1 h2 hh hno w t
      unfold decC at hD
      rw [hv] at hD
      exact hD
    · obtain ⟨m, rfl⟩ : ∃ m, o = m + 1 := ⟨o - 1, by omega⟩
      have hg := fun w => guess_any (m + 1) x hx h1 h2 w
      rw [show ((m + 1 : Nat) : Int) = (m : Int) + 1 from by omega] at hg
      obtain ⟨t1, t2⟩ := try_hit x (m + 1) hx h1 h2 hh
      have hDD := ddecode_hit x m hx (by omega) (fun i hi => tryno_of x i hx (by omega) (hno (i + 1) (by omega) (by omega))) (hit_code x (m + 1) h1 h2 hh) _ _ _ _ _ _ _ _ hg t1 t2 w
      subst hv
      exact hDD
  · exact ⟨Ins.zero, 31, .no, fun w t => decode_none x hx hno w t, fun w => ddecode_none x hx (fun i hi => tryno_of x i hx hi (hno (i + 1) (by omega) (by omega))) w⟩
end Go.Proofs.YtooaafbdjnlmfaaGreatDoor
