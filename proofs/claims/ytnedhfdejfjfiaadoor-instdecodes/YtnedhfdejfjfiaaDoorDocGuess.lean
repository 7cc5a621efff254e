/- The document's call Guess of layer 3, whatever the operation. -/
import Derived.Test.YtnedhfdejfjfiaaDoorDocEnc
import Derived.Test.YtnedhfdejfjfiaaDoorWords
import Derived.Test.YtnedhfdejfjfiaaDoorDocGuess1
import Derived.Test.YtnedhfdejfjfiaaDoorDocGuess2
import Derived.Test.YtnedhfdejfjfiaaDoorDocGuess3
import Derived.Test.YtnedhfdejfjfiaaDoorDocGuess4
import Derived.Test.YtnedhfdejfjfiaaDoorDocGuess5
import Derived.Test.YtnedhfdejfjfiaaDoorDocGuess6
namespace Go.Proofs.YtnedhfdejfjfiaaDoor
open Go.RowKit
set_option linter.unusedVariables false
set_option linter.unusedSimpArgs false
theorem fixed_low : ∀ f, f < 17 → f ≠ 0 → fixedT.getD f 0 % 128 = 127 := by decide +kernel
theorem words_low : ∀ o, o < 99 → 1 ≤ o → wordsT.getD o 0 % 128 = dCode o := by decide +kernel
/-- what is hit has the operation's code -/
theorem hit_code (x o : Nat) (h1 : 1 ≤ o) (h2 : o < 99) (hh : hit x o = true) : dCode o = x % 128 := by
  have hm : x &&& fixedT.getD (formsT.getD o 0) 0 = wordsT.getD o 0 := eq_of_beq hh
  have hl := words_low o h2 h1
  rw [← hm] at hl
  rw [show (128 : Nat) = 2 ^ 7 from rfl, Nat.and_mod_two_pow] at hl
  rw [show fixedT.getD (formsT.getD o 0) 0 % 2 ^ 7 = 2 ^ 7 - 1 from fixed_low _ (forms_lt o h2) (forms_pos o h2 h1), Nat.and_two_pow_sub_one_eq_mod, Nat.mod_mod] at hl
  exact hl.symm
/-- what the document tells of a word and an operation -/
structure Parts where
  op : Int
  rd : Int
  ra : Int
  rb : Int
  im : Int
  cs : Int
  aq : Bool
  rl : Bool
def Parts.cells (p : Parts) : Array Value := instrC p.op p.rd p.ra p.rb p.im p.cs p.aq p.rl
def partsAt (x o : Nat) : Parts := ⟨(o : Nat), (dP (formsT.getD o 0) 1 128 32 x : Nat), (dP (formsT.getD o 0) 2 32768 32 x : Nat), (dP (formsT.getD o 0) 4 1048576 32 x : Nat), immD (formsT.getD o 0) x, (dP (formsT.getD o 0) 8 1048576 4096 x : Nat), dB (formsT.getD o 0) 67108864 x, dB (formsT.getD o 0) 33554432 x⟩
theorem partsAt_cells (x o : Nat) : (partsAt x o).cells = decC x o := rfl
/-- where a word is hit the document's trial comes out true -/
theorem try_hit (x o : Nat) (hx : x < 4294967296) (h1 : 1 ≤ o) (h2 : o < 99) (hh : hit x o = true) :
    (∀ w, Calls Tryd.prog 11 #[.agg (partsAt x o).cells] w fun e w' => e = .returned (.bool true) ∧ Below w.heap.size w w') ∧ (∀ w, Calls Tryd.prog 13 #[.agg (partsAt x o).cells] w fun e w' => e = .returned (.int .i64 (x : Nat)) ∧ Below w.heap.size w w') := by
  obtain ⟨v, hv⟩ : ∃ v, immD (formsT.getD o 0) x = v := ⟨_, rfl⟩
  obtain ⟨U, hU⟩ : ∃ U : Nat, (U : Int) = v % 18446744073709551616 := ⟨(v % 18446744073709551616).toNat, by omega⟩
  obtain ⟨hr, hb, hs⟩ := worded x o hx h1 h2 hh v hv U hU
  have hpc : (partsAt x o).cells = instrC (o : Nat) (dP (formsT.getD o 0) 1 128 32 x : Nat) (dP (formsT.getD o 0) 2 32768 32 x : Nat) (dP (formsT.getD o 0) 4 1048576 32 x : Nat) v (dP (formsT.getD o 0) 8 1048576 4096 x : Nat) (dB (formsT.getD o 0) 67108864 x) (dB (formsT.getD o 0) 33554432 x) := by rw [← hv]; rfl
  rw [hpc]
  generalize dP (formsT.getD o 0) 1 128 32 x = a at *
  generalize dP (formsT.getD o 0) 2 32768 32 x = b at *
  generalize dP (formsT.getD o 0) 4 1048576 32 x = c at *
  generalize dP (formsT.getD o 0) 8 1048576 4096 x = d at *
  generalize dB (formsT.getD o 0) 67108864 x = aq at *
  generalize dB (formsT.getD o 0) 33554432 x = rl at *
  refine ⟨fun w => ?_, fun w => ?_⟩
  · have := dright_any (o : Nat) (a : Nat) (b : Nat) (c : Nat) v (d : Nat) aq rl w
    rw [hr] at this
    exact this
  · obtain ⟨o', a', b', c', d', e1, e2, e3, e4, e5, g1, g2, gf, gz, gl, gp, gi⟩ := right_nat hr
    obtain rfl : o' = o := by omega
    obtain rfl : a' = a := by omega
    obtain rfl : b' = b := by omega
    obtain rfl : c' = c := by omega
    obtain rfl : d' = d := by omega
    have := dword_any o' a' b' c' d' v aq rl U hU g1 g2 gp gi w
    rw [hs] at this
    exact this
/-- where it is not, it comes out false -/
theorem try_no (x o : Nat) (hx : x < 4294967296) (h1 : 1 ≤ o) (h2 : o < 99) (hh : hit x o = false) :
    (∀ w, Calls Tryd.prog 11 #[.agg (partsAt x o).cells] w fun e w' => e = .returned (.bool false) ∧ Below w.heap.size w w') ∨ (∀ w, Calls Tryd.prog 11 #[.agg (partsAt x o).cells] w fun e w' => e = .returned (.bool true) ∧ Below w.heap.size w w') ∧ ∃ y : Nat, y ≠ x ∧ y < 4294967296 ∧ ∀ w, Calls Tryd.prog 13 #[.agg (partsAt x o).cells] w fun e w' => e = .returned (.int .i64 (y : Nat)) ∧ Below w.heap.size w w' := by
  obtain ⟨v, hv⟩ : ∃ v, immD (formsT.getD o 0) x = v := ⟨_, rfl⟩
  obtain ⟨U, hU⟩ : ∃ U : Nat, (U : Int) = v % 18446744073709551616 := ⟨(v % 18446744073709551616).toNat, by omega⟩
  have hpc : (partsAt x o).cells = instrC (o : Nat) (dP (formsT.getD o 0) 1 128 32 x : Nat) (dP (formsT.getD o 0) 2 32768 32 x : Nat) (dP (formsT.getD o 0) 4 1048576 32 x : Nat) v (dP (formsT.getD o 0) 8 1048576 4096 x : Nat) (dB (formsT.getD o 0) 67108864 x) (dB (formsT.getD o 0) 33554432 x) := by rw [← hv]; rfl
  rw [hpc]
  generalize dP (formsT.getD o 0) 1 128 32 x = a at *
  generalize dP (formsT.getD o 0) 2 32768 32 x = b at *
  generalize dP (formsT.getD o 0) 4 1048576 32 x = c at *
  generalize dP (formsT.getD o 0) 8 1048576 4096 x = d at *
  generalize dB (formsT.getD o 0) 67108864 x = aq at *
  generalize dB (formsT.getD o 0) 33554432 x = rl at *
  have hD := fun w => dright_any (o : Nat) (a : Nat) (b : Nat) (c : Nat) v (d : Nat) aq rl w
  cases hr : rightB (o : Nat) (a : Nat) (b : Nat) (c : Nat) v (d : Nat) aq rl
  · rw [hr] at hD
    exact .inl hD
  · rw [hr] at hD
    obtain ⟨o', a', b', c', d', e1, e2, e3, e4, e5, g1, g2, gf, gz, gl, gp, gi⟩ := right_nat hr
    obtain rfl : o' = o := by omega
    obtain rfl : a' = a := by omega
    obtain rfl : b' = b := by omega
    obtain rfl : c' = c := by omega
    obtain rfl : d' = d := by omega
    obtain ⟨r0, r1, r2⟩ := decoded o' a' b' c' d' v aq rl U hU g1 g2 gp gi
    refine .inr ⟨hD, encS o' a' b' c' d' aq rl U, fun he => ?_, r0, fun w => dword_any o' a' b' c' d' v aq rl U hU g1 g2 gp gi w⟩
    rw [he, hh] at r1
    cases r1
theorem dP_yes (f p k m x : Nat) (h : ¬ (partsT.getD f 0 &&& p = 0)) : dP f p k m x = x / k % m := by unfold dP; rw [if_neg h]
theorem dP_no (f p k m x : Nat) (h : partsT.getD f 0 &&& p = 0) : dP f p k m x = 0 := by unfold dP; rw [if_pos h]
theorem dB_no (f k x : Nat) (h : partsT.getD f 0 &&& 16 = 0) : dB f k x = false := by unfold dB; rw [decide_eq_false (by simpa using h)]; rfl
theorem dB_yes (f k x : Nat) (h : ¬ (partsT.getD f 0 &&& 16 = 0)) : dB f k x = (x / k % 2 == 1) := by unfold dB; rw [decide_eq_true h]; rfl
theorem instr_eq {o a a' b b' c c' v d d' : Int} {q q' r r' : Bool} (h1 : a = a') (h2 : b = b') (h3 : c = c') (h4 : d = d') (h5 : q = q') (h6 : r = r') : instrC o a b c v d q r = instrC o a' b' c' v d' q' r' := by subst h1 h2 h3 h4 h5 h6; rfl
theorem gets (x : Nat) : getI x 7 5 = x / 128 % 32 ∧ getI x 15 5 = x / 32768 % 32 ∧ getI x 20 5 = x / 1048576 % 32 ∧ getI x 20 12 = x / 1048576 % 4096 ∧ getI x 26 1 = x / 67108864 % 2 ∧ getI x 25 1 = x / 33554432 % 2 := ⟨rfl, rfl, rfl, rfl, rfl, rfl⟩
theorem zero_cast {n : Nat} (h : n = 0) : (0 : Int) = (n : Int) := by rw [h]; rfl
theorem beq_one (n : Nat) : ((n : Int) == 1) = (n == 1) := by rw [Bool.eq_iff_iff]; simp; omega
theorem cast_eq {a b : Nat} (h : a = b) : (a : Int) = (b : Int) := by rw [h]
theorem guess_any (o x : Nat) (hx : x < 4294967296) (h1 : 1 ≤ o) (h2 : o < 99) (w : World) :
    Calls Tryd.prog 41 #[.int .i64 (o : Nat), .int .u64 (x : Int)] w fun e w' => e = .returned (.agg (partsAt x o).cells) ∧ Below w.heap.size w w' := by
  have hf := forms_lt o h2
  have hz := forms_pos o h2 h1
  have hO := fun w => of_op o h1 h2 w
  have hrf := rows_forms o h2 h1
  unfold Parts.cells partsAt
  simp only
  generalize formsT.getD o 0 = f at *
  obtain ⟨g0, g1, g2, g3, g4, g5⟩ := gets x
  have hcs : f = 1 ∨ f = 2 ∨ f = 3 ∨ f = 4 ∨ f = 5 ∨ f = 6 ∨ f = 7 ∨ f = 8 ∨ f = 9 ∨ f = 10 ∨ f = 11 ∨ f = 12 ∨ f = 13 ∨ f = 14 ∨ f = 15 ∨ f = 16 := by omega
  rcases hcs with rfl | rfl | rfl | rfl | rfl | rfl | rfl | rfl | rfl | rfl | rfl | rfl | rfl | rfl | rfl | rfl
  · rw [show dForm o = 1 from hrf] at hO
    refine (guess_1 o x hx (immD 1 x) (dName (o - 1)) (dCode o : Nat) (dF3 o : Nat) (dF7 o : Nat) _ _ _ _ _ _ _ rfl rfl rfl rfl rfl rfl rfl w hO (fun w => back_1 x hx w)).mono ?_
    rintro e w' ⟨rfl, hb⟩
    exact ⟨congrArg (fun c => Ending.returned (.agg c)) (instr_eq (cast_eq (g0.trans (dP_yes 1 1 128 32 x (by decide)).symm)) (zero_cast (dP_no 1 2 32768 32 x (by decide))) (zero_cast (dP_no 1 4 1048576 32 x (by decide))) (zero_cast (dP_no 1 8 1048576 4096 x (by decide))) ((dB_no 1 _ x (by decide)).symm) ((dB_no 1 _ x (by decide)).symm)), hb⟩
  · rw [show dForm o = 2 from hrf] at hO
    refine (guess_2 o x hx (immD 2 x) (dName (o - 1)) (dCode o : Nat) (dF3 o : Nat) (dF7 o : Nat) _ _ _ _ _ _ _ rfl rfl rfl rfl rfl rfl rfl w hO (fun w => back_2 x hx w)).mono ?_
    rintro e w' ⟨rfl, hb⟩
    exact ⟨congrArg (fun c => Ending.returned (.agg c)) (instr_eq (cast_eq (g0.trans (dP_yes 2 1 128 32 x (by decide)).symm)) (zero_cast (dP_no 2 2 32768 32 x (by decide))) (zero_cast (dP_no 2 4 1048576 32 x (by decide))) (zero_cast (dP_no 2 8 1048576 4096 x (by decide))) ((dB_no 2 _ x (by decide)).symm) ((dB_no 2 _ x (by decide)).symm)), hb⟩
  · rw [show dForm o = 3 from hrf] at hO
    refine (guess_3 o x hx (immD 3 x) (dName (o - 1)) (dCode o : Nat) (dF3 o : Nat) (dF7 o : Nat) _ _ _ _ _ _ _ rfl rfl rfl rfl rfl rfl rfl w hO (fun w => back_3 x hx w)).mono ?_
    rintro e w' ⟨rfl, hb⟩
    exact ⟨congrArg (fun c => Ending.returned (.agg c)) (instr_eq (cast_eq (g0.trans (dP_yes 3 1 128 32 x (by decide)).symm)) (cast_eq (g1.trans (dP_yes 3 2 32768 32 x (by decide)).symm)) (zero_cast (dP_no 3 4 1048576 32 x (by decide))) (zero_cast (dP_no 3 8 1048576 4096 x (by decide))) ((dB_no 3 _ x (by decide)).symm) ((dB_no 3 _ x (by decide)).symm)), hb⟩
  · rw [show dForm o = 5 from hrf] at hO
    refine (guess_5 o x hx (immD 4 x) (dName (o - 1)) (dCode o : Nat) (dF3 o : Nat) (dF7 o : Nat) _ _ _ _ _ _ _ rfl rfl rfl rfl rfl rfl rfl w hO (fun w => back_5 x hx w)).mono ?_
    rintro e w' ⟨rfl, hb⟩
    exact ⟨congrArg (fun c => Ending.returned (.agg c)) (instr_eq (cast_eq (g0.trans (dP_yes 4 1 128 32 x (by decide)).symm)) (cast_eq (g1.trans (dP_yes 4 2 32768 32 x (by decide)).symm)) (zero_cast (dP_no 4 4 1048576 32 x (by decide))) (zero_cast (dP_no 4 8 1048576 4096 x (by decide))) ((dB_no 4 _ x (by decide)).symm) ((dB_no 4 _ x (by decide)).symm)), hb⟩
  · rw [show dForm o = 4 from hrf] at hO
    refine (guess_4 o x hx (immD 5 x) (dName (o - 1)) (dCode o : Nat) (dF3 o : Nat) (dF7 o : Nat) _ _ _ _ _ _ _ rfl rfl rfl rfl rfl rfl rfl w hO (fun w => back_4 x hx w)).mono ?_
    rintro e w' ⟨rfl, hb⟩
    exact ⟨congrArg (fun c => Ending.returned (.agg c)) (instr_eq (zero_cast (dP_no 5 1 128 32 x (by decide))) (cast_eq (g1.trans (dP_yes 5 2 32768 32 x (by decide)).symm)) (cast_eq (g2.trans (dP_yes 5 4 1048576 32 x (by decide)).symm)) (zero_cast (dP_no 5 8 1048576 4096 x (by decide))) ((dB_no 5 _ x (by decide)).symm) ((dB_no 5 _ x (by decide)).symm)), hb⟩
  · rw [show dForm o = 6 from hrf] at hO
    refine (guess_6 o x hx (immD 6 x) (dName (o - 1)) (dCode o : Nat) (dF3 o : Nat) (dF7 o : Nat) _ _ _ _ _ _ _ rfl rfl rfl rfl rfl rfl rfl w hO (fun w => back_6 x hx w)).mono ?_
    rintro e w' ⟨rfl, hb⟩
    exact ⟨congrArg (fun c => Ending.returned (.agg c)) (instr_eq (zero_cast (dP_no 6 1 128 32 x (by decide))) (cast_eq (g1.trans (dP_yes 6 2 32768 32 x (by decide)).symm)) (cast_eq (g2.trans (dP_yes 6 4 1048576 32 x (by decide)).symm)) (zero_cast (dP_no 6 8 1048576 4096 x (by decide))) ((dB_no 6 _ x (by decide)).symm) ((dB_no 6 _ x (by decide)).symm)), hb⟩
  · rw [show dForm o = 7 from hrf] at hO
    refine (guess_7 o x hx (immD 7 x) (dName (o - 1)) (dCode o : Nat) (dF3 o : Nat) (dF7 o : Nat) _ _ _ _ _ _ _ rfl rfl rfl rfl rfl rfl rfl w hO (fun w => back_7 x hx w)).mono ?_
    rintro e w' ⟨rfl, hb⟩
    exact ⟨congrArg (fun c => Ending.returned (.agg c)) (instr_eq (cast_eq (g0.trans (dP_yes 7 1 128 32 x (by decide)).symm)) (cast_eq (g1.trans (dP_yes 7 2 32768 32 x (by decide)).symm)) (zero_cast (dP_no 7 4 1048576 32 x (by decide))) (zero_cast (dP_no 7 8 1048576 4096 x (by decide))) ((dB_no 7 _ x (by decide)).symm) ((dB_no 7 _ x (by decide)).symm)), hb⟩
  · rw [show dForm o = 8 from hrf] at hO
    refine (guess_8 o x hx (immD 8 x) (dName (o - 1)) (dCode o : Nat) (dF3 o : Nat) (dF7 o : Nat) _ _ _ _ _ _ _ rfl rfl rfl rfl rfl rfl rfl w hO (fun w => back_8 x hx w)).mono ?_
    rintro e w' ⟨rfl, hb⟩
    exact ⟨congrArg (fun c => Ending.returned (.agg c)) (instr_eq (cast_eq (g0.trans (dP_yes 8 1 128 32 x (by decide)).symm)) (cast_eq (g1.trans (dP_yes 8 2 32768 32 x (by decide)).symm)) (zero_cast (dP_no 8 4 1048576 32 x (by decide))) (zero_cast (dP_no 8 8 1048576 4096 x (by decide))) ((dB_no 8 _ x (by decide)).symm) ((dB_no 8 _ x (by decide)).symm)), hb⟩
  · rw [show dForm o = 9 from hrf] at hO
    refine (guess_9 o x hx (immD 9 x) (dName (o - 1)) (dCode o : Nat) (dF3 o : Nat) (dF7 o : Nat) _ _ _ _ _ _ _ rfl rfl rfl rfl rfl rfl rfl w hO (fun w => back_9 x hx w)).mono ?_
    rintro e w' ⟨rfl, hb⟩
    exact ⟨congrArg (fun c => Ending.returned (.agg c)) (instr_eq (cast_eq (g0.trans (dP_yes 9 1 128 32 x (by decide)).symm)) (cast_eq (g1.trans (dP_yes 9 2 32768 32 x (by decide)).symm)) (cast_eq (g2.trans (dP_yes 9 4 1048576 32 x (by decide)).symm)) (zero_cast (dP_no 9 8 1048576 4096 x (by decide))) ((dB_no 9 _ x (by decide)).symm) ((dB_no 9 _ x (by decide)).symm)), hb⟩
  · rw [show dForm o = 10 from hrf] at hO
    refine (guess_10 o x hx (immD 10 x) (dName (o - 1)) (dCode o : Nat) (dF3 o : Nat) (dF7 o : Nat) _ _ _ _ _ _ _ rfl rfl rfl rfl rfl rfl rfl w hO (fun w => back_10 x hx w)).mono ?_
    rintro e w' ⟨rfl, hb⟩
    exact ⟨congrArg (fun c => Ending.returned (.agg c)) (instr_eq (cast_eq (g0.trans (dP_yes 10 1 128 32 x (by decide)).symm)) (cast_eq (g1.trans (dP_yes 10 2 32768 32 x (by decide)).symm)) (zero_cast (dP_no 10 4 1048576 32 x (by decide))) (zero_cast (dP_no 10 8 1048576 4096 x (by decide))) ((dB_no 10 _ x (by decide)).symm) ((dB_no 10 _ x (by decide)).symm)), hb⟩
  · rw [show dForm o = 11 from hrf] at hO
    refine (guess_11 o x hx (immD 11 x) (dName (o - 1)) (dCode o : Nat) (dF3 o : Nat) (dF7 o : Nat) _ _ _ _ _ _ _ rfl rfl rfl rfl rfl rfl rfl w hO (fun w => back_11 x hx w)).mono ?_
    rintro e w' ⟨rfl, hb⟩
    exact ⟨congrArg (fun c => Ending.returned (.agg c)) (instr_eq (zero_cast (dP_no 11 1 128 32 x (by decide))) (zero_cast (dP_no 11 2 32768 32 x (by decide))) (zero_cast (dP_no 11 4 1048576 32 x (by decide))) (zero_cast (dP_no 11 8 1048576 4096 x (by decide))) ((dB_no 11 _ x (by decide)).symm) ((dB_no 11 _ x (by decide)).symm)), hb⟩
  · rw [show dForm o = 12 from hrf] at hO
    refine (guess_12 o x hx (immD 12 x) (dName (o - 1)) (dCode o : Nat) (dF3 o : Nat) (dF7 o : Nat) _ _ _ _ _ _ _ rfl rfl rfl rfl rfl rfl rfl w hO (fun w => back_12 x hx w)).mono ?_
    rintro e w' ⟨rfl, hb⟩
    exact ⟨congrArg (fun c => Ending.returned (.agg c)) (instr_eq (cast_eq (g0.trans (dP_yes 12 1 128 32 x (by decide)).symm)) (cast_eq (g1.trans (dP_yes 12 2 32768 32 x (by decide)).symm)) (zero_cast (dP_no 12 4 1048576 32 x (by decide))) (cast_eq (g3.trans (dP_yes 12 8 1048576 4096 x (by decide)).symm)) ((dB_no 12 _ x (by decide)).symm) ((dB_no 12 _ x (by decide)).symm)), hb⟩
  · rw [show dForm o = 13 from hrf] at hO
    refine (guess_13 o x hx (immD 13 x) (dName (o - 1)) (dCode o : Nat) (dF3 o : Nat) (dF7 o : Nat) _ _ _ _ _ _ _ rfl rfl rfl rfl rfl rfl rfl w hO (fun w => back_13 x hx w)).mono ?_
    rintro e w' ⟨rfl, hb⟩
    exact ⟨congrArg (fun c => Ending.returned (.agg c)) (instr_eq (cast_eq (g0.trans (dP_yes 13 1 128 32 x (by decide)).symm)) (zero_cast (dP_no 13 2 32768 32 x (by decide))) (zero_cast (dP_no 13 4 1048576 32 x (by decide))) (cast_eq (g3.trans (dP_yes 13 8 1048576 4096 x (by decide)).symm)) ((dB_no 13 _ x (by decide)).symm) ((dB_no 13 _ x (by decide)).symm)), hb⟩
  · rw [show dForm o = 14 from hrf] at hO
    refine (guess_14 o x hx (immD 14 x) (dName (o - 1)) (dCode o : Nat) (dF3 o : Nat) (dF7 o : Nat) _ _ _ _ _ _ _ rfl rfl rfl rfl rfl rfl rfl w hO (fun w => back_14 x hx w)).mono ?_
    rintro e w' ⟨rfl, hb⟩
    exact ⟨congrArg (fun c => Ending.returned (.agg c)) (instr_eq (cast_eq (g0.trans (dP_yes 14 1 128 32 x (by decide)).symm)) (cast_eq (g1.trans (dP_yes 14 2 32768 32 x (by decide)).symm)) (zero_cast (dP_no 14 4 1048576 32 x (by decide))) (zero_cast (dP_no 14 8 1048576 4096 x (by decide))) ((beq_one _).trans (by rw [dB_yes 14 _ x (by decide), g4])) ((beq_one _).trans (by rw [dB_yes 14 _ x (by decide), g5]))), hb⟩
  · rw [show dForm o = 15 from hrf] at hO
    refine (guess_15 o x hx (immD 15 x) (dName (o - 1)) (dCode o : Nat) (dF3 o : Nat) (dF7 o : Nat) _ _ _ _ _ _ _ rfl rfl rfl rfl rfl rfl rfl w hO (fun w => back_15 x hx w)).mono ?_
    rintro e w' ⟨rfl, hb⟩
    exact ⟨congrArg (fun c => Ending.returned (.agg c)) (instr_eq (cast_eq (g0.trans (dP_yes 15 1 128 32 x (by decide)).symm)) (cast_eq (g1.trans (dP_yes 15 2 32768 32 x (by decide)).symm)) (cast_eq (g2.trans (dP_yes 15 4 1048576 32 x (by decide)).symm)) (zero_cast (dP_no 15 8 1048576 4096 x (by decide))) ((beq_one _).trans (by rw [dB_yes 15 _ x (by decide), g4])) ((beq_one _).trans (by rw [dB_yes 15 _ x (by decide), g5]))), hb⟩
  · rw [show dForm o = 16 from hrf] at hO
    refine (guess_16 o x hx (immD 16 x) (dName (o - 1)) (dCode o : Nat) (dF3 o : Nat) (dF7 o : Nat) _ _ _ _ _ _ _ rfl rfl rfl rfl rfl rfl rfl w hO (fun w => back_16 x hx w)).mono ?_
    rintro e w' ⟨rfl, hb⟩
    exact ⟨congrArg (fun c => Ending.returned (.agg c)) (instr_eq (zero_cast (dP_no 16 1 128 32 x (by decide))) (cast_eq (g1.trans (dP_yes 16 2 32768 32 x (by decide)).symm)) (cast_eq (g2.trans (dP_yes 16 4 1048576 32 x (by decide)).symm)) (zero_cast (dP_no 16 8 1048576 4096 x (by decide))) ((dB_no 16 _ x (by decide)).symm) ((dB_no 16 _ x (by decide)).symm)), hb⟩
end Go.Proofs.YtnedhfdejfjfiaaDoor
