/- The calls Do, Taken and Extend of layer 5 at any operation. -/
import Derived.Test.YtgaihgniommhiaaTake
namespace Go.Proofs.Ytgaihgniommhiaa
open Go.RowKit
set_option linter.unusedVariables false
def doV (op : Int) (a b : Nat) : Nat :=
  if op = 31 ∨ op = 22 then (a + b) % 18446744073709551616 else
  if op = 32 then (a + 18446744073709551616 - b) % 18446744073709551616 else
  if op = 33 ∨ op = 28 then a * 2 ^ (b % 64) % 18446744073709551616 else
  if op = 37 ∨ op = 29 then a / 2 ^ (b % 64) else
  if op = 38 ∨ op = 30 then sraN a (b % 64) else
  if op = 34 ∨ op = 23 then flagN (decide (numI a < numI b)) else
  if op = 35 ∨ op = 24 then flagN (decide (a < b)) else
  if op = 36 ∨ op = 25 then a ^^^ b else
  if op = 39 ∨ op = 26 then a ||| b else
  if op = 40 ∨ op = 27 then a &&& b else
  if op = 45 ∨ op = 41 then sextA (((a % 4294967296) + (b % 4294967296)) % 4294967296) 32 else
  if op = 46 then sextA (((a % 4294967296) + 4294967296 - (b % 4294967296)) % 4294967296) 32 else
  if op = 47 ∨ op = 42 then sextA ((a % 4294967296) * 2 ^ ((b % 4294967296) % 32) % 4294967296) 32 else
  if op = 48 ∨ op = 43 then sextA ((a % 4294967296) / 2 ^ ((b % 4294967296) % 32)) 32 else
  if op = 49 ∨ op = 44 then sextA (sra32N (a % 4294967296) ((b % 4294967296) % 32)) 32 else
  0
theorem doV_31 (a b : Nat) : doV 31 a b = ((a + b) % 18446744073709551616) := by unfold doV; rw [if_pos (by decide)]
theorem doV_22 (a b : Nat) : doV 22 a b = ((a + b) % 18446744073709551616) := by unfold doV; rw [if_pos (by decide)]
theorem doV_32 (a b : Nat) : doV 32 a b = ((a + 18446744073709551616 - b) % 18446744073709551616) := by unfold doV; rw [if_neg (by decide), if_pos (by decide)]
theorem doV_33 (a b : Nat) : doV 33 a b = (a * 2 ^ (b % 64) % 18446744073709551616) := by unfold doV; rw [if_neg (by decide), if_neg (by decide), if_pos (by decide)]
theorem doV_28 (a b : Nat) : doV 28 a b = (a * 2 ^ (b % 64) % 18446744073709551616) := by unfold doV; rw [if_neg (by decide), if_neg (by decide), if_pos (by decide)]
theorem doV_37 (a b : Nat) : doV 37 a b = (a / 2 ^ (b % 64)) := by unfold doV; rw [if_neg (by decide), if_neg (by decide), if_neg (by decide), if_pos (by decide)]
theorem doV_29 (a b : Nat) : doV 29 a b = (a / 2 ^ (b % 64)) := by unfold doV; rw [if_neg (by decide), if_neg (by decide), if_neg (by decide), if_pos (by decide)]
theorem doV_38 (a b : Nat) : doV 38 a b = (sraN a (b % 64)) := by unfold doV; rw [if_neg (by decide), if_neg (by decide), if_neg (by decide), if_neg (by decide), if_pos (by decide)]
theorem doV_30 (a b : Nat) : doV 30 a b = (sraN a (b % 64)) := by unfold doV; rw [if_neg (by decide), if_neg (by decide), if_neg (by decide), if_neg (by decide), if_pos (by decide)]
theorem doV_34 (a b : Nat) : doV 34 a b = (flagN (decide (numI a < numI b))) := by unfold doV; rw [if_neg (by decide), if_neg (by decide), if_neg (by decide), if_neg (by decide), if_neg (by decide), if_pos (by decide)]
theorem doV_23 (a b : Nat) : doV 23 a b = (flagN (decide (numI a < numI b))) := by unfold doV; rw [if_neg (by decide), if_neg (by decide), if_neg (by decide), if_neg (by decide), if_neg (by decide), if_pos (by decide)]
theorem doV_35 (a b : Nat) : doV 35 a b = (flagN (decide (a < b))) := by unfold doV; rw [if_neg (by decide), if_neg (by decide), if_neg (by decide), if_neg (by decide), if_neg (by decide), if_neg (by decide), if_pos (by decide)]
theorem doV_24 (a b : Nat) : doV 24 a b = (flagN (decide (a < b))) := by unfold doV; rw [if_neg (by decide), if_neg (by decide), if_neg (by decide), if_neg (by decide), if_neg (by decide), if_neg (by decide), if_pos (by decide)]
theorem doV_36 (a b : Nat) : doV 36 a b = (a ^^^ b) := by unfold doV; rw [if_neg (by decide), if_neg (by decide), if_neg (by decide), if_neg (by decide), if_neg (by decide), if_neg (by decide), if_neg (by decide), if_pos (by decide)]
theorem doV_25 (a b : Nat) : doV 25 a b = (a ^^^ b) := by unfold doV; rw [if_neg (by decide), if_neg (by decide), if_neg (by decide), if_neg (by decide), if_neg (by decide), if_neg (by decide), if_neg (by decide), if_pos (by decide)]
theorem doV_39 (a b : Nat) : doV 39 a b = (a ||| b) := by unfold doV; rw [if_neg (by decide), if_neg (by decide), if_neg (by decide), if_neg (by decide), if_neg (by decide), if_neg (by decide), if_neg (by decide), if_neg (by decide), if_pos (by decide)]
theorem doV_26 (a b : Nat) : doV 26 a b = (a ||| b) := by unfold doV; rw [if_neg (by decide), if_neg (by decide), if_neg (by decide), if_neg (by decide), if_neg (by decide), if_neg (by decide), if_neg (by decide), if_neg (by decide), if_pos (by decide)]
theorem doV_40 (a b : Nat) : doV 40 a b = (a &&& b) := by unfold doV; rw [if_neg (by decide), if_neg (by decide), if_neg (by decide), if_neg (by decide), if_neg (by decide), if_neg (by decide), if_neg (by decide), if_neg (by decide), if_neg (by decide), if_pos (by decide)]
theorem doV_27 (a b : Nat) : doV 27 a b = (a &&& b) := by unfold doV; rw [if_neg (by decide), if_neg (by decide), if_neg (by decide), if_neg (by decide), if_neg (by decide), if_neg (by decide), if_neg (by decide), if_neg (by decide), if_neg (by decide), if_pos (by decide)]
theorem doV_45 (a b : Nat) : doV 45 a b = (sextA (((a % 4294967296) + (b % 4294967296)) % 4294967296) 32) := by unfold doV; rw [if_neg (by decide), if_neg (by decide), if_neg (by decide), if_neg (by decide), if_neg (by decide), if_neg (by decide), if_neg (by decide), if_neg (by decide), if_neg (by decide), if_neg (by decide), if_pos (by decide)]
theorem doV_41 (a b : Nat) : doV 41 a b = (sextA (((a % 4294967296) + (b % 4294967296)) % 4294967296) 32) := by unfold doV; rw [if_neg (by decide), if_neg (by decide), if_neg (by decide), if_neg (by decide), if_neg (by decide), if_neg (by decide), if_neg (by decide), if_neg (by decide), if_neg (by decide), if_neg (by decide), if_pos (by decide)]
theorem doV_46 (a b : Nat) : doV 46 a b = (sextA (((a % 4294967296) + 4294967296 - (b % 4294967296)) % 4294967296) 32) := by unfold doV; rw [if_neg (by decide), if_neg (by decide), if_neg (by decide), if_neg (by decide), if_neg (by decide), if_neg (by decide), if_neg (by decide), if_neg (by decide), if_neg (by decide), if_neg (by decide), if_neg (by decide), if_pos (by decide)]
theorem doV_47 (a b : Nat) : doV 47 a b = (sextA ((a % 4294967296) * 2 ^ ((b % 4294967296) % 32) % 4294967296) 32) := by unfold doV; rw [if_neg (by decide), if_neg (by decide), if_neg (by decide), if_neg (by decide), if_neg (by decide), if_neg (by decide), if_neg (by decide), if_neg (by decide), if_neg (by decide), if_neg (by decide), if_neg (by decide), if_neg (by decide), if_pos (by decide)]
theorem doV_42 (a b : Nat) : doV 42 a b = (sextA ((a % 4294967296) * 2 ^ ((b % 4294967296) % 32) % 4294967296) 32) := by unfold doV; rw [if_neg (by decide), if_neg (by decide), if_neg (by decide), if_neg (by decide), if_neg (by decide), if_neg (by decide), if_neg (by decide), if_neg (by decide), if_neg (by decide), if_neg (by decide), if_neg (by decide), if_neg (by decide), if_pos (by decide)]
theorem doV_48 (a b : Nat) : doV 48 a b = (sextA ((a % 4294967296) / 2 ^ ((b % 4294967296) % 32)) 32) := by unfold doV; rw [if_neg (by decide), if_neg (by decide), if_neg (by decide), if_neg (by decide), if_neg (by decide), if_neg (by decide), if_neg (by decide), if_neg (by decide), if_neg (by decide), if_neg (by decide), if_neg (by decide), if_neg (by decide), if_neg (by decide), if_pos (by decide)]
theorem doV_43 (a b : Nat) : doV 43 a b = (sextA ((a % 4294967296) / 2 ^ ((b % 4294967296) % 32)) 32) := by unfold doV; rw [if_neg (by decide), if_neg (by decide), if_neg (by decide), if_neg (by decide), if_neg (by decide), if_neg (by decide), if_neg (by decide), if_neg (by decide), if_neg (by decide), if_neg (by decide), if_neg (by decide), if_neg (by decide), if_neg (by decide), if_pos (by decide)]
theorem doV_49 (a b : Nat) : doV 49 a b = (sextA (sra32N (a % 4294967296) ((b % 4294967296) % 32)) 32) := by unfold doV; rw [if_neg (by decide), if_neg (by decide), if_neg (by decide), if_neg (by decide), if_neg (by decide), if_neg (by decide), if_neg (by decide), if_neg (by decide), if_neg (by decide), if_neg (by decide), if_neg (by decide), if_neg (by decide), if_neg (by decide), if_neg (by decide), if_pos (by decide)]
theorem doV_44 (a b : Nat) : doV 44 a b = (sextA (sra32N (a % 4294967296) ((b % 4294967296) % 32)) 32) := by unfold doV; rw [if_neg (by decide), if_neg (by decide), if_neg (by decide), if_neg (by decide), if_neg (by decide), if_neg (by decide), if_neg (by decide), if_neg (by decide), if_neg (by decide), if_neg (by decide), if_neg (by decide), if_neg (by decide), if_neg (by decide), if_neg (by decide), if_pos (by decide)]
theorem doV_no (op : Int) (h31 : ¬ op = 31) (h22 : ¬ op = 22) (h32 : ¬ op = 32) (h33 : ¬ op = 33) (h28 : ¬ op = 28) (h37 : ¬ op = 37) (h29 : ¬ op = 29) (h38 : ¬ op = 38) (h30 : ¬ op = 30) (h34 : ¬ op = 34) (h23 : ¬ op = 23) (h35 : ¬ op = 35) (h24 : ¬ op = 24) (h36 : ¬ op = 36) (h25 : ¬ op = 25) (h39 : ¬ op = 39) (h26 : ¬ op = 26) (h40 : ¬ op = 40) (h27 : ¬ op = 27) (h45 : ¬ op = 45) (h41 : ¬ op = 41) (h46 : ¬ op = 46) (h47 : ¬ op = 47) (h42 : ¬ op = 42) (h48 : ¬ op = 48) (h43 : ¬ op = 43) (h49 : ¬ op = 49) (h44 : ¬ op = 44) (a b : Nat) : doV op a b = (0) := by unfold doV; rw [if_neg (by omega), if_neg (by omega), if_neg (by omega), if_neg (by omega), if_neg (by omega), if_neg (by omega), if_neg (by omega), if_neg (by omega), if_neg (by omega), if_neg (by omega), if_neg (by omega), if_neg (by omega), if_neg (by omega), if_neg (by omega), if_neg (by omega)]
def doOk (op : Int)  : Bool :=
  if op = 31 ∨ op = 22 ∨ op = 32 ∨ op = 33 ∨ op = 28 ∨ op = 37 ∨ op = 29 ∨ op = 38 ∨ op = 30 ∨ op = 34 ∨ op = 23 ∨ op = 35 ∨ op = 24 ∨ op = 36 ∨ op = 25 ∨ op = 39 ∨ op = 26 ∨ op = 40 ∨ op = 27 ∨ op = 45 ∨ op = 41 ∨ op = 46 ∨ op = 47 ∨ op = 42 ∨ op = 48 ∨ op = 43 ∨ op = 49 ∨ op = 44 then true else
  false
theorem doOk_31  : doOk 31  = (true) := by unfold doOk; rw [if_pos (by decide)]
theorem doOk_22  : doOk 22  = (true) := by unfold doOk; rw [if_pos (by decide)]
theorem doOk_32  : doOk 32  = (true) := by unfold doOk; rw [if_pos (by decide)]
theorem doOk_33  : doOk 33  = (true) := by unfold doOk; rw [if_pos (by decide)]
theorem doOk_28  : doOk 28  = (true) := by unfold doOk; rw [if_pos (by decide)]
theorem doOk_37  : doOk 37  = (true) := by unfold doOk; rw [if_pos (by decide)]
theorem doOk_29  : doOk 29  = (true) := by unfold doOk; rw [if_pos (by decide)]
theorem doOk_38  : doOk 38  = (true) := by unfold doOk; rw [if_pos (by decide)]
theorem doOk_30  : doOk 30  = (true) := by unfold doOk; rw [if_pos (by decide)]
theorem doOk_34  : doOk 34  = (true) := by unfold doOk; rw [if_pos (by decide)]
theorem doOk_23  : doOk 23  = (true) := by unfold doOk; rw [if_pos (by decide)]
theorem doOk_35  : doOk 35  = (true) := by unfold doOk; rw [if_pos (by decide)]
theorem doOk_24  : doOk 24  = (true) := by unfold doOk; rw [if_pos (by decide)]
theorem doOk_36  : doOk 36  = (true) := by unfold doOk; rw [if_pos (by decide)]
theorem doOk_25  : doOk 25  = (true) := by unfold doOk; rw [if_pos (by decide)]
theorem doOk_39  : doOk 39  = (true) := by unfold doOk; rw [if_pos (by decide)]
theorem doOk_26  : doOk 26  = (true) := by unfold doOk; rw [if_pos (by decide)]
theorem doOk_40  : doOk 40  = (true) := by unfold doOk; rw [if_pos (by decide)]
theorem doOk_27  : doOk 27  = (true) := by unfold doOk; rw [if_pos (by decide)]
theorem doOk_45  : doOk 45  = (true) := by unfold doOk; rw [if_pos (by decide)]
theorem doOk_41  : doOk 41  = (true) := by unfold doOk; rw [if_pos (by decide)]
theorem doOk_46  : doOk 46  = (true) := by unfold doOk; rw [if_pos (by decide)]
theorem doOk_47  : doOk 47  = (true) := by unfold doOk; rw [if_pos (by decide)]
theorem doOk_42  : doOk 42  = (true) := by unfold doOk; rw [if_pos (by decide)]
theorem doOk_48  : doOk 48  = (true) := by unfold doOk; rw [if_pos (by decide)]
theorem doOk_43  : doOk 43  = (true) := by unfold doOk; rw [if_pos (by decide)]
theorem doOk_49  : doOk 49  = (true) := by unfold doOk; rw [if_pos (by decide)]
theorem doOk_44  : doOk 44  = (true) := by unfold doOk; rw [if_pos (by decide)]
theorem doOk_no (op : Int) (h31 : ¬ op = 31) (h22 : ¬ op = 22) (h32 : ¬ op = 32) (h33 : ¬ op = 33) (h28 : ¬ op = 28) (h37 : ¬ op = 37) (h29 : ¬ op = 29) (h38 : ¬ op = 38) (h30 : ¬ op = 30) (h34 : ¬ op = 34) (h23 : ¬ op = 23) (h35 : ¬ op = 35) (h24 : ¬ op = 24) (h36 : ¬ op = 36) (h25 : ¬ op = 25) (h39 : ¬ op = 39) (h26 : ¬ op = 26) (h40 : ¬ op = 40) (h27 : ¬ op = 27) (h45 : ¬ op = 45) (h41 : ¬ op = 41) (h46 : ¬ op = 46) (h47 : ¬ op = 47) (h42 : ¬ op = 42) (h48 : ¬ op = 48) (h43 : ¬ op = 43) (h49 : ¬ op = 49) (h44 : ¬ op = 44)  : doOk op  = (false) := by unfold doOk; rw [if_neg (by omega)]
def takB (op : Int) (a b : Nat) : Bool :=
  if op = 5 then decide (a = b) else
  if op = 6 then !decide (a = b) else
  if op = 7 then decide (numI a < numI b) else
  if op = 8 then !decide (numI a < numI b) else
  if op = 9 then decide (a < b) else
  if op = 10 then !decide (a < b) else
  false
theorem takB_5 (a b : Nat) : takB 5 a b = (decide (a = b)) := by unfold takB; rw [if_pos (by decide)]
theorem takB_6 (a b : Nat) : takB 6 a b = (!decide (a = b)) := by unfold takB; rw [if_neg (by decide), if_pos (by decide)]
theorem takB_7 (a b : Nat) : takB 7 a b = (decide (numI a < numI b)) := by unfold takB; rw [if_neg (by decide), if_neg (by decide), if_pos (by decide)]
theorem takB_8 (a b : Nat) : takB 8 a b = (!decide (numI a < numI b)) := by unfold takB; rw [if_neg (by decide), if_neg (by decide), if_neg (by decide), if_pos (by decide)]
theorem takB_9 (a b : Nat) : takB 9 a b = (decide (a < b)) := by unfold takB; rw [if_neg (by decide), if_neg (by decide), if_neg (by decide), if_neg (by decide), if_pos (by decide)]
theorem takB_10 (a b : Nat) : takB 10 a b = (!decide (a < b)) := by unfold takB; rw [if_neg (by decide), if_neg (by decide), if_neg (by decide), if_neg (by decide), if_neg (by decide), if_pos (by decide)]
theorem takB_no (op : Int) (h5 : ¬ op = 5) (h6 : ¬ op = 6) (h7 : ¬ op = 7) (h8 : ¬ op = 8) (h9 : ¬ op = 9) (h10 : ¬ op = 10) (a b : Nat) : takB op a b = (false) := by unfold takB; rw [if_neg (by omega), if_neg (by omega), if_neg (by omega), if_neg (by omega), if_neg (by omega), if_neg (by omega)]
def extV (op : Int) (a : Nat) : Nat :=
  if op = 11 then sextA a 8 else
  if op = 12 then sextA a 16 else
  if op = 13 then sextA a 32 else
  if op = 15 then a % 2 ^ 8 else
  if op = 16 then a % 2 ^ 16 else
  if op = 17 then a % 2 ^ 32 else
  a
theorem extV_11 (a : Nat) : extV 11 a = (sextA a 8) := by unfold extV; rw [if_pos (by decide)]
theorem extV_12 (a : Nat) : extV 12 a = (sextA a 16) := by unfold extV; rw [if_neg (by decide), if_pos (by decide)]
theorem extV_13 (a : Nat) : extV 13 a = (sextA a 32) := by unfold extV; rw [if_neg (by decide), if_neg (by decide), if_pos (by decide)]
theorem extV_15 (a : Nat) : extV 15 a = (a % 2 ^ 8) := by unfold extV; rw [if_neg (by decide), if_neg (by decide), if_neg (by decide), if_pos (by decide)]
theorem extV_16 (a : Nat) : extV 16 a = (a % 2 ^ 16) := by unfold extV; rw [if_neg (by decide), if_neg (by decide), if_neg (by decide), if_neg (by decide), if_pos (by decide)]
theorem extV_17 (a : Nat) : extV 17 a = (a % 2 ^ 32) := by unfold extV; rw [if_neg (by decide), if_neg (by decide), if_neg (by decide), if_neg (by decide), if_neg (by decide), if_pos (by decide)]
theorem extV_no (op : Int) (h11 : ¬ op = 11) (h12 : ¬ op = 12) (h13 : ¬ op = 13) (h15 : ¬ op = 15) (h16 : ¬ op = 16) (h17 : ¬ op = 17) (a : Nat) : extV op a = (a) := by unfold extV; rw [if_neg (by omega), if_neg (by omega), if_neg (by omega), if_neg (by omega), if_neg (by omega), if_neg (by omega)]
theorem do_any (op : Int) (a b : Nat) (ha : a < 18446744073709551616) (hb : b < 18446744073709551616) (w : World) : Calls Try.prog 10 #[.int .i64 op, .int .u64 (a : Int), .int .u64 (b : Int)] w fun e w' => e = .returned (.tuple #[.int .u64 ((doV op a b : Nat) : Int), .bool (doOk op)]) ∧ w' = w := by
  by_cases h31 : op = 31
  · subst h31
    rw [doV_31, doOk_31]; exact do_31 a b ha hb w
  by_cases h22 : op = 22
  · subst h22
    rw [doV_22, doOk_22]; exact do_22 a b ha hb w
  by_cases h32 : op = 32
  · subst h32
    rw [doV_32, doOk_32]; exact do_32 a b ha hb w
  by_cases h33 : op = 33
  · subst h33
    rw [doV_33, doOk_33]; exact do_33 a b ha hb w
  by_cases h28 : op = 28
  · subst h28
    rw [doV_28, doOk_28]; exact do_28 a b ha hb w
  by_cases h37 : op = 37
  · subst h37
    rw [doV_37, doOk_37]; exact do_37 a b ha hb w
  by_cases h29 : op = 29
  · subst h29
    rw [doV_29, doOk_29]; exact do_29 a b ha hb w
  by_cases h38 : op = 38
  · subst h38
    rw [doV_38, doOk_38]; exact do_38 a b ha hb w
  by_cases h30 : op = 30
  · subst h30
    rw [doV_30, doOk_30]; exact do_30 a b ha hb w
  by_cases h34 : op = 34
  · subst h34
    rw [doV_34, doOk_34]; exact do_34 a b ha hb w
  by_cases h23 : op = 23
  · subst h23
    rw [doV_23, doOk_23]; exact do_23 a b ha hb w
  by_cases h35 : op = 35
  · subst h35
    rw [doV_35, doOk_35]; exact do_35 a b ha hb w
  by_cases h24 : op = 24
  · subst h24
    rw [doV_24, doOk_24]; exact do_24 a b ha hb w
  by_cases h36 : op = 36
  · subst h36
    rw [doV_36, doOk_36]; exact do_36 a b ha hb w
  by_cases h25 : op = 25
  · subst h25
    rw [doV_25, doOk_25]; exact do_25 a b ha hb w
  by_cases h39 : op = 39
  · subst h39
    rw [doV_39, doOk_39]; exact do_39 a b ha hb w
  by_cases h26 : op = 26
  · subst h26
    rw [doV_26, doOk_26]; exact do_26 a b ha hb w
  by_cases h40 : op = 40
  · subst h40
    rw [doV_40, doOk_40]; exact do_40 a b ha hb w
  by_cases h27 : op = 27
  · subst h27
    rw [doV_27, doOk_27]; exact do_27 a b ha hb w
  by_cases h45 : op = 45
  · subst h45
    rw [doV_45, doOk_45]; exact do_45 a b ha hb w
  by_cases h41 : op = 41
  · subst h41
    rw [doV_41, doOk_41]; exact do_41 a b ha hb w
  by_cases h46 : op = 46
  · subst h46
    rw [doV_46, doOk_46]; exact do_46 a b ha hb w
  by_cases h47 : op = 47
  · subst h47
    rw [doV_47, doOk_47]; exact do_47 a b ha hb w
  by_cases h42 : op = 42
  · subst h42
    rw [doV_42, doOk_42]; exact do_42 a b ha hb w
  by_cases h48 : op = 48
  · subst h48
    rw [doV_48, doOk_48]; exact do_48 a b ha hb w
  by_cases h43 : op = 43
  · subst h43
    rw [doV_43, doOk_43]; exact do_43 a b ha hb w
  by_cases h49 : op = 49
  · subst h49
    rw [doV_49, doOk_49]; exact do_49 a b ha hb w
  by_cases h44 : op = 44
  · subst h44
    rw [doV_44, doOk_44]; exact do_44 a b ha hb w
  rw [doV_no op h31 h22 h32 h33 h28 h37 h29 h38 h30 h34 h23 h35 h24 h36 h25 h39 h26 h40 h27 h45 h41 h46 h47 h42 h48 h43 h49 h44, doOk_no op h31 h22 h32 h33 h28 h37 h29 h38 h30 h34 h23 h35 h24 h36 h25 h39 h26 h40 h27 h45 h41 h46 h47 h42 h48 h43 h49 h44]; exact do_no op h31 h22 h32 h33 h28 h37 h29 h38 h30 h34 h23 h35 h24 h36 h25 h39 h26 h40 h27 h45 h41 h46 h47 h42 h48 h43 h49 h44 a b ha hb w
theorem taken_any (op : Int) (a b : Nat) (ha : a < 18446744073709551616) (hb : b < 18446744073709551616) (w : World) : Calls Try.prog 12 #[.int .i64 op, .int .u64 (a : Int), .int .u64 (b : Int)] w fun e w' => e = .returned (.bool (takB op a b)) ∧ w' = w := by
  by_cases h5 : op = 5
  · subst h5
    rw [takB_5]; exact taken_5 a b ha hb w
  by_cases h6 : op = 6
  · subst h6
    rw [takB_6]; exact taken_6 a b ha hb w
  by_cases h7 : op = 7
  · subst h7
    rw [takB_7]; exact taken_7 a b ha hb w
  by_cases h8 : op = 8
  · subst h8
    rw [takB_8]; exact taken_8 a b ha hb w
  by_cases h9 : op = 9
  · subst h9
    rw [takB_9]; exact taken_9 a b ha hb w
  by_cases h10 : op = 10
  · subst h10
    rw [takB_10]; exact taken_10 a b ha hb w
  rw [takB_no op h5 h6 h7 h8 h9 h10]; exact taken_no op h5 h6 h7 h8 h9 h10 a b w
theorem ext_any (op : Int) (a : Nat) (ha : a < 18446744073709551616) (W w : World) (hb : Below W.heap.size W w) : Calls Try.prog 14 #[.int .i64 op, .int .u64 (a : Int)] w fun e w' => e = .returned (.int .u64 ((extV op a : Nat) : Int)) ∧ Below W.heap.size W w' := by
  by_cases h11 : op = 11
  · subst h11
    rw [extV_11]; exact ext_11 a ha W w hb
  by_cases h12 : op = 12
  · subst h12
    rw [extV_12]; exact ext_12 a ha W w hb
  by_cases h13 : op = 13
  · subst h13
    rw [extV_13]; exact ext_13 a ha W w hb
  by_cases h15 : op = 15
  · subst h15
    rw [extV_15]; exact ext_15 a ha W w hb
  by_cases h16 : op = 16
  · subst h16
    rw [extV_16]; exact ext_16 a ha W w hb
  by_cases h17 : op = 17
  · subst h17
    rw [extV_17]; exact ext_17 a ha W w hb
  rw [extV_no op h11 h12 h13 h15 h16 h17]; exact ext_no op h11 h12 h13 h15 h16 h17 a ha W w hb
end Go.Proofs.Ytgaihgniommhiaa
