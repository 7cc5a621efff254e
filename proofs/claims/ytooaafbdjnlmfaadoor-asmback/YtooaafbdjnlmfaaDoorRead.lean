/- The calls readReg, readUpper and readCSR of layer 4. -/
import Derived.Test.YtooaafbdjnlmfaaDoorPrint
namespace Go.Proofs.YtooaafbdjnlmfaaDoor
open Go.RowKit
set_option linter.unusedVariables false
set_option linter.unusedSimpArgs false
theorem intN_bounds (s : ByteArray) : -9223372036854775808 ≤ intN s ∧ intN s ≤ 9223372036854775807 := by
  unfold intN
  split <;> split <;> omega
/-- a register's digits -/
def regT (s : ByteArray) : ByteArray := mk (Lib.trimPrefix s.data.toList [120])
theorem trim_len (l p : List UInt8) : (Lib.trimPrefix l p).length ≤ l.length := by
  unfold Lib.trimPrefix; split <;> simp
theorem regT_size (s : ByteArray) : (regT s).size ≤ s.size := by
  unfold regT; rw [mk_size]; exact trim_len _ _
def regOk (s : ByteArray) : Bool := intOk (regT s) && ((mk (regL (intN (regT s)))).toList == s.toList)
set_option maxRecDepth 100000 in
theorem readreg_any (s : ByteArray) (hs : s.size ≤ 1000) (w : World) (ht : TabsLie w) : Calls Tryd.prog 62 #[.string s] w fun e w' => e = .returned (.tuple #[.int .i64 (intN (regT s)), .bool (regOk s)]) ∧ Below w.heap.size w w' := by
  have HT : Hid (Calls Tryd.prog 76 #[.string s, .string ⟨#[120]⟩] w fun e w' => e = .returned (.string (regT s)) ∧ w' = w) := Tryd.strings_TrimPrefix s ⟨#[120]⟩ w
  have hsz := regT_size s
  have HI : Hid (Calls Tryd.prog 63 #[.string (regT s)] w fun e w' => e = .returned (.tuple #[.int .i64 (intN (regT s)), .bool (intOk (regT s))]) ∧ w' = w) := pint_any _ (by omega) w
  have hb := intN_bounds (regT s)
  have HR : Hid (Calls Tryd.prog 52 #[.int .i64 (intN (regT s))] w fun e w' => e = .returned (.string (mk (regL (intN (regT s))))) ∧ Below w.heap.size w w') := reg_any _ hb.1 hb.2 w ht
  have HO : Hid (regOk s = (intOk (regT s) && ((mk (regL (intN (regT s)))).toList == s.toList))) := (rfl : regOk s = _)
  clear ht hsz hb
  generalize regOk s = ok at *
  generalize mk (regL (intN (regT s))) = rs at *
  generalize intN (regT s) = n at *
  generalize hi : intOk (regT s) = io at *
  generalize regT s = t at *
  cases io
  · go_enter Tryd.func62, Tryd.ntmps62
    go_wp2_with (first | (go_at_call 76; (with_reducible refine Calls.mono HT.out ?_); rintro e w9 ⟨rfl, rfl⟩) | (go_at_call 63; (with_reducible refine Calls.mono HI.out ?_); rintro e w9 ⟨rfl, rfl⟩))
    go_ret2
    exact ⟨by rw [HO.out]; rfl, Below.refl _ _⟩
  · go_enter Tryd.func62, Tryd.ntmps62
    go_wp2_with (first | (go_at_call 76; (with_reducible refine Calls.mono HT.out ?_); rintro e w9 ⟨rfl, rfl⟩) | (go_at_call 63; (with_reducible refine Calls.mono HI.out ?_); rintro e w9 ⟨rfl, rfl⟩) | (go_at_call 52; (with_reducible refine Calls.mono HR.out ?_); rintro e w8 ⟨rfl, hb8⟩))
    go_ret2
    exact ⟨by rw [HO.out]; rfl, hb8⟩
def upN (s : ByteArray) : Int := wrap64 (intN s * 4096)
def upOk (s : ByteArray) : Bool := intOk s && (wrap64 ((upN s).tdiv 4096) == intN s)
set_option maxRecDepth 100000 in
theorem readupper_any (s : ByteArray) (hs : s.size ≤ 1000) (w : World) : Calls Tryd.prog 64 #[.string s] w fun e w' => e = .returned (.tuple #[.int .i64 (upN s), .bool (upOk s)]) ∧ Below w.heap.size w w' := by
  have HI : Hid (Calls Tryd.prog 63 #[.string s] w fun e w' => e = .returned (.tuple #[.int .i64 (intN s), .bool (intOk s)]) ∧ w' = w) := pint_any _ (by omega) w
  have HO : Hid (upOk s = (intOk s && (wrap64 ((upN s).tdiv 4096) == intN s))) := (rfl : upOk s = _)
  have HU : Hid (upN s = wrap64 (intN s * 4096)) := (rfl : upN s = _)
  generalize upOk s = ok at *
  generalize intN s = n at *
  generalize hi : intOk s = io at *
  cases io
  · go_enter Tryd.func64, Tryd.ntmps64
    go_wp2_with (first | (go_at_call 63; (with_reducible refine Calls.mono HI.out ?_); rintro e w9 ⟨rfl, rfl⟩))
    go_ret2
    exact ⟨by rw [HO.out, HU.out]; rfl, Below.refl _ _⟩
  · go_enter Tryd.func64, Tryd.ntmps64
    go_wp2_with (first | (go_at_call 63; (with_reducible refine Calls.mono HI.out ?_); rintro e w9 ⟨rfl, rfl⟩))
    go_ret2
    exact ⟨by rw [HO.out, HU.out]; rfl, Below.refl _ _⟩
set_option maxRecDepth 100000 in
theorem readcsr_any (s : ByteArray) (hs : s.size ≤ 1000) (w : World) : Calls Tryd.prog 65 #[.string s] w fun e w' => e = .returned (.tuple #[.int .i64 (intN s), .bool (intOk s)]) ∧ Below w.heap.size w w' := by
  have HI : Hid (Calls Tryd.prog 63 #[.string s] w fun e w' => e = .returned (.tuple #[.int .i64 (intN s), .bool (intOk s)]) ∧ w' = w) := pint_any _ (by omega) w
  generalize intN s = n at *
  generalize hi : intOk s = io at *
  cases io <;>
  (go_enter Tryd.func65, Tryd.ntmps65
   go_wp2_with (first | (go_at_call 63; (with_reducible refine Calls.mono HI.out ?_); rintro e w9 ⟨rfl, rfl⟩))
   go_ret2
   refine ⟨?_, Below.refl _ _⟩
   first | rfl | simp)
end Go.Proofs.YtooaafbdjnlmfaaDoor
