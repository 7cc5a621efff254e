/- The document's calls Reg, Name, numbered and Takes of layer 4. -/
import Derived.Test.YtooaafbdjnlmfaaGreatDoorQPart
import Derived.Test.YtooaafbdjnlmfaaGreatDoorQDocRight
namespace Go.Proofs.YtooaafbdjnlmfaaGreatDoor
open Go.RowKit
set_option linter.unusedVariables false
set_option linter.unusedSimpArgs false
theorem drewN_b (w : World) (n : Nat) : Below w.heap.size w (w.drewN n) := ⟨rfl, rfl, rfl, Nat.le_refl _, fun _ _ => rfl⟩
theorem rdec_b (n : Int) (h0 : -9223372036854775808 ≤ n) (h1 : n ≤ 9223372036854775807) (w : World) : Calls Tryz.prog 34 #[.int .i64 n] w fun e w' => e = .returned (.string (mk (Lib.itoa n))) ∧ Below w.heap.size w w' :=
  (rdec_any n h0 h1 w).mono (by rintro e w' ⟨rfl, m, rfl⟩; exact ⟨by rw [decS_mk], drewN_b w m⟩)
theorem rhex_b (x : Nat) (hx : x < 18446744073709551616) (w : World) : Calls Tryz.prog 22 #[.int .u64 (x : Int)] w fun e w' => e = .returned (.string (mk (hexL x))) ∧ Below w.heap.size w w' :=
  (rhex_any x hx w).mono (by rintro e w' ⟨rfl, m, rfl⟩; exact ⟨by rw [hexS_mk], drewN_b w m⟩)
theorem dreg_any (n : Int) (h0 : -9223372036854775808 ≤ n) (h1 : n ≤ 9223372036854775807) (w : World) :
    Calls Tryz.prog 12 #[.int .i64 n] w fun e w' => e = .returned (.string (mk (regL n))) ∧ Below w.heap.size w w' := by
  have hd : Calls Tryz.prog 34 #[.int .i64 n] w fun e w' => e = .returned (.string (decS n)) ∧ Below w.heap.size w w' := rdec_b n h0 h1 w
  have hs : (decS n).size ≤ 30 := decS_small n h0 h1
  have HM : Hid ((⟨#[120]⟩ : ByteArray) ++ decS n = mk (regL n)) := regL_mk n
  generalize decS n = s at *
  go_enter Tryz.func12, Tryz.ntmps12
  go_wp2_with (go_at_call 34; refine hd.mono ?_; rintro e w' ⟨rfl, hb⟩)
  go_ret
  refine ⟨?_, hb⟩
  rw [← HM.out]
  rfl
/-- what the document's Of tells -/
def OfIs (k : Nat) (s : ByteArray) (g cc f3 f7 : Int) : Prop := ∀ w, Calls Tryz.prog 45 #[.int .i64 (k : Nat)] w fun e w' => e = .returned (.agg #[.string s, .int .i64 g, .int .i64 cc, .int .i64 f3, .int .i64 f7]) ∧ Below w.heap.size w w'
set_option maxRecDepth 100000 in
theorem dname_any (k : Nat) (rd rs1 rs2 imm : Int) (x : Nat) (aq rl : Bool) (s : ByteArray) (g cc f3 f7 : Int) (hs : s.size ≤ 20) (hO : OfIs k s g cc f3 f7) (w : World) : Calls Tryz.prog 31 #[.agg (instrC k rd rs1 rs2 imm x aq rl)] w fun e w' => e = .returned (.string (s ++ mk (markL aq rl))) ∧ Below w.heap.size w w' := by
  have B : Hid (Below w.heap.size w (w.alloc (.cells (instrC k rd rs1 rs2 imm x aq rl) 23))) := (Below.refl _ _).alloc (Nat.le_refl _) _
  have X : Hid ((w.alloc (.cells (instrC k rd rs1 rs2 imm x aq rl) 23)).heap[w.heap.size]? = some (.cells (instrC k rd rs1 rs2 imm x aq rl) 23 (0, 0))) := heap_alloc_new w _
  have HE : Hid (s ++ mk [] = s) := by show _ = _; rw [show mk [] = ByteArray.empty from rfl, ByteArray.append_empty]
  have HO : Hid (∀ w, Calls Tryz.prog 45 #[.int .i64 (k : Nat)] w fun e w' => e = .returned (.agg #[.string s, .int .i64 g, .int .i64 cc, .int .i64 f3, .int .i64 f7]) ∧ Below w.heap.size w w') := hO
  clear hO
  cases aq <;> cases rl <;>
  (go_enter Tryz.func31, Tryz.ntmps31
   go_wp2_with (go_at_call 45; (with_reducible refine Calls.mono (HO.out _) ?_); rintro e w4 ⟨rfl, hb4⟩; have hfl := (field72 s g cc f3 f7 w4).2; obtain ⟨p0, p1, p2, p3, p4, p5, p6, p7⟩ := box8_facts (below_box8 X.out hb4))
   go_ret
   refine ⟨?_, below_call B.out hb4⟩
   first | rfl | exact congrArg (fun z => Ending.returned (Value.string z)) HE.out.symm)
set_option maxRecDepth 100000 in
theorem numbered_3 (k : Nat) (s : ByteArray) (cc f3 f7 : Int) (hO : OfIs k s 3 cc f3 f7) (w : World) : Calls Tryz.prog 71 #[.int .i64 (k : Nat)] w fun e w' => e = .returned (.bool true) ∧ Below w.heap.size w w' := by
  have HO : Hid (∀ w, Calls Tryz.prog 45 #[.int .i64 (k : Nat)] w fun e w' => e = .returned (.agg #[.string s, .int .i64 3, .int .i64 cc, .int .i64 f3, .int .i64 f7]) ∧ Below w.heap.size w w') := hO
  clear hO
  go_enter Tryz.func71, Tryz.ntmps71
  go_wp2_with (go_at_call 45; (with_reducible refine Calls.mono (HO.out _) ?_); rintro e w4 ⟨rfl, hb4⟩)
  go_ret
  refine ⟨rfl, ?_⟩
  exact hb4.alloc hb4.size _
set_option maxRecDepth 100000 in
theorem numbered_7 (k : Nat) (s : ByteArray) (cc f3 f7 : Int) (hO : OfIs k s 7 cc f3 f7) (w : World) : Calls Tryz.prog 71 #[.int .i64 (k : Nat)] w fun e w' => e = .returned (.bool true) ∧ Below w.heap.size w w' := by
  have HO : Hid (∀ w, Calls Tryz.prog 45 #[.int .i64 (k : Nat)] w fun e w' => e = .returned (.agg #[.string s, .int .i64 7, .int .i64 cc, .int .i64 f3, .int .i64 f7]) ∧ Below w.heap.size w w') := hO
  clear hO
  go_enter Tryz.func71, Tryz.ntmps71
  go_wp2_with (go_at_call 45; (with_reducible refine Calls.mono (HO.out _) ?_); rintro e w4 ⟨rfl, hb4⟩)
  go_ret
  refine ⟨rfl, ?_⟩
  exact hb4.alloc hb4.size _
set_option maxRecDepth 100000 in
theorem numbered_8 (k : Nat) (s : ByteArray) (cc f3 f7 : Int) (hO : OfIs k s 8 cc f3 f7) (w : World) : Calls Tryz.prog 71 #[.int .i64 (k : Nat)] w fun e w' => e = .returned (.bool true) ∧ Below w.heap.size w w' := by
  have HO : Hid (∀ w, Calls Tryz.prog 45 #[.int .i64 (k : Nat)] w fun e w' => e = .returned (.agg #[.string s, .int .i64 8, .int .i64 cc, .int .i64 f3, .int .i64 f7]) ∧ Below w.heap.size w w') := hO
  clear hO
  go_enter Tryz.func71, Tryz.ntmps71
  go_wp2_with (go_at_call 45; (with_reducible refine Calls.mono (HO.out _) ?_); rintro e w4 ⟨rfl, hb4⟩)
  go_ret
  refine ⟨rfl, ?_⟩
  exact hb4.alloc hb4.size _
set_option maxRecDepth 100000 in
theorem numbered_9 (k : Nat) (s : ByteArray) (cc f3 f7 : Int) (hO : OfIs k s 9 cc f3 f7) (w : World) : Calls Tryz.prog 71 #[.int .i64 (k : Nat)] w fun e w' => e = .returned (.bool false) ∧ Below w.heap.size w w' := by
  have HO : Hid (∀ w, Calls Tryz.prog 45 #[.int .i64 (k : Nat)] w fun e w' => e = .returned (.agg #[.string s, .int .i64 9, .int .i64 cc, .int .i64 f3, .int .i64 f7]) ∧ Below w.heap.size w w') := hO
  clear hO
  go_enter Tryz.func71, Tryz.ntmps71
  go_wp2_with (go_at_call 45; (with_reducible refine Calls.mono (HO.out _) ?_); rintro e w4 ⟨rfl, hb4⟩)
  go_ret
  refine ⟨rfl, ?_⟩
  exact hb4.alloc hb4.size _
set_option maxRecDepth 100000 in
theorem numbered_10 (k : Nat) (s : ByteArray) (cc f3 f7 : Int) (hO : OfIs k s 10 cc f3 f7) (w : World) : Calls Tryz.prog 71 #[.int .i64 (k : Nat)] w fun e w' => e = .returned (.bool true) ∧ Below w.heap.size w w' := by
  have HO : Hid (∀ w, Calls Tryz.prog 45 #[.int .i64 (k : Nat)] w fun e w' => e = .returned (.agg #[.string s, .int .i64 10, .int .i64 cc, .int .i64 f3, .int .i64 f7]) ∧ Below w.heap.size w w') := hO
  clear hO
  go_enter Tryz.func71, Tryz.ntmps71
  go_wp2_with (go_at_call 45; (with_reducible refine Calls.mono (HO.out _) ?_); rintro e w4 ⟨rfl, hb4⟩)
  go_ret
  refine ⟨rfl, ?_⟩
  exact hb4.alloc hb4.size _
/-- the rows of strings that the document's Takes tells -/
def RowAt (w : World) (v : Value) (L : List (List UInt8)) : Prop := (L = [] ∧ v = .slice none 0 0) ∨ L ≠ [] ∧ ∃ b, v = .slice (some ⟨b, 0, none⟩) L.length L.length ∧ ∀ i (h : i < L.length), w.cell? ⟨b, i, none⟩ = some (.string (mk L[i]))
theorem row_2 (w : World) (a b : List UInt8) (x y : ByteArray) (ha : x = mk a) (hb : y = mk b) : RowAt (w.alloc (.cells #[.string x, .string y] 9)) (.slice (some ⟨w.heap.size, 0, none⟩) 2 2) [a, b] := by
  subst ha; subst hb
  refine .inr ⟨by simp, w.heap.size, rfl, fun i hi => ?_⟩
  have h := heap_alloc_new w (.cells #[.string (mk a), .string (mk b)] 9)
  match i, hi with
  | 0, _ => simp only [World.cell?, h]; rfl
  | 1, _ => simp only [World.cell?, h]; rfl
theorem row_3 (w : World) (a b c : List UInt8) (x y z : ByteArray) (ha : x = mk a) (hb : y = mk b) (hc : z = mk c) : RowAt (w.alloc (.cells #[.string x, .string y, .string z] 9)) (.slice (some ⟨w.heap.size, 0, none⟩) 3 3) [a, b, c] := by
  subst ha; subst hb; subst hc
  refine .inr ⟨by simp, w.heap.size, rfl, fun i hi => ?_⟩
  have h := heap_alloc_new w (.cells #[.string (mk a), .string (mk b), .string (mk c)] 9)
  match i, hi with
  | 0, _ => simp only [World.cell?, h]; rfl
  | 1, _ => simp only [World.cell?, h]; rfl
  | 2, _ => simp only [World.cell?, h]; rfl
end Go.Proofs.YtooaafbdjnlmfaaGreatDoor
