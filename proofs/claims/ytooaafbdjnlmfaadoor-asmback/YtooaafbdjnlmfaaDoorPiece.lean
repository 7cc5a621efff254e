/- The calls cutName and firstPiece of layer 4. -/
import Derived.Test.YtooaafbdjnlmfaaDoorRPart
import Derived.BigQuiet
namespace Go.Proofs.YtooaafbdjnlmfaaDoor
open Go.RowKit
set_option linter.unusedVariables false
set_option linter.unusedSimpArgs false
def Ascii (l : List UInt8) : Prop := ∀ b ∈ l, b.toNat < 128
def headW (cs l : List UInt8) : List UInt8 := l.takeWhile fun b => !cs.contains b
def tailW (cs l : List UInt8) : List UInt8 := l.dropWhile fun b => !cs.contains b
theorem index_spec (cs : List UInt8) : ∀ l : List UInt8, (Lib.indexAny l cs = -1 ∧ headW cs l = l ∧ tailW cs l = []) ∨ ∃ i : Nat, Lib.indexAny l cs = i ∧ i < l.length ∧ headW cs l = l.take i ∧ tailW cs l = l.drop i
  | [] => .inl ⟨rfl, rfl, rfl⟩
  | b :: l => by
    by_cases hb : cs.contains b = true
    · refine .inr ⟨0, ?_, by simp, ?_, ?_⟩
      · unfold Lib.indexAny; rw [if_pos hb]; rfl
      · unfold headW; rw [List.takeWhile_cons, hb]; rfl
      · unfold tailW; rw [List.dropWhile_cons, hb]; rfl
    · have hb2 : cs.contains b = false := by simpa using hb
      have e1 : headW cs (b :: l) = b :: headW cs l := by unfold headW; rw [List.takeWhile_cons, hb2]; rfl
      have e2 : tailW cs (b :: l) = tailW cs l := by unfold tailW; rw [List.dropWhile_cons, hb2]; rfl
      have e3 : Lib.indexAny (b :: l) cs = if Lib.indexAny l cs == -1 then -1 else Lib.indexAny l cs + 1 := by
        conv => lhs; unfold Lib.indexAny
        rw [if_neg hb]
      rcases index_spec cs l with ⟨h1, h2, h3⟩ | ⟨i, h1, h2, h3, h4⟩
      · refine .inl ⟨?_, ?_, ?_⟩
        · rw [e3, h1]; rfl
        · rw [e1, h2]
        · rw [e2, h3]
      · refine .inr ⟨i + 1, ?_, by simp; omega, ?_, ?_⟩
        · have hn : ((i : Int) == -1) = false := by simp
          rw [e3, h1, hn]; simp
        · rw [e1, h3]; rfl
        · rw [e2, h4]; rfl
theorem ext_take (l : List UInt8) (i : Nat) : (mk l).extract 0 i = mk (l.take i) := by
  apply ByteArray.ext
  rw [ByteArray.data_extract]
  simp [mk]
theorem ext_drop (l : List UInt8) (i n : Nat) (hn : l.length = n) : (mk l).extract i n = mk (l.drop i) := by
  subst hn
  apply ByteArray.ext
  rw [ByteArray.data_extract]
  simp only [mk, List.extract_toArray, List.extract_eq_take_drop]
  exact congrArg List.toArray (List.take_of_length_le (by simp))
theorem index_any (l cs : List UInt8) (hl : l.length ≤ 1000) (ha : Ascii l) (hc : cs.length ≤ 1000) (hca : Ascii cs) (w : World) : Calls Tryd.prog 35 #[.string (mk l), .string (mk cs)] w fun e w' => e = .returned (.int .i64 (Lib.indexAny l cs)) ∧ Below w.heap.size w w' :=
  Tryd.strings_IndexAny_laid (mk l) (mk cs) w (by rw [mk_size]; omega) (by rw [mk_size]; omega) (fun j b h => ha b (List.mem_of_getElem? h)) (fun j b h => hca b (List.mem_of_getElem? h))
set_option maxRecDepth 100000 in
theorem cutname_any (l : List UInt8) (hl : l.length ≤ 1000) (ha : Ascii l) (w : World) : Calls Tryd.prog 20 #[.string (mk l)] w fun e w' => e = .returned (.tuple #[.string (mk (headW [32, 9] l)), .string (mk (tailW [32, 9] l))]) ∧ Below w.heap.size w w' := by
  have HI : Hid (Calls Tryd.prog 35 #[.string (mk l), .string ⟨#[32, 9]⟩] w fun e w' => e = .returned (.int .i64 (Lib.indexAny l [32, 9])) ∧ Below w.heap.size w w') := index_any l [32, 9] hl ha (by simp) (by unfold Ascii; decide) w
  rcases index_spec [32, 9] l with ⟨h1, h2, h3⟩ | ⟨i, h1, h2, h3, h4⟩
  · rw [h2, h3]
    rw [h1] at HI
    clear h1 h2 h3 ha hl
    generalize mk l = s at *
    go_enter Tryd.func20, Tryd.ntmps20
    go_wp2_with (go_at_call 35; (with_reducible refine Calls.mono HI.out ?_); rintro e w9 ⟨rfl, hb9⟩)
    go_ret2
    exact ⟨rfl, hb9⟩
  · rw [h3, h4]
    rw [h1] at HI
    have E1 : Hid ((mk l).extract 0 i = mk (l.take i)) := ext_take l i
    have E2 : Hid ((mk l).extract i (mk l).size = mk (l.drop i)) := ext_drop l i _ (mk_size l).symm
    have hs : (mk l).size ≤ 1000 := by rw [mk_size]; exact hl
    have hi : i < (mk l).size := by rw [mk_size]; exact h2
    have hii : (i : Int) ≤ (mk l).size := by omega
    have hi0 : (0 : Int) ≤ i := by omega
    clear h1 h2 h3 h4 ha hl
    generalize mk (l.take i) = s1 at *
    generalize mk (l.drop i) = s2 at *
    generalize mk l = s at *
    go_enter Tryd.func20, Tryd.ntmps20
    go_wp2_with (go_at_call 35; (with_reducible refine Calls.mono HI.out ?_); rintro e w9 ⟨rfl, hb9⟩)
    go_quiet (fail)
    all_goals go_wp2_with fail
    go_ret2
    exact ⟨by rw [← E1.out, ← E2.out]; rfl, below_drewN hb9 _⟩
/-- the first piece of a text -/
def pieceL (l : List UInt8) : List UInt8 := if headW [44, 40, 41, 32, 9] l = [] then l.take 1 else headW [44, 40, 41, 32, 9] l
set_option maxRecDepth 100000 in
theorem piece_any (l : List UInt8) (hl : l.length ≤ 1000) (ha : Ascii l) (w : World) : Calls Tryd.prog 46 #[.string (mk l)] w fun e w' => e = .returned (.string (mk (pieceL l))) ∧ Below w.heap.size w w' := by
  have HI : Hid (Calls Tryd.prog 35 #[.string (mk l), .string ⟨#[44, 40, 41, 32, 9]⟩] w fun e w' => e = .returned (.int .i64 (Lib.indexAny l [44, 40, 41, 32, 9])) ∧ Below w.heap.size w w') := index_any l [44, 40, 41, 32, 9] hl ha (by simp) (by unfold Ascii; decide) w
  unfold pieceL
  rcases index_spec [44, 40, 41, 32, 9] l with ⟨h1, h2, h3⟩ | ⟨i, h1, h2, h3, h4⟩
  · rw [h2]
    have hp : (if l = [] then l.take 1 else l) = l := by split <;> simp_all
    rw [hp]
    rw [h1] at HI
    clear h1 h2 h3 ha hl hp
    generalize mk l = s at *
    go_enter Tryd.func46, Tryd.ntmps46
    go_wp2_with (go_at_call 35; (with_reducible refine Calls.mono HI.out ?_); rintro e w9 ⟨rfl, hb9⟩)
    go_ret
    exact ⟨rfl, hb9⟩
  · rw [h1] at HI
    have hs : (mk l).size ≤ 1000 := by rw [mk_size]; exact hl
    by_cases hz : i = 0
    · subst hz
      rw [h3]
      have E1 : Hid ((mk l).extract 0 1 = mk (l.take 1)) := ext_take l 1
      have hi : 1 ≤ (mk l).size := by rw [mk_size]; exact h2
      have hii : (1 : Int) ≤ (mk l).size := by omega
      rw [if_pos (by simp)]
      clear h1 h2 h3 h4 ha hl
      generalize mk (l.take 1) = s1 at *
      generalize mk l = s at *
      go_enter Tryd.func46, Tryd.ntmps46
      go_wp2_with (go_at_call 35; (with_reducible refine Calls.mono HI.out ?_); rintro e w9 ⟨rfl, hb9⟩)
      go_ret
      exact ⟨by rw [← E1.out]; rfl, hb9⟩
    · have hne : l.take i ≠ [] := by
        rw [Ne, List.take_eq_nil_iff]
        rintro (h | h)
        · exact hz h
        · subst h; simp at h2
      rw [h3, if_neg hne]
      have E1 : Hid ((mk l).extract 0 i = mk (l.take i)) := ext_take l i
      have hi : i < (mk l).size := by rw [mk_size]; exact h2
      have hii : (i : Int) ≤ (mk l).size := by omega
      have hi0 : (0 : Int) ≤ i := by omega
      have hz1 : ((i : Int) == 0) = false := by simpa using hz
      have hz2 : ((i : Int) == -1) = false := by simp
      clear h1 h2 h3 h4 ha hl hne
      generalize mk (l.take i) = s1 at *
      generalize mk l = s at *
      go_enter Tryd.func46, Tryd.ntmps46
      go_wp2_with (go_at_call 35; (with_reducible refine Calls.mono HI.out ?_); rintro e w9 ⟨rfl, hb9⟩)
      go_ret
      exact ⟨by rw [← E1.out]; rfl, hb9⟩
end Go.Proofs.YtooaafbdjnlmfaaDoor
