/- The call writeParts of layer 4: the texts of an instruction's parts, one behind the other. -/
import Derived.Test.YtooaafbdjnlmfaaDoorPart
import Derived.Deep.RegionHeld3
namespace Go.Proofs.YtooaafbdjnlmfaaDoor
open Go.RowKit
set_option linter.unusedVariables false
set_option linter.unusedSimpArgs false
def letters : List UInt8 := [100, 97, 98, 110, 117, 99, 44, 40, 41]
theorem part_all (c : UInt8) (hc : c ∈ letters) (op rd rs1 rs2 imm csr : Int) (aq rl : Bool) (hf : Fits rd rs1 rs2 imm csr) (w : World) (ht : TabsLie w) : Calls Tryd.prog 32 #[.int .u8 (c.toNat : Int), .agg (instrC op rd rs1 rs2 imm csr aq rl)] w fun e w' => e = .returned (.string (mk (partL rd rs1 rs2 imm csr c))) ∧ Below w.heap.size w w' := by
  simp only [letters, List.mem_cons, List.not_mem_nil, or_false] at hc
  rcases hc with rfl | rfl | rfl | rfl | rfl | rfl | rfl | rfl | rfl
  · exact part_100 op rd rs1 rs2 imm csr aq rl hf w ht
  · exact part_97 op rd rs1 rs2 imm csr aq rl hf w ht
  · exact part_98 op rd rs1 rs2 imm csr aq rl hf w ht
  · exact part_110 op rd rs1 rs2 imm csr aq rl hf w ht
  · exact part_117 op rd rs1 rs2 imm csr aq rl hf w ht
  · exact part_99 op rd rs1 rs2 imm csr aq rl hf w ht
  · exact part_44 op rd rs1 rs2 imm csr aq rl hf w ht
  · exact part_40 op rd rs1 rs2 imm csr aq rl hf w ht
  · exact part_41 op rd rs1 rs2 imm csr aq rl hf w ht
theorem builder_below {T e : TypeId} {B b : Nat} {bs : List Value} {w w' : World} (h : Lib.IsBuilder T e B b bs w) (hb : Below w.heap.size w w') : Lib.IsBuilder T e B b bs w' := by
  have one : ∀ p, Lib.BuilderAt T e B b p bs w → Lib.BuilderAt T e B b p bs w' := fun p ⟨h1, v, h2, h3, h4⟩ =>
    ⟨h1, v, (hb.block b (Array.getElem?_eq_some_iff.1 h2).1).trans h2, h3.kept (below_grownBy hb none) (Classical.em _), h4⟩
  rcases h with h | h
  · exact .inl (one _ h)
  · exact .inr (one _ h)
theorem strCells_mk (l : List UInt8) : Lib.strCells (mk l) = Lib.byteCells l := by
  unfold mk; simp [Lib.strCells, Lib.byteCells]
theorem byteCells_app (a b : List UInt8) : Lib.byteCells a ++ Lib.byteCells b = Lib.byteCells (a ++ b) := by simp [Lib.byteCells]
theorem partL_len (rd rs1 rs2 imm csr : Int) (hf : Fits rd rs1 rs2 imm csr) (c : UInt8) : (partL rd rs1 rs2 imm csr c).length ≤ 40 := by
  have d1 := Lib.itoa_length_le rd (by have := hf.d; omega) (by have := hf.d; omega)
  have d2 := Lib.itoa_length_le rs1 (by have := hf.a; omega) (by have := hf.a; omega)
  have d3 := Lib.itoa_length_le rs2 (by have := hf.b; omega) (by have := hf.b; omega)
  have d4 := Lib.itoa_length_le imm (by have := hf.n; omega) (by have := hf.n; omega)
  have hq := tdiv_bounds imm hf.n
  have d5 := Lib.itoa_length_le (imm.tdiv 4096) hq.1 hq.2
  have d6 := dtext_len 16 16 csr.toNat
  unfold partL regL hexL
  repeat' split
  all_goals first | omega | (simp only [List.length_cons, List.length_nil]; omega) | (simp; omega) | simp
theorem flat_len (f : UInt8 → List UInt8) (h : ∀ c, (f c).length ≤ 40) (l : List UInt8) : (l.flatMap f).length ≤ 40 * l.length := by
  induction l with
  | nil => simp
  | cons c l ih => have := h c; simp at ih ⊢; omega
theorem below_box8 {w w2 : World} {b : Nat} {o : Obj} (h : w.heap[b]? = some o) (hb : Below w.heap.size w w2) : w2.heap[b]? = some o := (hb.block b (Array.getElem?_eq_some_iff.1 h).1).trans h
set_option maxRecDepth 100000 in
set_option maxHeartbeats 2000000 in
theorem write_core (s : ByteArray) (sh : List UInt8) (hsz : s.size = sh.length) (hg : ∀ k (h : k < s.size) (h2 : k < sh.length), s[k] = sh[k]) (hsh : ∀ c ∈ sh, c ∈ letters) (hlen : sh.length ≤ 10) (op rd rs1 rs2 imm csr : Int) (aq rl : Bool) (hf : Fits rd rs1 rs2 imm csr) (w : World) (ht : TabsLie w) :
    Calls Tryd.prog 12 #[.string s, .agg (instrC op rd rs1 rs2 imm csr aq rl)] w fun e w' => e = .returned (.string (mk (sh.flatMap (partL rd rs1 rs2 imm csr)))) ∧ Below w.heap.size w w' := by
  have HG : Hid (∀ k (h : k < s.size) (h2 : k < sh.length), s[k] = sh[k]) := hg
  clear hg
  have B1 : Below w.heap.size w (w.alloc (.cells (instrC op rd rs1 rs2 imm csr aq rl) 23)) := (Below.refl _ _).alloc (Nat.le_refl _) _
  have B2 : Hid (Below w.heap.size w ((w.alloc (.cells (instrC op rd rs1 rs2 imm csr aq rl) 23)).alloc (.cells #[.pointer none, .slice none 0 0] 54))) := B1.alloc B1.size _
  have U2 : Hid (Lib.IsBuilder 54 5 (w.heap.size + 1) (w.heap.size + 1) (Lib.byteCells []) ((w.alloc (.cells (instrC op rd rs1 rs2 imm csr aq rl) 23)).alloc (.cells #[.pointer none, .slice none 0 0] 54))) := by
    have h := Lib.fresh_isBuilder 54 5 (w.alloc (.cells (instrC op rd rs1 rs2 imm csr aq rl) 23))
    rw [show (w.alloc (.cells (instrC op rd rs1 rs2 imm csr aq rl) 23)).heap.size = w.heap.size + 1 from by simp] at h
    exact h
  have X2 : Hid (((w.alloc (.cells (instrC op rd rs1 rs2 imm csr aq rl) 23)).alloc (.cells #[.pointer none, .slice none 0 0] 54)).heap[w.heap.size]? = some (.cells (instrC op rd rs1 rs2 imm csr aq rl) 23 (0, 0))) := (heap_alloc_old _ _ (by simp)).trans (heap_alloc_new w _)
  have T2 : Hid (TabsLie ((w.alloc (.cells (instrC op rd rs1 rs2 imm csr aq rl) 23)).alloc (.cells #[.pointer none, .slice none 0 0] 54))) := tabs_below ht B2.out
  have HT : Hid (TabsLie w) := ht
  clear ht B1
  have hl10 : (s.size : Int) ≤ 10 := by omega
  go_enter Tryd.func12, Tryd.ntmps12
  go_wp2
  generalize (w.alloc (.cells (instrC op rd rs1 rs2 imm csr aq rl) 23)).alloc (.cells #[.pointer none, .slice none 0 0] 54) = w2 at *
  go_loopw [9] (fun iv wr => ∃ k : Nat, k ≤ sh.length ∧ iv = .int .i64 k ∧ Lib.IsBuilder 54 5 (w.heap.size + 1) (w.heap.size + 1) (Lib.byteCells ((sh.take k).flatMap (partL rd rs1 rs2 imm csr))) wr ∧ wr.heap[w.heap.size]? = some (.cells (instrC op rd rs1 rs2 imm csr aq rl) 23 (0, 0)) ∧ TabsLie wr ∧ Below w.heap.size w wr) (fun iv _ => 20 - (intOf iv).toNat)
  case atStart => exact ⟨0, by omega, rfl, U2.out, X2.out, T2.out, B2.out⟩
  case round =>
    obtain ⟨k, hk, rfl, hu, hx, htl, hbw⟩ := hrel
    clear U2 X2 T2 B2
    have U : Hid (Lib.IsBuilder 54 5 (w.heap.size + 1) (w.heap.size + 1) (Lib.byteCells ((sh.take k).flatMap (partL rd rs1 rs2 imm csr))) wr) := hu
    have X : Hid (wr.heap[w.heap.size]? = some (.cells (instrC op rd rs1 rs2 imm csr aq rl) 23 (0, 0)) ∧ TabsLie wr ∧ Below w.heap.size w wr) := ⟨hx, htl, hbw⟩
    clear hu hx htl hbw
    by_cases hlt : k < sh.length
    · have hks : k < s.size := by omega
      have hki : (k : Int) < s.size := by omega
      have hsk := HG.out k hks hlt
      have hmem : sh[k] ∈ letters := hsh _ (List.getElem_mem hlt)
      have hpl := partL_len rd rs1 rs2 imm csr hf sh[k]
      have hpre := flat_len (partL rd rs1 rs2 imm csr) (partL_len rd rs1 rs2 imm csr hf) (sh.take k)
      have htk : (sh.take k).length ≤ 10 := by rw [List.length_take]; omega
      have hstep : (sh.take (k + 1)).flatMap (partL rd rs1 rs2 imm csr) = (sh.take k).flatMap (partL rd rs1 rs2 imm csr) ++ partL rd rs1 rs2 imm csr sh[k] := by
        rw [List.take_succ_eq_append_getElem hlt, List.flatMap_append]; simp [List.flatMap_cons]
      have HST : Hid _ := hstep
      have HP : Hid (∀ V, TabsLie V → Calls Tryd.prog 32 #[.int .u8 (s[k].toNat : Int), .agg (instrC op rd rs1 rs2 imm csr aq rl)] V fun e w' => e = .returned (.string (mk (partL rd rs1 rs2 imm csr sh[k]))) ∧ Below V.heap.size V w') := fun V hV => by rw [hsk]; exact part_all sh[k] hmem op rd rs1 rs2 imm csr aq rl hf V hV
      have HW : Hid (∀ V, Lib.IsBuilder 54 5 (w.heap.size + 1) (w.heap.size + 1) (Lib.byteCells ((sh.take k).flatMap (partL rd rs1 rs2 imm csr))) V → w.heap.size + 1 ≤ V.heap.size → Calls Tryd.prog 31 #[.pointer (some ⟨w.heap.size + 1, 0, none⟩), .string (mk (partL rd rs1 rs2 imm csr sh[k]))] V fun e w' => e = .returned (.tuple #[.int .i64 ((mk (partL rd rs1 rs2 imm csr sh[k])).size : Nat), .nilIface]) ∧ (Lib.BuilderAt 54 5 (w.heap.size + 1) (w.heap.size + 1) (.pointer (some ⟨w.heap.size + 1, 0, none⟩)) (Lib.byteCells ((sh.take k).flatMap (partL rd rs1 rs2 imm csr)) ++ Lib.strCells (mk (partL rd rs1 rs2 imm csr sh[k]))) w' ∧ Below (w.heap.size + 1) V w')) := fun V hV hB => writes_any _ _ _ _ V hV (by rw [Lib.byteCells_length, mk_size]; omega) hB
      rw [strCells_mk, byteCells_app, ← HST.out] at HW
      have HP2 : Hid (∀ V, Below wr.heap.size wr V → Calls Tryd.prog 32 #[.int .u8 (s[k].toNat : Int), .agg (instrC op rd rs1 rs2 imm csr aq rl)] V fun e w' => e = .returned (.string (mk (partL rd rs1 rs2 imm csr sh[k]))) ∧ Below V.heap.size V w') := fun V hV => HP.out V (tabs_below X.out.2.1 hV)
      have HW2 : Hid (∀ V, Below wr.heap.size wr V → Calls Tryd.prog 31 #[.pointer (some ⟨w.heap.size + 1, 0, none⟩), .string (mk (partL rd rs1 rs2 imm csr sh[k]))] V fun e w' => e = .returned (.tuple #[.int .i64 ((mk (partL rd rs1 rs2 imm csr sh[k])).size : Nat), .nilIface]) ∧ (Lib.BuilderAt 54 5 (w.heap.size + 1) (w.heap.size + 1) (.pointer (some ⟨w.heap.size + 1, 0, none⟩)) (Lib.byteCells ((sh.take (k + 1)).flatMap (partL rd rs1 rs2 imm csr))) w' ∧ Below (w.heap.size + 1) V w')) := fun V hV => HW.out V (builder_below U.out hV) (by have := hV.size; have := (Array.getElem?_eq_some_iff.1 X.out.1).1; omega)
      clear hpl hpre htk hstep hmem hsk HP HW
      generalize mk (partL rd rs1 rs2 imm csr sh[k]) = pt at *
      obtain ⟨q0, q1, q2, q3, q4, q5, q6, q7⟩ := box8_facts X.out.1
      go_wp2_with fail
      go_region_held3 (fun V => V.cell? ⟨w.heap.size, 0, none⟩ = some (.int .i64 op) ∧ V.cell? ⟨w.heap.size, 1, none⟩ = some (.int .i64 rd) ∧ V.cell? ⟨w.heap.size, 2, none⟩ = some (.int .i64 rs1) ∧ V.cell? ⟨w.heap.size, 3, none⟩ = some (.int .i64 rs2) ∧ V.cell? ⟨w.heap.size, 4, none⟩ = some (.int .i64 imm) ∧ V.cell? ⟨w.heap.size, 5, none⟩ = some (.int .i64 csr) ∧ V.cell? ⟨w.heap.size, 6, none⟩ = some (.bool aq) ∧ V.cell? ⟨w.heap.size, 7, none⟩ = some (.bool rl)) (go_keep) (first | (go_at_call 32; (with_reducible refine Calls.mono (HP2.out _ (by repeat (first | exact Z4.out | exact Below.refl _ _ | with_reducible refine Below.drew ?_))) ?_); rintro e w4 ⟨rfl, hb4⟩; have Z4 : Hid (Below wr.heap.size wr w4) := below_call (by repeat (first | exact Z4.out | exact Below.refl _ _ | with_reducible refine Below.drew ?_)) hb4; obtain ⟨p0, p1, p2, p3, p4, p5, p6, p7⟩ := box8_facts (below_box8 X.out.1 Z4.out)) | (go_at_call 31; (with_reducible refine Calls.mono (HW2.out _ (by repeat (first | exact Z4.out | exact Below.refl _ _ | with_reducible refine Below.drew ?_))) ?_); rintro e w5 ⟨rfl, hu5, hb5⟩; have Z5 : Hid (Lib.IsBuilder 54 5 (w.heap.size + 1) (w.heap.size + 1) (Lib.byteCells ((sh.take (k + 1)).flatMap (partL rd rs1 rs2 imm csr))) w5 ∧ Below (w.heap.size + 1) wr w5) := ⟨.inr hu5, Below.trans (Below.mono (by repeat (first | exact Z4.out | exact Below.refl _ _ | with_reducible refine Below.drew ?_)) (by have := (Array.getElem?_eq_some_iff.1 X.out.1).1; omega)) hb5⟩; obtain ⟨o0, o1, o2, o3, o4, o5, o6, o7⟩ := box8_facts ((Z5.out.2.block w.heap.size (by omega)).trans X.out.1)))
      all_goals go_wp2_with fail
      all_goals go_roundw
      case rel => exact ⟨k + 1, by omega, by go_num, Z5.out.1, (Z5.out.2.block w.heap.size (by omega)).trans X.out.1, tabs_below HT.out (X.out.2.2.trans (Z5.out.2.mono (by omega))), X.out.2.2.trans (Z5.out.2.mono (by omega))⟩
      case measure => simp [intOf]; omega
    · obtain rfl : k = sh.length := by omega
      have hst : Hid (Calls Tryd.prog 33 #[.pointer (some ⟨w.heap.size + 1, 0, none⟩)] wr fun e w' => e = .returned (.string (mk (sh.flatMap (partL rd rs1 rs2 imm csr)))) ∧ Below (w.heap.size + 1) wr w') := by
        have h := Tryd.Builder_String_any (w.heap.size + 1) (w.heap.size + 1) _ wr U.out (by have := (Array.getElem?_eq_some_iff.1 X.out.1).1; omega)
        rw [List.take_length] at h
        exact h
      go_wp2_with (first | (go_at_call 33; (with_reducible refine Calls.mono hst.out ?_); rintro e w6 ⟨rfl, hb6⟩))
      go_ret
      exact ⟨rfl, X.out.2.2.trans (hb6.mono (by omega))⟩
theorem write_any (sh : List UInt8) (hsh : ∀ c ∈ sh, c ∈ letters) (hlen : sh.length ≤ 10) (op rd rs1 rs2 imm csr : Int) (aq rl : Bool) (hf : Fits rd rs1 rs2 imm csr) (w : World) (ht : TabsLie w) :
    Calls Tryd.prog 12 #[.string (mk sh), .agg (instrC op rd rs1 rs2 imm csr aq rl)] w fun e w' => e = .returned (.string (mk (sh.flatMap (partL rd rs1 rs2 imm csr)))) ∧ Below w.heap.size w w' :=
  write_core (mk sh) sh (mk_size sh) (fun k h h2 => rfl) hsh hlen op rd rs1 rs2 imm csr aq rl hf w ht
end Go.Proofs.YtooaafbdjnlmfaaDoor
