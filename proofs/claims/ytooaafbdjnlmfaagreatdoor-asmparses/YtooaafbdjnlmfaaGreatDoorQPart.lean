/- The calls partText and writeParts of layer 4. -/
import Derived.Test.YtooaafbdjnlmfaaGreatDoorQShape
import Derived.Test.YtooaafbdjnlmfaaGreatDoorQBuild
import Derived.Deep.RegionHeld3
namespace Go.Proofs.YtooaafbdjnlmfaaGreatDoor
open Go.RowKit
set_option linter.unusedVariables false
set_option linter.unusedSimpArgs false
/-- the parts are such as an instruction that is right has -/
structure Fits (rd rs1 rs2 imm csr : Int) : Prop where
  d : 0 ≤ rd ∧ rd ≤ 31
  a : 0 ≤ rs1 ∧ rs1 ≤ 31
  b : 0 ≤ rs2 ∧ rs2 ≤ 31
  n : -2147483648 ≤ imm ∧ imm ≤ 2147483647
  c : 0 ≤ csr ∧ csr ≤ 4095
/-- a part's text -/
def partL (rd rs1 rs2 imm csr : Int) (c : UInt8) : List UInt8 :=
  if c = 100 then regL rd else if c = 97 then regL rs1 else if c = 98 then regL rs2 else if c = 110 then Lib.itoa imm else if c = 117 then Lib.itoa (imm.tdiv 4096) else if c = 99 then hexL csr.toNat else [c]
def WLie (w : World) : Prop := TabsLie w
theorem tdiv_bounds (imm : Int) (h : -2147483648 ≤ imm ∧ imm ≤ 2147483647) : -9223372036854775808 ≤ imm.tdiv 4096 ∧ imm.tdiv 4096 ≤ 9223372036854775807 := by
  have h1 := Int.natAbs_tdiv imm 4096
  have h2 : imm.natAbs.div (Int.natAbs 4096) ≤ imm.natAbs := Nat.div_le_self _ _
  rw [← h1] at h2
  omega
theorem below_call {wr X w4 : World} (h : Below wr.heap.size wr X) (hb : Below X.heap.size X w4) : Below wr.heap.size wr w4 := h.trans (hb.mono h.size)
set_option maxRecDepth 100000 in
theorem part_100 (op rd rs1 rs2 imm csr : Int) (aq rl : Bool) (hf : Fits rd rs1 rs2 imm csr) (w : World) (ht : TabsLie w) : Calls Tryz.prog 65 #[.int .u8 100, .agg (instrC op rd rs1 rs2 imm csr aq rl)] w fun e w' => e = .returned (.string (mk (partL rd rs1 rs2 imm csr 100))) ∧ Below w.heap.size w w' := by
  have B : Hid (Below w.heap.size w (w.alloc (.cells (instrC op rd rs1 rs2 imm csr aq rl) 23))) := (Below.refl _ _).alloc (Nat.le_refl _) _
  have T1 : Hid (TabsLie (w.alloc (.cells (instrC op rd rs1 rs2 imm csr aq rl) 23))) := tabs_below ht B.out
  have hc : Calls Tryz.prog 11 #[.int .i64 rd] (w.alloc (.cells (instrC op rd rs1 rs2 imm csr aq rl) 23)) fun e w' => e = .returned (.string (mk (regL rd))) ∧ Below (w.alloc (.cells (instrC op rd rs1 rs2 imm csr aq rl) 23)).heap.size (w.alloc (.cells (instrC op rd rs1 rs2 imm csr aq rl) 23)) w' := reg_any rd (by have := hf.d; omega) (by have := hf.d; omega) _ T1.out
  clear ht
  go_enter Tryz.func65, Tryz.ntmps65
  go_wp2_with (go_at_call 11; refine hc.mono ?_; rintro e w' ⟨rfl, hb⟩)
  go_ret
  exact ⟨rfl, below_call B.out hb⟩
set_option maxRecDepth 100000 in
theorem part_97 (op rd rs1 rs2 imm csr : Int) (aq rl : Bool) (hf : Fits rd rs1 rs2 imm csr) (w : World) (ht : TabsLie w) : Calls Tryz.prog 65 #[.int .u8 97, .agg (instrC op rd rs1 rs2 imm csr aq rl)] w fun e w' => e = .returned (.string (mk (partL rd rs1 rs2 imm csr 97))) ∧ Below w.heap.size w w' := by
  have B : Hid (Below w.heap.size w (w.alloc (.cells (instrC op rd rs1 rs2 imm csr aq rl) 23))) := (Below.refl _ _).alloc (Nat.le_refl _) _
  have T1 : Hid (TabsLie (w.alloc (.cells (instrC op rd rs1 rs2 imm csr aq rl) 23))) := tabs_below ht B.out
  have hc : Calls Tryz.prog 11 #[.int .i64 rs1] (w.alloc (.cells (instrC op rd rs1 rs2 imm csr aq rl) 23)) fun e w' => e = .returned (.string (mk (regL rs1))) ∧ Below (w.alloc (.cells (instrC op rd rs1 rs2 imm csr aq rl) 23)).heap.size (w.alloc (.cells (instrC op rd rs1 rs2 imm csr aq rl) 23)) w' := reg_any rs1 (by have := hf.a; omega) (by have := hf.a; omega) _ T1.out
  clear ht
  go_enter Tryz.func65, Tryz.ntmps65
  go_wp2_with (go_at_call 11; refine hc.mono ?_; rintro e w' ⟨rfl, hb⟩)
  go_ret
  exact ⟨rfl, below_call B.out hb⟩
set_option maxRecDepth 100000 in
theorem part_98 (op rd rs1 rs2 imm csr : Int) (aq rl : Bool) (hf : Fits rd rs1 rs2 imm csr) (w : World) (ht : TabsLie w) : Calls Tryz.prog 65 #[.int .u8 98, .agg (instrC op rd rs1 rs2 imm csr aq rl)] w fun e w' => e = .returned (.string (mk (partL rd rs1 rs2 imm csr 98))) ∧ Below w.heap.size w w' := by
  have B : Hid (Below w.heap.size w (w.alloc (.cells (instrC op rd rs1 rs2 imm csr aq rl) 23))) := (Below.refl _ _).alloc (Nat.le_refl _) _
  have T1 : Hid (TabsLie (w.alloc (.cells (instrC op rd rs1 rs2 imm csr aq rl) 23))) := tabs_below ht B.out
  have hc : Calls Tryz.prog 11 #[.int .i64 rs2] (w.alloc (.cells (instrC op rd rs1 rs2 imm csr aq rl) 23)) fun e w' => e = .returned (.string (mk (regL rs2))) ∧ Below (w.alloc (.cells (instrC op rd rs1 rs2 imm csr aq rl) 23)).heap.size (w.alloc (.cells (instrC op rd rs1 rs2 imm csr aq rl) 23)) w' := reg_any rs2 (by have := hf.b; omega) (by have := hf.b; omega) _ T1.out
  clear ht
  go_enter Tryz.func65, Tryz.ntmps65
  go_wp2_with (go_at_call 11; refine hc.mono ?_; rintro e w' ⟨rfl, hb⟩)
  go_ret
  exact ⟨rfl, below_call B.out hb⟩
set_option maxRecDepth 100000 in
theorem part_110 (op rd rs1 rs2 imm csr : Int) (aq rl : Bool) (hf : Fits rd rs1 rs2 imm csr) (w : World) (ht : TabsLie w) : Calls Tryz.prog 65 #[.int .u8 110, .agg (instrC op rd rs1 rs2 imm csr aq rl)] w fun e w' => e = .returned (.string (mk (partL rd rs1 rs2 imm csr 110))) ∧ Below w.heap.size w w' := by
  have B : Hid (Below w.heap.size w (w.alloc (.cells (instrC op rd rs1 rs2 imm csr aq rl) 23))) := (Below.refl _ _).alloc (Nat.le_refl _) _
  have T1 : Hid (TabsLie (w.alloc (.cells (instrC op rd rs1 rs2 imm csr aq rl) 23))) := tabs_below ht B.out
  have hc : Calls Tryz.prog 33 #[.int .i64 imm] (w.alloc (.cells (instrC op rd rs1 rs2 imm csr aq rl) 23)) fun e w' => e = .returned (.string (decS imm)) ∧ Below (w.alloc (.cells (instrC op rd rs1 rs2 imm csr aq rl) 23)).heap.size (w.alloc (.cells (instrC op rd rs1 rs2 imm csr aq rl) 23)) w' := dec_any imm (by have := hf.n; omega) (by have := hf.n; omega) _ T1.out.pow
  clear ht
  go_enter Tryz.func65, Tryz.ntmps65
  go_wp2_with (go_at_call 33; refine hc.mono ?_; rintro e w' ⟨rfl, hb⟩)
  go_ret
  exact ⟨rfl, below_call B.out hb⟩
set_option maxRecDepth 100000 in
theorem part_117 (op rd rs1 rs2 imm csr : Int) (aq rl : Bool) (hf : Fits rd rs1 rs2 imm csr) (w : World) (ht : TabsLie w) : Calls Tryz.prog 65 #[.int .u8 117, .agg (instrC op rd rs1 rs2 imm csr aq rl)] w fun e w' => e = .returned (.string (mk (partL rd rs1 rs2 imm csr 117))) ∧ Below w.heap.size w w' := by
  have B : Hid (Below w.heap.size w (w.alloc (.cells (instrC op rd rs1 rs2 imm csr aq rl) 23))) := (Below.refl _ _).alloc (Nat.le_refl _) _
  have T1 : Hid (TabsLie (w.alloc (.cells (instrC op rd rs1 rs2 imm csr aq rl) 23))) := tabs_below ht B.out
  have hq := tdiv_bounds imm hf.n
  have hc : Calls Tryz.prog 33 #[.int .i64 (imm.tdiv 4096)] (w.alloc (.cells (instrC op rd rs1 rs2 imm csr aq rl) 23)) fun e w' => e = .returned (.string (decS (imm.tdiv 4096))) ∧ Below (w.alloc (.cells (instrC op rd rs1 rs2 imm csr aq rl) 23)).heap.size (w.alloc (.cells (instrC op rd rs1 rs2 imm csr aq rl) 23)) w' := dec_any (imm.tdiv 4096) hq.1 hq.2 _ T1.out.pow
  have hn := hf.n
  clear ht
  go_enter Tryz.func65, Tryz.ntmps65
  go_wp2_with (go_at_call 33; refine hc.mono ?_; rintro e w' ⟨rfl, hb⟩)
  go_ret
  exact ⟨rfl, below_call B.out hb⟩
set_option maxRecDepth 100000 in
theorem part_99 (op rd rs1 rs2 imm csr : Int) (aq rl : Bool) (hf : Fits rd rs1 rs2 imm csr) (w : World) (ht : TabsLie w) : Calls Tryz.prog 65 #[.int .u8 99, .agg (instrC op rd rs1 rs2 imm csr aq rl)] w fun e w' => e = .returned (.string (mk (partL rd rs1 rs2 imm csr 99))) ∧ Below w.heap.size w w' := by
  have B : Hid (Below w.heap.size w (w.alloc (.cells (instrC op rd rs1 rs2 imm csr aq rl) 23))) := (Below.refl _ _).alloc (Nat.le_refl _) _
  have T1 : Hid (TabsLie (w.alloc (.cells (instrC op rd rs1 rs2 imm csr aq rl) 23))) := tabs_below ht B.out
  obtain ⟨x, rfl⟩ : ∃ x : Nat, csr = x := ⟨csr.toNat, by have := hf.c; omega⟩
  have hc : Calls Tryz.prog 89 #[.int .u64 (x : Int)] (w.alloc (.cells (instrC op rd rs1 rs2 imm x aq rl) 23)) fun e w' => e = .returned (.string (hexS x)) ∧ Below (w.alloc (.cells (instrC op rd rs1 rs2 imm x aq rl) 23)).heap.size (w.alloc (.cells (instrC op rd rs1 rs2 imm x aq rl) 23)) w' := hex_any x (by have := hf.c; omega) _ T1.out.low
  have hx : x ≤ 4095 := by have := hf.c; omega
  have HE : Hid (hexS x = mk (hexL x)) := hexS_mk x
  clear ht
  go_enter Tryz.func65, Tryz.ntmps65
  go_wp2_with (go_at_call 89; refine hc.mono ?_; rintro e w' ⟨rfl, hb⟩)
  go_ret
  exact ⟨by rw [HE.out]; rfl, below_call B.out hb⟩
set_option maxRecDepth 100000 in
theorem part_44 (op rd rs1 rs2 imm csr : Int) (aq rl : Bool) (hf : Fits rd rs1 rs2 imm csr) (w : World) (ht : TabsLie w) : Calls Tryz.prog 65 #[.int .u8 44, .agg (instrC op rd rs1 rs2 imm csr aq rl)] w fun e w' => e = .returned (.string (mk (partL rd rs1 rs2 imm csr 44))) ∧ Below w.heap.size w w' := by
  have B : Hid (Below w.heap.size w (w.alloc (.cells (instrC op rd rs1 rs2 imm csr aq rl) 23))) := (Below.refl _ _).alloc (Nat.le_refl _) _
  clear ht
  go_enter Tryz.func65, Tryz.ntmps65
  go_wp2
  go_ret
  exact ⟨rfl, B.out⟩
set_option maxRecDepth 100000 in
theorem part_40 (op rd rs1 rs2 imm csr : Int) (aq rl : Bool) (hf : Fits rd rs1 rs2 imm csr) (w : World) (ht : TabsLie w) : Calls Tryz.prog 65 #[.int .u8 40, .agg (instrC op rd rs1 rs2 imm csr aq rl)] w fun e w' => e = .returned (.string (mk (partL rd rs1 rs2 imm csr 40))) ∧ Below w.heap.size w w' := by
  have B : Hid (Below w.heap.size w (w.alloc (.cells (instrC op rd rs1 rs2 imm csr aq rl) 23))) := (Below.refl _ _).alloc (Nat.le_refl _) _
  clear ht
  go_enter Tryz.func65, Tryz.ntmps65
  go_wp2
  go_ret
  exact ⟨rfl, B.out⟩
set_option maxRecDepth 100000 in
theorem part_41 (op rd rs1 rs2 imm csr : Int) (aq rl : Bool) (hf : Fits rd rs1 rs2 imm csr) (w : World) (ht : TabsLie w) : Calls Tryz.prog 65 #[.int .u8 41, .agg (instrC op rd rs1 rs2 imm csr aq rl)] w fun e w' => e = .returned (.string (mk (partL rd rs1 rs2 imm csr 41))) ∧ Below w.heap.size w w' := by
  have B : Hid (Below w.heap.size w (w.alloc (.cells (instrC op rd rs1 rs2 imm csr aq rl) 23))) := (Below.refl _ _).alloc (Nat.le_refl _) _
  clear ht
  go_enter Tryz.func65, Tryz.ntmps65
  go_wp2
  go_ret
  exact ⟨rfl, B.out⟩
end Go.Proofs.YtooaafbdjnlmfaaGreatDoor

namespace Go.Proofs.YtooaafbdjnlmfaaGreatDoor
open Go.RowKit
set_option linter.unusedVariables false
set_option linter.unusedSimpArgs false
def letters : List UInt8 := [100, 97, 98, 110, 117, 99, 44, 40, 41]
theorem part_all (c : UInt8) (hc : c ∈ letters) (op rd rs1 rs2 imm csr : Int) (aq rl : Bool) (hf : Fits rd rs1 rs2 imm csr) (w : World) (ht : TabsLie w) : Calls Tryz.prog 65 #[.int .u8 (c.toNat : Int), .agg (instrC op rd rs1 rs2 imm csr aq rl)] w fun e w' => e = .returned (.string (mk (partL rd rs1 rs2 imm csr c))) ∧ Below w.heap.size w w' := by
  simp only [letters, List.mem_cons, List.not_mem_nil, or_false] at hc
  rcases hc with rfl | rfl | rfl | rfl | rfl | rfl | rfl | rfl | rfl
  · exact part_100 op rd rs1 rs2 imm csr aq rl hf w ht
  · exact part_97 op rd rs1 rs2 imm csr aq rl hf w ht
  · exact part_98 op rd rs1 rs2 imm csr aq rl hf w ht
  · exact part_110 op rd rs1 rs2 imm csr aq rl hf w ht
  · exact part_117 op rd rs1 rs2 imm csr aq rl hf w ht
  · exact part_99 op rd rs1 rs2 imm csr aq rl hf w ht
  · exact part_44 op rd rs1 rs2 imm csr aq rl hf w ht
  · exact part_40 op rd rs1 rs2 imm csr aq rl hf w ht
  · exact part_41 op rd rs1 rs2 imm csr aq rl hf w ht
theorem builder_below {T e : TypeId} {B b : Nat} {bs : List Value} {w w' : World} (h : Lib.IsBuilder T e B b bs w) (hb : Below w.heap.size w w') : Lib.IsBuilder T e B b bs w' := by
  have one : ∀ p, Lib.BuilderAt T e B b p bs w → Lib.BuilderAt T e B b p bs w' := fun p ⟨h1, v, h2, h3, h4⟩ =>
    ⟨h1, v, (hb.block b (Array.getElem?_eq_some_iff.1 h2).1).trans h2, h3.kept (below_grownBy hb none) (Classical.em _), h4⟩
  rcases h with h | h
  · exact .inl (one _ h)
  · exact .inr (one _ h)
theorem strCells_mk (l : List UInt8) : Lib.strCells (mk l) = Lib.byteCells l := by
  unfold mk; simp [Lib.strCells, Lib.byteCells]
theorem byteCells_app (a b : List UInt8) : Lib.byteCells a ++ Lib.byteCells b = Lib.byteCells (a ++ b) := by simp [Lib.byteCells]
theorem partL_len (rd rs1 rs2 imm csr : Int) (hf : Fits rd rs1 rs2 imm csr) (c : UInt8) : (partL rd rs1 rs2 imm csr c).length ≤ 40 := by
  have d1 := Lib.itoa_length_le rd (by have := hf.d; omega) (by have := hf.d; omega)
  have d2 := Lib.itoa_length_le rs1 (by have := hf.a; omega) (by have := hf.a; omega)
  have d3 := Lib.itoa_length_le rs2 (by have := hf.b; omega) (by have := hf.b; omega)
  have d4 := Lib.itoa_length_le imm (by have := hf.n; omega) (by have := hf.n; omega)
  have hq := tdiv_bounds imm hf.n
  have d5 := Lib.itoa_length_le (imm.tdiv 4096) hq.1 hq.2
  have d6 := dtext_len 16 16 csr.toNat
  unfold partL regL hexL
  repeat' split
  all_goals first | omega | (simp only [List.length_cons, List.length_nil]; omega) | (simp; omega) | simp
theorem flat_len (f : UInt8 → List UInt8) (h : ∀ c, (f c).length ≤ 40) (l : List UInt8) : (l.flatMap f).length ≤ 40 * l.length := by
  induction l with
  | nil => simp
  | cons c l ih => have := h c; simp at ih ⊢; omega
theorem below_box8 {w w2 : World} {b : Nat} {o : Obj} (h : w.heap[b]? = some o) (hb : Below w.heap.size w w2) : w2.heap[b]? = some o := (hb.block b (Array.getElem?_eq_some_iff.1 h).1).trans h
set_option maxRecDepth 100000 in
set_option maxHeartbeats 2000000 in
theorem write_core (s : ByteArray) (sh : List UInt8) (hsz : s.size = sh.length) (hg : ∀ k (h : k < s.size) (h2 : k < sh.length), s[k] = sh[k]) (hsh : ∀ c ∈ sh, c ∈ letters) (hlen : sh.length ≤ 10) (op rd rs1 rs2 imm csr : Int) (aq rl : Bool) (hf : Fits rd rs1 rs2 imm csr) (w : World) (ht : TabsLie w) :
    Calls Tryz.prog 29 #[.string s, .agg (instrC op rd rs1 rs2 imm csr aq rl)] w fun e w' => e = .returned (.string (mk (sh.flatMap (partL rd rs1 rs2 imm csr)))) ∧ Below w.heap.size w w' := by
  have HG : Hid (∀ k (h : k < s.size) (h2 : k < sh.length), s[k] = sh[k]) := hg
  clear hg
  have B1 : Below w.heap.size w (w.alloc (.cells (instrC op rd rs1 rs2 imm csr aq rl) 23)) := (Below.refl _ _).alloc (Nat.le_refl _) _
  have B2 : Hid (Below w.heap.size w ((w.alloc (.cells (instrC op rd rs1 rs2 imm csr aq rl) 23)).alloc (.cells #[.pointer none, .slice none 0 0] 99))) := B1.alloc B1.size _
  have U2 : Hid (Lib.IsBuilder 99 5 (w.heap.size + 1) (w.heap.size + 1) (Lib.byteCells []) ((w.alloc (.cells (instrC op rd rs1 rs2 imm csr aq rl) 23)).alloc (.cells #[.pointer none, .slice none 0 0] 99))) := by
    have h := Lib.fresh_isBuilder 99 5 (w.alloc (.cells (instrC op rd rs1 rs2 imm csr aq rl) 23))
    rw [show (w.alloc (.cells (instrC op rd rs1 rs2 imm csr aq rl) 23)).heap.size = w.heap.size + 1 from by simp] at h
    exact h
  have X2 : Hid (((w.alloc (.cells (instrC op rd rs1 rs2 imm csr aq rl) 23)).alloc (.cells #[.pointer none, .slice none 0 0] 99)).heap[w.heap.size]? = some (.cells (instrC op rd rs1 rs2 imm csr aq rl) 23 (0, 0))) := (heap_alloc_old _ _ (by simp)).trans (heap_alloc_new w _)
  have T2 : Hid (TabsLie ((w.alloc (.cells (instrC op rd rs1 rs2 imm csr aq rl) 23)).alloc (.cells #[.pointer none, .slice none 0 0] 99))) := tabs_below ht B2.out
  have HT : Hid (TabsLie w) := ht
  clear ht B1
  have hl10 : (s.size : Int) ≤ 10 := by omega
  go_enter Tryz.func29, Tryz.ntmps29
  go_wp2
  generalize (w.alloc (.cells (instrC op rd rs1 rs2 imm csr aq rl) 23)).alloc (.cells #[.pointer none, .slice none 0 0] 99) = w2 at *
  go_loopw [9] (fun iv wr => ∃ k : Nat, k ≤ sh.length ∧ iv = .int .i64 k ∧ Lib.IsBuilder 99 5 (w.heap.size + 1) (w.heap.size + 1) (Lib.byteCells ((sh.take k).flatMap (partL rd rs1 rs2 imm csr))) wr ∧ wr.heap[w.heap.size]? = some (.cells (instrC op rd rs1 rs2 imm csr aq rl) 23 (0, 0)) ∧ TabsLie wr ∧ Below w.heap.size w wr) (fun iv _ => 20 - (intOf iv).toNat)
  case atStart => exact ⟨0, by omega, rfl, U2.out, X2.out, T2.out, B2.out⟩
  case round =>
    obtain ⟨k, hk, rfl, hu, hx, htl, hbw⟩ := hrel
    clear U2 X2 T2 B2
    have U : Hid (Lib.IsBuilder 99 5 (w.heap.size + 1) (w.heap.size + 1) (Lib.byteCells ((sh.take k).flatMap (partL rd rs1 rs2 imm csr))) wr) := hu
    have X : Hid (wr.heap[w.heap.size]? = some (.cells (instrC op rd rs1 rs2 imm csr aq rl) 23 (0, 0)) ∧ TabsLie wr ∧ Below w.heap.size w wr) := ⟨hx, htl, hbw⟩
    clear hu hx htl hbw
    by_cases hlt : k < sh.length
    · have hks : k < s.size := by omega
      have hki : (k : Int) < s.size := by omega
      have hsk := HG.out k hks hlt
      have hmem : sh[k] ∈ letters := hsh _ (List.getElem_mem hlt)
      have hpl := partL_len rd rs1 rs2 imm csr hf sh[k]
      have hpre := flat_len (partL rd rs1 rs2 imm csr) (partL_len rd rs1 rs2 imm csr hf) (sh.take k)
      have htk : (sh.take k).length ≤ 10 := by rw [List.length_take]; omega
      have hstep : (sh.take (k + 1)).flatMap (partL rd rs1 rs2 imm csr) = (sh.take k).flatMap (partL rd rs1 rs2 imm csr) ++ partL rd rs1 rs2 imm csr sh[k] := by
        rw [List.take_succ_eq_append_getElem hlt, List.flatMap_append]; simp [List.flatMap_cons]
      have HST : Hid _ := hstep
      have HP : Hid (∀ V, TabsLie V → Calls Tryz.prog 65 #[.int .u8 (s[k].toNat : Int), .agg (instrC op rd rs1 rs2 imm csr aq rl)] V fun e w' => e = .returned (.string (mk (partL rd rs1 rs2 imm csr sh[k]))) ∧ Below V.heap.size V w') := fun V hV => by rw [hsk]; exact part_all sh[k] hmem op rd rs1 rs2 imm csr aq rl hf V hV
      have HW : Hid (∀ V, Lib.IsBuilder 99 5 (w.heap.size + 1) (w.heap.size + 1) (Lib.byteCells ((sh.take k).flatMap (partL rd rs1 rs2 imm csr))) V → w.heap.size + 1 ≤ V.heap.size → Calls Tryz.prog 64 #[.pointer (some ⟨w.heap.size + 1, 0, none⟩), .string (mk (partL rd rs1 rs2 imm csr sh[k]))] V fun e w' => e = .returned (.tuple #[.int .i64 ((mk (partL rd rs1 rs2 imm csr sh[k])).size : Nat), .nilIface]) ∧ (Lib.BuilderAt 99 5 (w.heap.size + 1) (w.heap.size + 1) (.pointer (some ⟨w.heap.size + 1, 0, none⟩)) (Lib.byteCells ((sh.take k).flatMap (partL rd rs1 rs2 imm csr)) ++ Lib.strCells (mk (partL rd rs1 rs2 imm csr sh[k]))) w' ∧ Below (w.heap.size + 1) V w')) := fun V hV hB => writes_any _ _ _ _ V hV (by rw [Lib.byteCells_length, mk_size]; omega) hB
      rw [strCells_mk, byteCells_app, ← HST.out] at HW
      have HP2 : Hid (∀ V, Below wr.heap.size wr V → Calls Tryz.prog 65 #[.int .u8 (s[k].toNat : Int), .agg (instrC op rd rs1 rs2 imm csr aq rl)] V fun e w' => e = .returned (.string (mk (partL rd rs1 rs2 imm csr sh[k]))) ∧ Below V.heap.size V w') := fun V hV => HP.out V (tabs_below X.out.2.1 hV)
      have HW2 : Hid (∀ V, Below wr.heap.size wr V → Calls Tryz.prog 64 #[.pointer (some ⟨w.heap.size + 1, 0, none⟩), .string (mk (partL rd rs1 rs2 imm csr sh[k]))] V fun e w' => e = .returned (.tuple #[.int .i64 ((mk (partL rd rs1 rs2 imm csr sh[k])).size : Nat), .nilIface]) ∧ (Lib.BuilderAt 99 5 (w.heap.size + 1) (w.heap.size + 1) (.pointer (some ⟨w.heap.size + 1, 0, none⟩)) (Lib.byteCells ((sh.take (k + 1)).flatMap (partL rd rs1 rs2 imm csr))) w' ∧ Below (w.heap.size + 1) V w')) := fun V hV => HW.out V (builder_below U.out hV) (by have := hV.size; have := (Array.getElem?_eq_some_iff.1 X.out.1).1; omega)
      clear hpl hpre htk hstep hmem hsk HP HW
      generalize mk (partL rd rs1 rs2 imm csr sh[k]) = pt at *
      obtain ⟨q0, q1, q2, q3, q4, q5, q6, q7⟩ := box8_facts X.out.1
      go_wp2_with fail
      go_region_held3 (fun V => V.cell? ⟨w.heap.size, 0, none⟩ = some (.int .i64 op) ∧ V.cell? ⟨w.heap.size, 1, none⟩ = some (.int .i64 rd) ∧ V.cell? ⟨w.heap.size, 2, none⟩ = some (.int .i64 rs1) ∧ V.cell? ⟨w.heap.size, 3, none⟩ = some (.int .i64 rs2) ∧ V.cell? ⟨w.heap.size, 4, none⟩ = some (.int .i64 imm) ∧ V.cell? ⟨w.heap.size, 5, none⟩ = some (.int .i64 csr) ∧ V.cell? ⟨w.heap.size, 6, none⟩ = some (.bool aq) ∧ V.cell? ⟨w.heap.size, 7, none⟩ = some (.bool rl)) (go_keep) (first | (go_at_call 65; (with_reducible refine Calls.mono (HP2.out _ (by repeat (first | exact Z4.out | exact Below.refl _ _ | with_reducible refine Below.drew ?_))) ?_); rintro e w4 ⟨rfl, hb4⟩; have Z4 : Hid (Below wr.heap.size wr w4) := below_call (by repeat (first | exact Z4.out | exact Below.refl _ _ | with_reducible refine Below.drew ?_)) hb4; obtain ⟨p0, p1, p2, p3, p4, p5, p6, p7⟩ := box8_facts (below_box8 X.out.1 Z4.out)) | (go_at_call 64; (with_reducible refine Calls.mono (HW2.out _ (by repeat (first | exact Z4.out | exact Below.refl _ _ | with_reducible refine Below.drew ?_))) ?_); rintro e w5 ⟨rfl, hu5, hb5⟩; have Z5 : Hid (Lib.IsBuilder 99 5 (w.heap.size + 1) (w.heap.size + 1) (Lib.byteCells ((sh.take (k + 1)).flatMap (partL rd rs1 rs2 imm csr))) w5 ∧ Below (w.heap.size + 1) wr w5) := ⟨.inr hu5, Below.trans (Below.mono (by repeat (first | exact Z4.out | exact Below.refl _ _ | with_reducible refine Below.drew ?_)) (by have := (Array.getElem?_eq_some_iff.1 X.out.1).1; omega)) hb5⟩; obtain ⟨o0, o1, o2, o3, o4, o5, o6, o7⟩ := box8_facts ((Z5.out.2.block w.heap.size (by omega)).trans X.out.1)))
      all_goals go_wp2_with fail
      all_goals go_roundw
      case rel => exact ⟨k + 1, by omega, by go_num, Z5.out.1, (Z5.out.2.block w.heap.size (by omega)).trans X.out.1, tabs_below HT.out (X.out.2.2.trans (Z5.out.2.mono (by omega))), X.out.2.2.trans (Z5.out.2.mono (by omega))⟩
      case measure => simp [intOf]; omega
    · obtain rfl : k = sh.length := by omega
      have hst : Hid (Calls Tryz.prog 66 #[.pointer (some ⟨w.heap.size + 1, 0, none⟩)] wr fun e w' => e = .returned (.string (mk (sh.flatMap (partL rd rs1 rs2 imm csr)))) ∧ Below (w.heap.size + 1) wr w') := by
        have h := Tryz.Builder_String_any (w.heap.size + 1) (w.heap.size + 1) _ wr U.out (by have := (Array.getElem?_eq_some_iff.1 X.out.1).1; omega)
        rw [List.take_length] at h
        exact h
      go_wp2_with (first | (go_at_call 66; (with_reducible refine Calls.mono hst.out ?_); rintro e w6 ⟨rfl, hb6⟩))
      go_ret
      exact ⟨rfl, X.out.2.2.trans (hb6.mono (by omega))⟩
theorem write_any (sh : List UInt8) (hsh : ∀ c ∈ sh, c ∈ letters) (hlen : sh.length ≤ 10) (op rd rs1 rs2 imm csr : Int) (aq rl : Bool) (hf : Fits rd rs1 rs2 imm csr) (w : World) (ht : TabsLie w) :
    Calls Tryz.prog 29 #[.string (mk sh), .agg (instrC op rd rs1 rs2 imm csr aq rl)] w fun e w' => e = .returned (.string (mk (sh.flatMap (partL rd rs1 rs2 imm csr)))) ∧ Below w.heap.size w w' :=
  write_core (mk sh) sh (mk_size sh) (fun k h h2 => rfl) hsh hlen op rd rs1 rs2 imm csr aq rl hf w ht
end Go.Proofs.YtooaafbdjnlmfaaGreatDoor

namespace Go.Proofs.YtooaafbdjnlmfaaGreatDoor
open Go.RowKit
set_option linter.unusedVariables false
set_option linter.unusedSimpArgs false
theorem mostI_le (f : Nat) (p m : Int) (hm : 0 ≤ m) : mostI f p m ≤ m := by
  unfold mostI mostN; split <;> omega
theorem span_lo : ∀ f, f < 17 → -2147483648 ≤ (spanN f).1 ∧ (spanN f).2.1 ≤ 2147483647 := by decide
theorem fits_of (op rd rs1 rs2 imm csr : Int) (aq rl : Bool) (h : rightB op rd rs1 rs2 imm csr aq rl = true) : Fits rd rs1 rs2 imm csr ∧ 1 ≤ op ∧ op ≤ 98 := by
  unfold rightB partsB at h
  simp only [Bool.and_eq_true, decide_eq_true_eq, amongB, immB] at h
  obtain ⟨h0, ⟨h1, h2, h3, h4, _⟩, h5, h6, _⟩ := h
  have m1 := mostI_le (formI op) 1 31 (by omega)
  have m2 := mostI_le (formI op) 2 31 (by omega)
  have m3 := mostI_le (formI op) 4 31 (by omega)
  have m4 := mostI_le (formI op) 8 4095 (by omega)
  have hs := span_lo (formI op) (formI_lt op)
  refine ⟨⟨by omega, by omega, by omega, by omega, by omega⟩, ?_⟩
  by_cases hr : 1 ≤ op ∧ op ≤ 98
  · exact hr
  · exact absurd (formI_no op hr) h0
theorem mk_empty (l : List UInt8) : (mk l).toList.isEmpty = l.isEmpty := by rw [Lib.toList_data]; rfl
/-- an instruction's text -/
def printL (op rd rs1 rs2 imm csr : Int) (aq rl : Bool) : List UInt8 := dNames.getD (op.toNat - 1) [] ++ markL aq rl ++ if shapesT.getD op.toNat [] = [] then [] else 32 :: (shapesT.getD op.toNat []).flatMap (partL rd rs1 rs2 imm csr)
theorem shapes_letters : ((List.range 99).all fun k => (shapesT.getD k []).all fun c => letters.contains c) = true := by decide +kernel
theorem shape_ok (k : Nat) (h : k < 99) : (∀ c ∈ shapesT.getD k [], c ∈ letters) ∧ (shapesT.getD k []).length ≤ 10 := by
  have h1 := List.all_eq_true.1 shapes_letters k (List.mem_range.2 h)
  refine ⟨fun c hc => ?_, ?_⟩
  · have := List.all_eq_true.1 h1 c hc
    simpa using this
  · have : ((List.range 99).all fun k => decide ((shapesT.getD k []).length ≤ 10)) = true := by decide +kernel
    simpa using List.all_eq_true.1 this k (List.mem_range.2 h)
theorem name_len : ((List.range 98).all fun k => decide ((dNames.getD k []).length ≤ 20)) = true := by decide +kernel
theorem mark_len (aq rl : Bool) : (markL aq rl).length ≤ 5 := by cases aq <;> cases rl <;> decide
set_option maxRecDepth 100000 in
theorem print_no (op rd rs1 rs2 imm csr : Int) (aq rl : Bool) (h : rightB op rd rs1 rs2 imm csr aq rl = false) (w : World) (t : Tabs w) : Calls Tryz.prog 9 #[.agg (instrC op rd rs1 rs2 imm csr aq rl)] w fun e w' => e = .returned (.string (mk [])) ∧ Below w.heap.size w w' := by
  have B : Hid (Below w.heap.size w (w.alloc (.cells (instrC op rd rs1 rs2 imm csr aq rl) 23))) := (Below.refl _ _).alloc (Nat.le_refl _) _
  have HR : Hid (Calls Tryz.prog 24 #[.agg (instrC op rd rs1 rs2 imm csr aq rl)] (w.alloc (.cells (instrC op rd rs1 rs2 imm csr aq rl) 23)) fun e w' => e = .returned (.int .i64 30) ∧ Below (w.alloc (.cells (instrC op rd rs1 rs2 imm csr aq rl) 23)).heap.size (w.alloc (.cells (instrC op rd rs1 rs2 imm csr aq rl) 23)) w') := by
    have h2 := right_any op rd rs1 rs2 imm csr aq rl _ (t.below B.out)
    rw [rightE_no h] at h2
    exact h2
  clear t h
  go_enter Tryz.func9, Tryz.ntmps9
  go_wp2_with (go_at_call 24; (with_reducible refine Calls.mono HR.out ?_); rintro e w' ⟨rfl, hb⟩)
  go_ret
  exact ⟨rfl, below_call B.out hb⟩
set_option maxRecDepth 100000 in
set_option maxHeartbeats 2000000 in
theorem print_yes (op rd rs1 rs2 imm csr : Int) (aq rl : Bool) (h : rightB op rd rs1 rs2 imm csr aq rl = true) (w : World) (t : Tabs w) (nm : NamesAt w) (ht : TabsLie w) : Calls Tryz.prog 9 #[.agg (instrC op rd rs1 rs2 imm csr aq rl)] w fun e w' => e = .returned (.string (mk (printL op rd rs1 rs2 imm csr aq rl))) ∧ Below w.heap.size w w' := by
  obtain ⟨hf, ho1, ho2⟩ := fits_of op rd rs1 rs2 imm csr aq rl h
  obtain ⟨k, rfl⟩ : ∃ k : Nat, op = k := ⟨op.toNat, by omega⟩
  have hk1 : 1 ≤ k := by omega
  have hk2 : k < 99 := by omega
  have B : Hid (Below w.heap.size w (w.alloc (.cells (instrC k rd rs1 rs2 imm csr aq rl) 23))) := (Below.refl _ _).alloc (Nat.le_refl _) _
  have X : Hid ((w.alloc (.cells (instrC k rd rs1 rs2 imm csr aq rl) 23)).heap[w.heap.size]? = some (.cells (instrC k rd rs1 rs2 imm csr aq rl) 23 (0, 0))) := heap_alloc_new w _
  have TT : Hid (∀ V, Below w.heap.size w V → Tabs V ∧ NamesAt V ∧ TabsLie V) := fun V hV => ⟨t.below hV, nm.below t.2.2.2.2 hV, tabs_below ht hV⟩
  have TB : Hid (∀ V, Below (w.alloc (.cells (instrC k rd rs1 rs2 imm csr aq rl) 23)).heap.size (w.alloc (.cells (instrC k rd rs1 rs2 imm csr aq rl) 23)) V → Below w.heap.size w V) := fun V hV => below_call B.out hV
  have HR : Hid (Calls Tryz.prog 24 #[.agg (instrC k rd rs1 rs2 imm csr aq rl)] (w.alloc (.cells (instrC k rd rs1 rs2 imm csr aq rl) 23)) fun e w' => e = .returned (.int .i64 0) ∧ Below (w.alloc (.cells (instrC k rd rs1 rs2 imm csr aq rl) 23)).heap.size (w.alloc (.cells (instrC k rd rs1 rs2 imm csr aq rl) 23)) w') := by
    have h2 := right_any k rd rs1 rs2 imm csr aq rl _ (t.below B.out)
    rw [rightE_yes h] at h2
    exact h2
  have HNM : Hid (∀ V, Below (w.alloc (.cells (instrC k rd rs1 rs2 imm csr aq rl) 23)).heap.size (w.alloc (.cells (instrC k rd rs1 rs2 imm csr aq rl) 23)) V → Calls Tryz.prog 26 #[.int .i64 (k : Nat)] V fun e w' => e = .returned (.string (mk (dNames.getD (k - 1) []))) ∧ w' = V) := fun V hV => by
    have h2 := name_any (k : Nat) V (TT.out V (TB.out V hV)).1 (TT.out V (TB.out V hV)).2.1
    rw [show nameI (k : Nat) = mk (dNames.getD (k - 1) []) from by unfold nameI; rw [if_pos ⟨by omega, by omega⟩]; rfl] at h2
    exact h2
  have HMK : Hid (∀ V, Calls Tryz.prog 27 #[.agg (instrC k rd rs1 rs2 imm csr aq rl)] V fun e w' => e = .returned (.string (mk (markL aq rl))) ∧ Below V.heap.size V w') := fun V => mark_any k rd rs1 rs2 imm csr aq rl V
  have HSH : Hid (∀ V, Below (w.alloc (.cells (instrC k rd rs1 rs2 imm csr aq rl) 23)).heap.size (w.alloc (.cells (instrC k rd rs1 rs2 imm csr aq rl) 23)) V → Calls Tryz.prog 28 #[.int .i64 (k : Nat)] V fun e w' => e = .returned (.string (mk (shapesT.getD k []))) ∧ w' = V) := fun V hV => shape_any k hk1 hk2 V (TT.out V (TB.out V hV)).1
  have HWR : Hid (∀ V, Below (w.alloc (.cells (instrC k rd rs1 rs2 imm csr aq rl) 23)).heap.size (w.alloc (.cells (instrC k rd rs1 rs2 imm csr aq rl) 23)) V → Calls Tryz.prog 29 #[.string (mk (shapesT.getD k [])), .agg (instrC k rd rs1 rs2 imm csr aq rl)] V fun e w' => e = .returned (.string (mk ((shapesT.getD k []).flatMap (partL rd rs1 rs2 imm csr)))) ∧ Below V.heap.size V w') := fun V hV => write_any _ (shape_ok k hk2).1 (shape_ok k hk2).2 k rd rs1 rs2 imm csr aq rl hf V (TT.out V (TB.out V hV)).2.2
  have l1 : (mk (dNames.getD (k - 1) [])).size ≤ 20 := by
    rw [mk_size]; simpa using List.all_eq_true.1 name_len (k - 1) (List.mem_range.2 (by omega))
  have l2 : (mk (markL aq rl)).size ≤ 5 := by rw [mk_size]; exact mark_len aq rl
  have l12 : ¬ 9223372036854775807 < (mk (dNames.getD (k - 1) [])).size + (mk (markL aq rl)).size := by omega
  have l3 : (mk ((shapesT.getD k []).flatMap (partL rd rs1 rs2 imm csr))).size ≤ 400 := by
    rw [mk_size]
    have := flat_len (partL rd rs1 rs2 imm csr) (partL_len rd rs1 rs2 imm csr hf) (shapesT.getD k [])
    have := (shape_ok k hk2).2
    omega
  have HPL : Hid (mk (printL k rd rs1 rs2 imm csr aq rl) = mk (dNames.getD (k - 1) []) ++ mk (markL aq rl) ++ mk (if shapesT.getD k [] = [] then [] else 32 :: (shapesT.getD k []).flatMap (partL rd rs1 rs2 imm csr))) := by
    show _ = _
    rw [mk_app, mk_app]
    unfold printL
    rw [Int.toNat_natCast]
  clear t nm ht h
  by_cases hsh : shapesT.getD k [] = []
  · rw [if_pos hsh] at HPL
    rw [hsh] at HSH
    clear HWR l3
    have hz : (mk []).toList.isEmpty = true := mk_empty []
    generalize mk (dNames.getD (k - 1) []) = sn at *
    generalize mk (markL aq rl) = sm at *
    generalize mk (printL k rd rs1 rs2 imm csr aq rl) = sp at *
    go_enter Tryz.func9, Tryz.ntmps9
    go_wp2_with (go_at_call 24; (with_reducible refine Calls.mono HR.out ?_); rintro e w2 ⟨rfl, hb2⟩; have Z3 : Hid (Below (w.alloc (.cells (instrC k rd rs1 rs2 imm csr aq rl) 23)).heap.size (w.alloc (.cells (instrC k rd rs1 rs2 imm csr aq rl) 23)) w2) := hb2; obtain ⟨q0, q1, q2, q3, q4, q5, q6, q7⟩ := box8_facts (below_box8 X.out hb2))
    go_region_held3 (fun V => V.cell? ⟨w.heap.size, 0, none⟩ = some (.int .i64 k) ∧ V.cell? ⟨w.heap.size, 1, none⟩ = some (.int .i64 rd) ∧ V.cell? ⟨w.heap.size, 2, none⟩ = some (.int .i64 rs1) ∧ V.cell? ⟨w.heap.size, 3, none⟩ = some (.int .i64 rs2) ∧ V.cell? ⟨w.heap.size, 4, none⟩ = some (.int .i64 imm) ∧ V.cell? ⟨w.heap.size, 5, none⟩ = some (.int .i64 csr) ∧ V.cell? ⟨w.heap.size, 6, none⟩ = some (.bool aq) ∧ V.cell? ⟨w.heap.size, 7, none⟩ = some (.bool rl)) (go_keep) (first | (go_at_call 26; (with_reducible refine Calls.mono (HNM.out _ (by repeat (first | exact Z4.out | exact Z3.out | exact Below.refl _ _ | with_reducible refine Below.drew ?_))) ?_); rintro e w9 ⟨rfl, rfl⟩) | (go_at_call 27; (with_reducible refine Calls.mono (HMK.out _) ?_); rintro e w4 ⟨rfl, hb4⟩; have Z4 : Hid (Below (w.alloc (.cells (instrC k rd rs1 rs2 imm csr aq rl) 23)).heap.size (w.alloc (.cells (instrC k rd rs1 rs2 imm csr aq rl) 23)) w4) := below_call (by repeat (first | exact Z4.out | exact Z3.out | exact Below.refl _ _ | with_reducible refine Below.drew ?_)) hb4; obtain ⟨p0, p1, p2, p3, p4, p5, p6, p7⟩ := box8_facts (below_box8 X.out Z4.out)))
    all_goals go_wp2_with (go_at_call 28; (with_reducible refine Calls.mono (HSH.out _ (by repeat (first | exact Z4.out | exact Z3.out | exact Below.refl _ _ | with_reducible refine Below.drew ?_))) ?_); rintro e w9 ⟨rfl, rfl⟩)
    go_ret
    refine ⟨?_, TB.out _ (by repeat (first | exact Z4.out | exact Z3.out | exact Below.refl _ _ | with_reducible refine Below.drew ?_))⟩
    rw [HPL.out, show mk [] = ByteArray.empty from rfl, ByteArray.append_empty]
    rfl
  · rw [if_neg hsh] at HPL
    have hne : (mk (shapesT.getD k [])).toList.isEmpty = false := by rw [mk_empty]; simpa using hsh
    have HJ : Hid (mk (32 :: (shapesT.getD k []).flatMap (partL rd rs1 rs2 imm csr)) = mk [32] ++ mk ((shapesT.getD k []).flatMap (partL rd rs1 rs2 imm csr))) := by
      show _ = _
      rw [mk_app]; rfl
    rw [HJ.out] at HPL
    clear HJ hsh
    generalize mk ((shapesT.getD k []).flatMap (partL rd rs1 rs2 imm csr)) = sw at *
    generalize mk (shapesT.getD k []) = sh at *
    generalize mk (dNames.getD (k - 1) []) = sn at *
    generalize mk (markL aq rl) = sm at *
    generalize mk (printL k rd rs1 rs2 imm csr aq rl) = sp at *
    have l4 : (sn ++ sm).size ≤ 25 := by rw [ByteArray.size_append]; omega
    go_enter Tryz.func9, Tryz.ntmps9
    go_wp2_with (go_at_call 24; (with_reducible refine Calls.mono HR.out ?_); rintro e w2 ⟨rfl, hb2⟩; have Z3 : Hid (Below (w.alloc (.cells (instrC k rd rs1 rs2 imm csr aq rl) 23)).heap.size (w.alloc (.cells (instrC k rd rs1 rs2 imm csr aq rl) 23)) w2) := hb2; obtain ⟨q0, q1, q2, q3, q4, q5, q6, q7⟩ := box8_facts (below_box8 X.out hb2))
    go_region_held3 (fun V => V.cell? ⟨w.heap.size, 0, none⟩ = some (.int .i64 k) ∧ V.cell? ⟨w.heap.size, 1, none⟩ = some (.int .i64 rd) ∧ V.cell? ⟨w.heap.size, 2, none⟩ = some (.int .i64 rs1) ∧ V.cell? ⟨w.heap.size, 3, none⟩ = some (.int .i64 rs2) ∧ V.cell? ⟨w.heap.size, 4, none⟩ = some (.int .i64 imm) ∧ V.cell? ⟨w.heap.size, 5, none⟩ = some (.int .i64 csr) ∧ V.cell? ⟨w.heap.size, 6, none⟩ = some (.bool aq) ∧ V.cell? ⟨w.heap.size, 7, none⟩ = some (.bool rl)) (go_keep) (first | (go_at_call 26; (with_reducible refine Calls.mono (HNM.out _ (by repeat (first | exact Z4.out | exact Z3.out | exact Below.refl _ _ | with_reducible refine Below.drew ?_))) ?_); rintro e w9 ⟨rfl, rfl⟩) | (go_at_call 27; (with_reducible refine Calls.mono (HMK.out _) ?_); rintro e w4 ⟨rfl, hb4⟩; have Z4 : Hid (Below (w.alloc (.cells (instrC k rd rs1 rs2 imm csr aq rl) 23)).heap.size (w.alloc (.cells (instrC k rd rs1 rs2 imm csr aq rl) 23)) w4) := below_call (by repeat (first | exact Z4.out | exact Z3.out | exact Below.refl _ _ | with_reducible refine Below.drew ?_)) hb4; obtain ⟨p0, p1, p2, p3, p4, p5, p6, p7⟩ := box8_facts (below_box8 X.out Z4.out)))
    generalize sn ++ sm = ss at *
    all_goals go_wp2_with (first | (go_at_call 28; (with_reducible refine Calls.mono (HSH.out _ (by repeat (first | exact Z4.out | exact Z3.out | exact Below.refl _ _ | with_reducible refine Below.drew ?_))) ?_); rintro e w9 ⟨rfl, rfl⟩) | (go_at_call 29; (with_reducible refine Calls.mono (HWR.out _ (by repeat (first | exact Z4.out | exact Z3.out | exact Below.refl _ _ | with_reducible refine Below.drew ?_))) ?_); rintro e w5 ⟨rfl, hb5⟩; have Z5 : Hid (Below (w.alloc (.cells (instrC k rd rs1 rs2 imm csr aq rl) 23)).heap.size (w.alloc (.cells (instrC k rd rs1 rs2 imm csr aq rl) 23)) w5) := below_call (by repeat (first | exact Z4.out | exact Z3.out | exact Below.refl _ _ | with_reducible refine Below.drew ?_)) hb5))
    go_ret
    refine ⟨?_, TB.out _ Z5.out⟩
    rw [HPL.out, ByteArray.append_assoc]
    rfl
end Go.Proofs.YtooaafbdjnlmfaaGreatDoor
