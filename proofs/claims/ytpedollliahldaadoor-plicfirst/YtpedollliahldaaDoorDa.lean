/- The document's calls Word, gate, First and Line. -/
import Derived.Test.YtpedollliahldaaDoorLw
namespace Go.Proofs.YtpedollliahldaaDoor
open Go.RowKit
set_option linter.unusedVariables false
set_option linter.unusedSimpArgs false
set_option maxRecDepth 100000
def Two (w W : World) (c d : Array Value) : Prop := Box 34 W w.heap.size c ∧ Box 34 W (w.heap.size + 1) d ∧ Below w.heap.size w W
theorem Two.step {w W W' : World} {c d : Array Value} (h : Two w W c d) (hb : Below W.heap.size W W') : Two w W' c d := ⟨h.1.step hb, h.2.1.step hb, h.2.2.trans (hb.mono h.2.2.size)⟩
theorem Two.new (w : World) (c d : Array Value) : Two w ((w.alloc (.cells c 34)).alloc (.cells d 34)) c d := by
  refine ⟨(Box.new 34 w c).alloc _, ?_, ((Below.refl _ _).alloc (Nat.le_refl _) _).alloc (by simp) _⟩
  have h := Box.new 34 (w.alloc (.cells c 34)) d
  simpa using h
theorem Two.set {w W : World} {c d : Array Value} (h : Two w W c d) (i : Nat) (v : Value) : Two w (W.setCell ⟨w.heap.size, i, none⟩ v) (c.setIfInBounds i v) d := ⟨h.1.set i v, h.2.1.other i v (by omega), h.2.2.setCell (Nat.le_refl _) v⟩
theorem wpList_enter2 {w : World} {ops : Array Oper} {rest : List Oper} {o1 o2 : Oper} {a : Act} {Q : Exit → Act → World → Prop} (c : Array Value) (x : Operand) (hg1 : o1.guard = none) (ho1 : o1.op = Op.box 34 x) (hx : a.eval x = .agg c) (hg2 : o2.guard = none) (ho2 : o2.op = Op.alloc 34)
    (h : ∀ W, Two w W c (docC zeroS) → wpList Tryd.prog ops Q rest ((a.put o1.dst (.pointer (some ⟨w.heap.size, 0, none⟩))).put o2.dst (.pointer (some ⟨w.heap.size + 1, 0, none⟩))) W) : wpList Tryd.prog ops Q (o1 :: o2 :: rest) a w := by
  refine wpList_box_agg 34 c x hg1 ho1 hx ?_
  refine wpList_alloc_zero 34 (docC zeroS) 194 infoz34 hg2 ho2 ?_
  rw [show (w.alloc (.cells c 34)).heap.size = w.heap.size + 1 from by simp]
  exact h _ (Two.new w c _)
set_option maxHeartbeats 2000000 in
theorem gate_any (S : St) (hS : S.Ok) (w : World) : Calls Tryd.prog 37 #[.agg (docC S)] w fun e w' => e = .returned (.agg (docC (gateS S))) ∧ Below w.heap.size w w' := by
  have HK : Hid (gateK S 32 = gateW S) := gateK_all S hS
  clear hS
  go_enter Tryd.func37, Tryd.ntmps37
  go_upto_region 0 with fail
  refine wp_region_list ?_
  refine wpList_enter2 _ _ rfl rfl rfl rfl rfl ?_
  intro W hT0
  have T0 : Hid (Two w W (docC (S)) (docC zeroS)) := hT0
  clear hT0
  go_wp2_with fail
  go_loopw [3] (fun i wr => ∃ k : Nat, 1 ≤ k ∧ k ≤ 32 ∧ i = .int .i64 k ∧ Two w wr (docC { S with waits := gateK S k }) (docC zeroS)) (fun i _ => 32 - (intOf i).toNat)
  case atStart => exact ⟨1, by omega, by omega, rfl, by rw [gateK_one]; exact T0.out⟩
  case round =>
    obtain ⟨k, hk1, hk, rfl, hT⟩ := hrel
    have T1 : Hid (Two w wr (docC { S with waits := gateK S k }) (docC zeroS)) := hT
    clear hT T0
    by_cases hlt : k < 32
    · have f1 : wr.cell? ⟨w.heap.size, 32 + k, none⟩ = some (.bool (S.high.testBit k)) := T1.out.1.dhigh k hlt
      have f3 : wr.cell? ⟨w.heap.size, 96 + k, none⟩ = some (.bool (S.serv.testBit k)) := T1.out.1.dserv k hlt
      have hki : (k : Int) < 32 := by omega
      have hst : gateK S (k + 1) = if 1 ≤ k ∧ S.high.testBit k = true ∧ S.serv.testBit k = false then setB (gateK S k) k true else gateK S k := rfl
      cases h1 : S.high.testBit k
      · rw [h1] at f1 hst
        have HS : Hid (gateK S (k + 1) = gateK S k) := by rw [hst, if_neg (by simp)]; rfl
        have HB : Hid (k < 32) := hlt
        clear hst h1 f3 hlt hk hk1
        go_wp2_with fail
        go_roundw
        case rel => exact ⟨k + 1, by omega, HB.out, by go_num, by rw [HS.out]; exact T1.out⟩
        case measure => simp [intOf]; have := HB.out; omega
      · cases h3 : S.serv.testBit k
        · rw [h1] at f1
          rw [h3] at f3
          rw [h1, h3, if_pos ⟨hk1, rfl, rfl⟩] at hst
          have f2 : wr.cell? ⟨w.heap.size, 64 + k, none⟩ = some (.bool ((gateK S k).testBit k)) := T1.out.1.dwaits k hlt
          have z2 := T1.out.1.frozen (64 + k)
          have T2 : Hid (Two w (wr.setCell ⟨w.heap.size, 64 + k, none⟩ (.bool true)) (docC { S with waits := gateK S (k + 1) }) (docC zeroS)) := by
            have h := T1.out.set (64 + k) (.bool true)
            rw [docC_waits _ k true hlt] at h
            rw [hst]
            exact h
          have HB : Hid (k < 32) := hlt
          clear hst h1 h3 hlt hk hk1
          go_wp2_with fail
          go_roundw
          case rel => exact ⟨k + 1, by omega, HB.out, by go_num, T2.out⟩
          case measure => simp [intOf]; have := HB.out; omega
        · rw [h1] at f1
          rw [h3] at f3
          rw [h1, h3] at hst
          have HS : Hid (gateK S (k + 1) = gateK S k) := by rw [hst, if_neg (by simp)]; rfl
          have HB : Hid (k < 32) := hlt
          clear hst h1 h3 hlt hk hk1
          go_wp2_with fail
          go_roundw
          case rel => exact ⟨k + 1, by omega, HB.out, by go_num, by rw [HS.out]; exact T1.out⟩
          case measure => simp [intOf]; have := HB.out; omega
    · obtain rfl : k = 32 := by omega
      have T2 : Hid (Two w wr (docC (gateS S)) (docC zeroS)) := by
        have h := T1.out
        rw [HK.out] at h
        exact h
      clear T1 hlt hk hk1
      go_upto_region 6 with fail
      refine wp_region_list ?_
      refine wpList_load_doc rfl _ rfl w.heap.size (gateS S) rfl T2.out.1 ?_
      refine wpList_store_doc rfl _ _ rfl (w.heap.size + 1) (gateS S) (docC zeroS) rfl rfl T2.out.2.1 (by rw [docC_size, docC_size]) ?_
      intro W9 B9 U9
      have T9 : Hid (Box 34 W9 (w.heap.size + 1) (docC (gateS S)) ∧ Below w.heap.size w W9) := ⟨B9, T2.out.2.2.trans (U9.below (Nat.le_succ _) T2.out.2.2.size)⟩
      clear B9 U9
      go_wp2_with fail
      exact bodyPost_ret (v := .agg (docC (gateS S))) (results_cell_row rfl _ _ (w.heap.size + 1) 34 _ (0, 0) _ rfl T9.out.1 Tryd.underlying34 rfl (info34 _)) rfl ⟨rfl, T9.out.2⟩
end Go.Proofs.YtpedollliahldaaDoor
