/- Texts put together. -/
import Derived.Test.YtlkhjekakbckmaaYb
import Derived.Deep.Upon
import Derived.Maps.Ext
import Derived.Lib.SlMapEqual
import Derived.Laws.Rows
import Derived.ChangeKeysEq
import Derived.Laws.NewBlocks
import Derived.Deep.CutBlock
import Derived.Deep.RegionWith
/- The table that a descriptor names. -/
namespace Go.Proofs.Ytlkhjekakbckmaa
open Go.RowKit Go.Maps
set_option linter.unusedVariables false
set_option linter.unusedSimpArgs false
set_option maxRecDepth 100000
theorem info38 : (Try.prog.info? 42).map (·.size) = some 2 := by kernel_rfl
theorem three_in (w : World) (o1 o2 o3 : Obj) : (((w.alloc o1).alloc o2).alloc o3).heap[w.heap.size]? = some o1 ∧ (((w.alloc o1).alloc o2).alloc o3).heap[w.heap.size + 1]? = some o2 ∧ (((w.alloc o1).alloc o2).alloc o3).heap[w.heap.size + 1 + 1]? = some o3 ∧ Below w.heap.size w (((w.alloc o1).alloc o2).alloc o3) := by
  have h := two_in w o1 o2
  have hb : Below ((w.alloc o1).alloc o2).heap.size ((w.alloc o1).alloc o2) (((w.alloc o1).alloc o2).alloc o3) := (Below.refl _ _).alloc (Nat.le_refl _) _
  have hs : ((w.alloc o1).alloc o2).heap.size = w.heap.size + 1 + 1 := by simp
  refine ⟨below_box h.1 hb, below_box h.2 hb, ?_, (((Below.refl _ _).alloc (Nat.le_refl _) _).alloc (by simp) _).alloc (by simp; omega) _⟩
  rw [← hs]; exact heap_alloc_new _ _
theorem tabE_nest {d : De} {al : Bool} (h : (!al || fl d.f 1) = true) : tabE d al = 153 := by simp only [tabE, h, if_true]
theorem tabE_bad {d : De} {al : Bool} (h : (!al || fl d.f 1) = false) (h2 : d.l = 0 ∨ 4096 < d.l ∨ ¬ d.l % 16 = 0) : tabE d al = 154 := by
  have : (decide (d.l = 0) || decide (4096 < d.l) || decide (¬ d.l % 16 = 0)) = true := by
    simp only [Bool.or_eq_true, decide_eq_true_iff]
    omega
  rw [tabE, h, if_neg (by decide), this, if_pos rfl]
theorem tabE_go {d : De} {al : Bool} (h : (!al || fl d.f 1) = false) (h2 : ¬ (d.l = 0 ∨ 4096 < d.l ∨ ¬ d.l % 16 = 0)) : tabE d al = if inB d.a d.l 2147483648 8192 = true then 0 else 21 := by
  have : (decide (d.l = 0) || decide (4096 < d.l) || decide (¬ d.l % 16 = 0)) = false := by
    simp only [Bool.or_eq_false_iff, decide_eq_false_iff_not]
    omega
  rw [tabE, h, if_neg (by decide), this, if_neg (by decide)]
/-- the piece that is told -/
def tabV (e da dl : Nat) : Value := if e = 0 then .agg #[.int .u64 (da : Int), .int .u64 (dl : Int)] else .agg #[.int .u64 0, .int .u64 0]
set_option maxHeartbeats 2000000 in
theorem tab_any {rb wb : Nat} {w : World} {v : Value} (da dl df dx : Nat) (hd : (De.mk da dl df dx).Ok) (al : Bool) (hwb : w.heap[wb]? = some (.cells #[.pointer (some ⟨rb, 0, none⟩), v] 260 (0, 0))) (hh : ∀ V, Below w.heap.size w V → Calls Try.prog 57 #[.pointer (some ⟨rb, 0, none⟩), .int .u64 (da : Int), .int .u64 (dl : Int)] V fun e w' => e = .returned (.bool (inB da dl 2147483648 8192)) ∧ w' = V) :
    Calls Try.prog 163 #[.pointer (some ⟨wb, 0, none⟩), .agg #[.int .u64 (da : Int), .int .u32 (dl : Int), .int .u16 (df : Int), .int .u16 (dx : Int)], .bool al] w fun e w' => e = .returned (.tuple #[tabV (tabE ⟨da, dl, df, dx⟩ al) da dl, .int .i64 (tabE ⟨da, dl, df, dx⟩ al : Int)]) ∧ Below w.heap.size w w' := by
  have hf : df ≤ 65535 := hd.f
  have hl5 : dl ≤ 4294967295 := hd.l
  have hwr : IntKind.u64.wrap (dl : Int) = (dl : Int) := by rw [wrap_u64]; omega
  have X0 : Hid ((((w.alloc (.cells #[.int .u64 (da : Int), .int .u32 (dl : Int), .int .u16 (df : Int), .int .u16 (dx : Int)] 94)).alloc (.cells #[.int .u64 0, .int .u64 0] 42)).alloc (.cells #[.int .u64 (da : Int), .int .u64 (dl : Int)] 42)).heap[w.heap.size]? = some (.cells #[.int .u64 (da : Int), .int .u32 (dl : Int), .int .u16 (df : Int), .int .u16 (dx : Int)] 94 (0, 0)) ∧ (((w.alloc (.cells #[.int .u64 (da : Int), .int .u32 (dl : Int), .int .u16 (df : Int), .int .u16 (dx : Int)] 94)).alloc (.cells #[.int .u64 0, .int .u64 0] 42)).alloc (.cells #[.int .u64 (da : Int), .int .u64 (dl : Int)] 42)).heap[w.heap.size + 1]? = some (.cells #[.int .u64 0, .int .u64 0] 42 (0, 0)) ∧ (((w.alloc (.cells #[.int .u64 (da : Int), .int .u32 (dl : Int), .int .u16 (df : Int), .int .u16 (dx : Int)] 94)).alloc (.cells #[.int .u64 0, .int .u64 0] 42)).alloc (.cells #[.int .u64 (da : Int), .int .u64 (dl : Int)] 42)).heap[w.heap.size + 1 + 1]? = some (.cells #[.int .u64 (da : Int), .int .u64 (dl : Int)] 42 (0, 0)) ∧ Below w.heap.size w (((w.alloc (.cells #[.int .u64 (da : Int), .int .u32 (dl : Int), .int .u16 (df : Int), .int .u16 (dx : Int)] 94)).alloc (.cells #[.int .u64 0, .int .u64 0] 42)).alloc (.cells #[.int .u64 (da : Int), .int .u64 (dl : Int)] 42))) := three_in w _ _ _
  have HW : Hid (∀ V, Below w.heap.size w V → V.cell? ⟨wb, 0, none⟩ = some (.pointer (some ⟨rb, 0, none⟩))) := fun V hV => cellOf (below_box hwb hV) 0 _ rfl
  have HH : Hid (∀ V, Below w.heap.size w V → Calls Try.prog 57 #[.pointer (some ⟨rb, 0, none⟩), .int .u64 (da : Int), .int .u64 (dl : Int)] V fun e w' => e = .returned (.bool (inB da dl 2147483648 8192)) ∧ w' = V) := hh
  obtain ⟨te, hte⟩ : ∃ te, tabE ⟨da, dl, df, dx⟩ al = te := ⟨_, rfl⟩
  rw [hte]
  have HT : Hid (tabE ⟨da, dl, df, dx⟩ al = te) := hte
  clear hte hwb hh hd
  go_enter Try.func163, Try.ntmps163
  go_upto_region 2 with fail
  generalize ((w.alloc (.cells #[.int .u64 (da : Int), .int .u32 (dl : Int), .int .u16 (df : Int), .int .u16 (dx : Int)] 94)).alloc (.cells #[.int .u64 0, .int .u64 0] 42)).alloc (.cells #[.int .u64 (da : Int), .int .u64 (dl : Int)] 42) = v0 at *
  obtain ⟨d0, d1, d2, d3⟩ := box4_facts X0.out.1
  obtain ⟨p0, p1, _, _⟩ := box_facts X0.out.2.2.1
  cases al with
  | false =>
    have HE : Hid (te = 153) := HT.out.symm.trans (tabE_nest rfl)
    go_upto_region 3 with fail
    refine wp_region_list ?_
    (refine wpList_step (fun KK hKK => ?_); go_simp; refine hKK _ _ ?_; clear hKK KK)
    refine wpList_store_row rfl 42 _ _ rfl (w.heap.size + 1) #[.int .u64 0, .int .u64 0] rfl rfl 42 #[.int .u64 0, .int .u64 0] X0.out.2.1 info38 rfl (by simp [Value.oneCell']) ?_
    have HY : Hid (Below w.heap.size w (v0.setRow (w.heap.size + 1) #[.int .u64 0, .int .u64 0]) ∧ (v0.setRow (w.heap.size + 1) #[.int .u64 0, .int .u64 0]).heap[w.heap.size + 1]? = some (.cells #[.int .u64 0, .int .u64 0] 42 (0, 0))) := ⟨below_setRow X0.out.2.2.2 (Nat.le_succ _) _, setRow_heap _ _ _ _ _ _ X0.out.2.1⟩
    generalize v0.setRow (w.heap.size + 1) #[.int .u64 0, .int .u64 0] = w9 at *
    obtain ⟨c0, c1, _, _⟩ := box_facts HY.out.2
    go_wp2_with fail
    refine bodyPost_ret (v := .tuple #[.agg #[.int .u64 0, .int .u64 0], .int .i64 153]) (by simp [results, Try.results163, go_sem, c0, c1]) rfl ?_
    rw [HE.out]
    exact ⟨rfl, HY.out.1⟩
  | true =>
    obtain ⟨f1, hf1⟩ : ∃ b, fl df 1 = b := ⟨_, rfl⟩
    have H1 : Hid (∀ V, Calls Try.prog 162 #[.agg #[.int .u64 (da : Int), .int .u32 (dl : Int), .int .u16 (df : Int), .int .u16 (dx : Int)], .int .u16 1] V fun e w' => e = .returned (.bool f1) ∧ Below V.heap.size V w') := by
      intro V; rw [← hf1]; exact hasf1 da dl df dx hf V
    have HF1 : Hid ((!true || fl (De.mk da dl df dx).f 1) = f1) := hf1
    clear hf1
    have ARM : True := trivial
    cases f1 with
    | true =>
      have HE : Hid (te = 153) := HT.out.symm.trans (tabE_nest HF1.out)
      go_upto_region 3 with (go_at_call 162; refine (H1.out _).mono ?_; rintro e v1 ⟨rfl, hb⟩; have X1 : Hid (v1.heap[w.heap.size]? = some (.cells #[.int .u64 (da : Int), .int .u32 (dl : Int), .int .u16 (df : Int), .int .u16 (dx : Int)] 94 (0, 0)) ∧ v1.heap[w.heap.size + 1]? = some (.cells #[.int .u64 0, .int .u64 0] 42 (0, 0)) ∧ v1.heap[w.heap.size + 1 + 1]? = some (.cells #[.int .u64 (da : Int), .int .u64 (dl : Int)] 42 (0, 0)) ∧ Below w.heap.size w v1) := ⟨below_box X0.out.1 hb, below_box X0.out.2.1 hb, below_box X0.out.2.2.1 hb, below_to X0.out.2.2.2 hb⟩; clear hb)
      go_upto_region 3 with fail
      refine wp_region_list ?_
      (refine wpList_step (fun KK hKK => ?_); go_simp; refine hKK _ _ ?_; clear hKK KK)
      refine wpList_store_row rfl 42 _ _ rfl (w.heap.size + 1) #[.int .u64 0, .int .u64 0] rfl rfl 42 #[.int .u64 0, .int .u64 0] X1.out.2.1 info38 rfl (by simp [Value.oneCell']) ?_
      have HY : Hid (Below w.heap.size w (v1.setRow (w.heap.size + 1) #[.int .u64 0, .int .u64 0]) ∧ (v1.setRow (w.heap.size + 1) #[.int .u64 0, .int .u64 0]).heap[w.heap.size + 1]? = some (.cells #[.int .u64 0, .int .u64 0] 42 (0, 0))) := ⟨below_setRow X1.out.2.2.2 (Nat.le_succ _) _, setRow_heap _ _ _ _ _ _ X1.out.2.1⟩
      generalize v1.setRow (w.heap.size + 1) #[.int .u64 0, .int .u64 0] = w9 at *
      obtain ⟨c0, c1, _, _⟩ := box_facts HY.out.2
      go_wp2_with fail
      refine bodyPost_ret (v := .tuple #[.agg #[.int .u64 0, .int .u64 0], .int .i64 153]) (by simp [results, Try.results163, go_sem, c0, c1]) rfl ?_
      rw [HE.out]
      exact ⟨rfl, HY.out.1⟩
    | false =>
      go_upto_region 4 with (go_at_call 162; refine (H1.out _).mono ?_; rintro e v1 ⟨rfl, hb⟩; have X1 : Hid (v1.heap[w.heap.size]? = some (.cells #[.int .u64 (da : Int), .int .u32 (dl : Int), .int .u16 (df : Int), .int .u16 (dx : Int)] 94 (0, 0)) ∧ v1.heap[w.heap.size + 1]? = some (.cells #[.int .u64 0, .int .u64 0] 42 (0, 0)) ∧ v1.heap[w.heap.size + 1 + 1]? = some (.cells #[.int .u64 (da : Int), .int .u64 (dl : Int)] 42 (0, 0)) ∧ Below w.heap.size w v1) := ⟨below_box X0.out.1 hb, below_box X0.out.2.1 hb, below_box X0.out.2.2.1 hb, below_to X0.out.2.2.2 hb⟩; clear hb)
      clear X0 d0 d1 d2 d3 p0 p1
      obtain ⟨d0, d1, d2, d3⟩ := box4_facts X1.out.1
      obtain ⟨p0, p1, _, _⟩ := box_facts X1.out.2.2.1
      by_cases hbad : dl = 0 ∨ 4096 < dl ∨ ¬ dl % 16 = 0
      · have HE : Hid (te = 154) := HT.out.symm.trans (tabE_bad HF1.out hbad)
        by_cases z0 : dl = 0
        · have e0 : ((dl : Int) == 0) = true := by simp [z0]
          clear z0 hbad
          go_upto_region 5 with fail
          refine wp_region_list ?_
          (refine wpList_step (fun KK hKK => ?_); go_simp; refine hKK _ _ ?_; clear hKK KK)
          refine wpList_store_row rfl 42 _ _ rfl (w.heap.size + 1) #[.int .u64 0, .int .u64 0] rfl rfl 42 #[.int .u64 0, .int .u64 0] X1.out.2.1 info38 rfl (by simp [Value.oneCell']) ?_
          have HY : Hid (Below w.heap.size w (v1.setRow (w.heap.size + 1) #[.int .u64 0, .int .u64 0]) ∧ (v1.setRow (w.heap.size + 1) #[.int .u64 0, .int .u64 0]).heap[w.heap.size + 1]? = some (.cells #[.int .u64 0, .int .u64 0] 42 (0, 0))) := ⟨below_setRow X1.out.2.2.2 (Nat.le_succ _) _, setRow_heap _ _ _ _ _ _ X1.out.2.1⟩
          generalize v1.setRow (w.heap.size + 1) #[.int .u64 0, .int .u64 0] = w9 at *
          obtain ⟨c0, c1, _, _⟩ := box_facts HY.out.2
          go_wp2_with fail
          refine bodyPost_ret (v := .tuple #[.agg #[.int .u64 0, .int .u64 0], .int .i64 154]) (by simp [results, Try.results163, go_sem, c0, c1]) rfl ?_
          rw [HE.out]
          exact ⟨rfl, HY.out.1⟩
        · have e0 : ((dl : Int) == 0) = false := by simp [z0]
          by_cases z1 : 4096 < dl
          · have e1 : (4096 : Int) < dl := by omega
            clear z0 hbad z1
            go_upto_region 5 with fail
            refine wp_region_list ?_
            (refine wpList_step (fun KK hKK => ?_); go_simp; refine hKK _ _ ?_; clear hKK KK)
            refine wpList_store_row rfl 42 _ _ rfl (w.heap.size + 1) #[.int .u64 0, .int .u64 0] rfl rfl 42 #[.int .u64 0, .int .u64 0] X1.out.2.1 info38 rfl (by simp [Value.oneCell']) ?_
            have HY : Hid (Below w.heap.size w (v1.setRow (w.heap.size + 1) #[.int .u64 0, .int .u64 0]) ∧ (v1.setRow (w.heap.size + 1) #[.int .u64 0, .int .u64 0]).heap[w.heap.size + 1]? = some (.cells #[.int .u64 0, .int .u64 0] 42 (0, 0))) := ⟨below_setRow X1.out.2.2.2 (Nat.le_succ _) _, setRow_heap _ _ _ _ _ _ X1.out.2.1⟩
            generalize v1.setRow (w.heap.size + 1) #[.int .u64 0, .int .u64 0] = w9 at *
            obtain ⟨c0, c1, _, _⟩ := box_facts HY.out.2
            go_wp2_with fail
            refine bodyPost_ret (v := .tuple #[.agg #[.int .u64 0, .int .u64 0], .int .i64 154]) (by simp [results, Try.results163, go_sem, c0, c1]) rfl ?_
            rw [HE.out]
            exact ⟨rfl, HY.out.1⟩
          · have e1 : ¬ (4096 : Int) < dl := by omega
            obtain ⟨y, hy⟩ : ∃ y, dl % 16 = y := ⟨_, rfl⟩
            have e2 : (dl : Int) % 16 = (y : Int) := by omega
            have e2' : (dl : Int).tmod 16 = (y : Int) := by rw [Int.tmod_eq_emod_of_nonneg (by omega)]; exact e2
            have e3 : ((y : Int) != 0) = true := by simp; omega
            clear z0 hbad z1 hy
            go_upto_region 5 with fail
            refine wp_region_list ?_
            (refine wpList_step (fun KK hKK => ?_); go_simp; refine hKK _ _ ?_; clear hKK KK)
            refine wpList_store_row rfl 42 _ _ rfl (w.heap.size + 1) #[.int .u64 0, .int .u64 0] rfl rfl 42 #[.int .u64 0, .int .u64 0] X1.out.2.1 info38 rfl (by simp [Value.oneCell']) ?_
            have HY : Hid (Below w.heap.size w (v1.setRow (w.heap.size + 1) #[.int .u64 0, .int .u64 0]) ∧ (v1.setRow (w.heap.size + 1) #[.int .u64 0, .int .u64 0]).heap[w.heap.size + 1]? = some (.cells #[.int .u64 0, .int .u64 0] 42 (0, 0))) := ⟨below_setRow X1.out.2.2.2 (Nat.le_succ _) _, setRow_heap _ _ _ _ _ _ X1.out.2.1⟩
            generalize v1.setRow (w.heap.size + 1) #[.int .u64 0, .int .u64 0] = w9 at *
            obtain ⟨c0, c1, _, _⟩ := box_facts HY.out.2
            go_wp2_with fail
            refine bodyPost_ret (v := .tuple #[.agg #[.int .u64 0, .int .u64 0], .int .i64 154]) (by simp [results, Try.results163, go_sem, c0, c1]) rfl ?_
            rw [HE.out]
            exact ⟨rfl, HY.out.1⟩
      · have e0 : ((dl : Int) == 0) = false := by simp; omega
        have e1 : ¬ (4096 : Int) < dl := by omega
        have e2 : (dl : Int) % 16 = 0 := by omega
        have e2' : (dl : Int).tmod 16 = 0 := by rw [Int.tmod_eq_emod_of_nonneg (by omega)]; exact e2
        have HE0 : Hid (te = if inB da dl 2147483648 8192 = true then 0 else 21) := HT.out.symm.trans (tabE_go HF1.out hbad)
        clear hbad
        go_upto_region 6 with fail
        have Xd : Hid (v1.drew.heap[w.heap.size]? = some (.cells #[.int .u64 (da : Int), .int .u32 (dl : Int), .int .u16 (df : Int), .int .u16 (dx : Int)] 94 (0, 0)) ∧ v1.drew.heap[w.heap.size + 1]? = some (.cells #[.int .u64 0, .int .u64 0] 42 (0, 0)) ∧ v1.drew.heap[w.heap.size + 1 + 1]? = some (.cells #[.int .u64 (da : Int), .int .u64 (dl : Int)] 42 (0, 0)) ∧ Below w.heap.size w v1.drew) := ⟨X1.out.1, X1.out.2.1, X1.out.2.2.1, X1.out.2.2.2.drew⟩
        have q0 := HW.out _ Xd.out.2.2.2
        obtain ⟨ib, hin⟩ : ∃ ib, inB da dl 2147483648 8192 = ib := ⟨_, rfl⟩
        have HI : Hid (inB da dl 2147483648 8192 = ib) := hin
        rw [hin] at HE0
        clear hin X1 d0 d1 d2 d3 p0 p1
        obtain ⟨p0, p1, _, _⟩ := box_facts Xd.out.2.2.1
        go_region_held3 (fun Z => Z.cell? ⟨wb, 0, none⟩ = some (.pointer (some ⟨rb, 0, none⟩)) ∧ Z.cell? ⟨w.heap.size + 1 + 1, 0, none⟩ = some (.int .u64 (da : Int)) ∧ Z.cell? ⟨w.heap.size + 1 + 1, 1, none⟩ = some (.int .u64 (dl : Int))) (go_keep) (first | (go_at_call 57; refine (HH.out _ Xd.out.2.2.2).mono ?_; rintro e w2 ⟨rfl, hw⟩; rw [hw]; clear hw w2; rw [HI.out]))
        generalize v1.drew = v2 at *
        cases ib with
        | false =>
          have HE : Hid (te = 21) := HE0.out
          go_upto_region 7 with fail
          refine wp_region_list ?_
          (refine wpList_step (fun KK hKK => ?_); go_simp; refine hKK _ _ ?_; clear hKK KK)
          refine wpList_store_row rfl 42 _ _ rfl (w.heap.size + 1) #[.int .u64 0, .int .u64 0] rfl rfl 42 #[.int .u64 0, .int .u64 0] Xd.out.2.1 info38 rfl (by simp [Value.oneCell']) ?_
          have HY : Hid (Below w.heap.size w (v2.setRow (w.heap.size + 1) #[.int .u64 0, .int .u64 0]) ∧ (v2.setRow (w.heap.size + 1) #[.int .u64 0, .int .u64 0]).heap[w.heap.size + 1]? = some (.cells #[.int .u64 0, .int .u64 0] 42 (0, 0))) := ⟨below_setRow Xd.out.2.2.2 (Nat.le_succ _) _, setRow_heap _ _ _ _ _ _ Xd.out.2.1⟩
          generalize v2.setRow (w.heap.size + 1) #[.int .u64 0, .int .u64 0] = w9 at *
          obtain ⟨c0, c1, _, _⟩ := box_facts HY.out.2
          go_wp2_with fail
          refine bodyPost_ret (v := .tuple #[.agg #[.int .u64 0, .int .u64 0], .int .i64 21]) (by simp [results, Try.results163, go_sem, c0, c1]) rfl ?_
          rw [HE.out]
          exact ⟨rfl, HY.out.1⟩
        | true =>
          have HE : Hid (te = 0) := HE0.out
          go_upto_region 8 with fail
          refine wp_region_list ?_
          (refine wpList_step (fun KK hKK => ?_); go_simp; refine hKK _ _ ?_; clear hKK KK)
          refine wpList_store_row rfl 42 _ _ rfl (w.heap.size + 1) #[.int .u64 (da : Int), .int .u64 (dl : Int)] rfl rfl 42 #[.int .u64 0, .int .u64 0] Xd.out.2.1 info38 rfl (by simp [Value.oneCell']) ?_
          have HY : Hid (Below w.heap.size w (v2.setRow (w.heap.size + 1) #[.int .u64 (da : Int), .int .u64 (dl : Int)]) ∧ (v2.setRow (w.heap.size + 1) #[.int .u64 (da : Int), .int .u64 (dl : Int)]).heap[w.heap.size + 1]? = some (.cells #[.int .u64 (da : Int), .int .u64 (dl : Int)] 42 (0, 0))) := ⟨below_setRow Xd.out.2.2.2 (Nat.le_succ _) _, setRow_heap _ _ _ _ _ _ Xd.out.2.1⟩
          generalize v2.setRow (w.heap.size + 1) #[.int .u64 (da : Int), .int .u64 (dl : Int)] = w9 at *
          obtain ⟨c0, c1, _, _⟩ := box_facts HY.out.2
          go_wp2_with fail
          refine bodyPost_ret (v := .tuple #[.agg #[.int .u64 (da : Int), .int .u64 (dl : Int)], .int .i64 0]) (by simp [results, Try.results163, go_sem, c0, c1]) rfl ?_
          rw [HE.out]
          exact ⟨rfl, HY.out.1⟩
end Go.Proofs.Ytlkhjekakbckmaa

/- Walk. -/
namespace Go.Proofs.Ytlkhjekakbckmaa
open Go.RowKit Go.Maps
set_option linter.unusedVariables false
set_option linter.unusedSimpArgs false
set_option maxRecDepth 100000
theorem info40 : (Try.prog.info? 44).map (·.size) = some 3 := by kernel_rfl
theorem segs_nil (B : Nat) (w : World) : SegIn B w (.slice none 0 0) [] := ⟨rfl, .inl ⟨rfl, rfl⟩⟩
/-- behind a walk: the memory; the segments -/
def ChP (Inv : (Nat → Prop) → World → Prop) (F : Nat → Prop) (w w' : World) (v : Value) (l : List Seg) : Prop := ∃ F', Inv F' w' ∧ Step F w F' w' ∧ SegIn w.heap.size w' v l ∧ ∀ g, v.ownBlock = some g → ¬ F' g
def WkS (rb : Nat) (Inv : (Nat → Prop) → World → Prop) (F : Nat → Prop) (w v0 : World) (F' : Nat → Prop) (V : World) (l : List Seg) : Prop := Wd Inv (fun k => k < w.heap.size + 1 + 1) F' V rb (w.heap.size + 1 + 1) l ∧ Fly (fun k => k < w.heap.size + 1 + 1) F v0 F' V ∧ V.heap[w.heap.size + 1]? = some (.cells #[.slice none 0 0, .int .u64 0, .int .u64 0] 44 (0, 0)) ∧ ¬ F' (w.heap.size + 1)
section
variable {rb : Nat} {M : Nat → Nat} {Inv : (Nat → Prop) → World → Prop} {F : Nat → Prop} {w : World} {v0 V V2 : World} {F' F2 : Nat → Prop} {l l2 : List Seg}
theorem WkS.below (m : Wm rb M Inv) (h : WkS rb Inv F w v0 F' V l) (hb : Below V.heap.size V V2) : WkS rb Inv F w v0 F' V2 l := ⟨h.1.below m hb, h.2.1.trans (Fly.of_below hb h.1.old), below_box h.2.2.1 hb, h.2.2.2⟩
theorem WkS.flew (h : WkS rb Inv F w v0 F' V l) (hw : Wd Inv (fun k => k < w.heap.size + 1 + 1) F2 V2 rb (w.heap.size + 1 + 1) l2) (hf : Fly (fun k => k < w.heap.size + 1 + 1) F' V F2 V2) : WkS rb Inv F w v0 F2 V2 l2 := ⟨hw, h.2.1.trans hf, (hf.block _ (Nat.lt_succ_self _) h.2.2.2).trans h.2.2.1, fun hk => by
  rcases hf.old _ hk with h1 | h1
  · exact h.2.2.2 h1
  · exact h1 (Nat.lt_succ_self _)⟩
theorem WkS.ret (m : Wm rb M Inv) (h0 : Below w.heap.size w v0) (h : WkS rb Inv F w v0 F' V l) (C : Array Value) {v : Value} {l2 : List Seg} (hs : SegIn 0 V v l2) (hg : ∀ g, v.ownBlock = some g → ¬ F' g ∧ w.heap.size + 1 + 1 ≤ g) : ChP Inv F w (V.setRow (w.heap.size + 1) C) v l2 := by
  obtain ⟨h1, h2, h3, h4⟩ := h
  have hsz : (V.setRow (w.heap.size + 1) C).heap.size = V.heap.size := by simp [World.setRow]
  have hst : Step (fun k => k = w.heap.size + 1) V (fun k => k = w.heap.size + 1) (V.setRow (w.heap.size + 1) C) := ⟨rfl, rfl, rfl, by omega, fun k _ hk => setRow_other _ _ _ _ hk, fun _ h => .inl h, fun _ h => h⟩
  refine ⟨F', m.step F' V _ _ _ h1.1 hst (fun k hk e => h4 (e ▸ hk)), ⟨h2.os.trans h0.os, h2.tape.trans h0.tape, h2.output.trans h0.output, by have := h2.size; have := h0.size; omega, fun k hk hf => ?_, fun k hk => ?_, h2.keep⟩, ?_, fun g hg' => (hg g hg').1⟩
  · rw [setRow_other _ _ _ _ (by omega)]
    exact (h2.block k (by show k < _; omega) hf).trans (h0.block k hk)
  · exact (h2.old k hk).imp id (fun hn => by have hn' : ¬ k < w.heap.size + 1 + 1 := hn; omega)
  · refine ⟨hs.1, ?_⟩
    rcases hs.2 with hn | ⟨g, cap, cur, rfl, hb, hgg, rest⟩
    · exact .inl hn
    · have := (hg g rfl).2
      exact .inr ⟨g, cap, cur, rfl, by omega, (setRow_other _ _ _ _ (by omega)).trans hgg, rest⟩
theorem WkS.seg (h : WkS rb Inv F w v0 F' V l) : ∃ a c, V.heap[w.heap.size + 1 + 1]? = some (.cells #[.pointer (some ⟨rb, 0, none⟩), .slice a l.length c] 260 (0, 0)) ∧ SegIn 0 V (.slice a l.length c) l ∧ ∀ g, (Value.slice a l.length c).ownBlock = some g → ¬ F' g ∧ w.heap.size + 1 + 1 ≤ g := by
  obtain ⟨a, c, h1, h2, h3⟩ := h.1.boxes
  exact ⟨a, c, h1, h2, fun g hg => ⟨(h3 g hg).2.1, by have : ¬ g < w.heap.size + 1 + 1 := (h3 g hg).2.2; omega⟩⟩
end
def Wk2 (rb : Nat) (Inv : (Nat → Prop) → World → Prop) (F : Nat → Prop) (w v0 : World) (F' : Nat → Prop) (V : World) (l : List Seg) (p : Nat) (c : Array Value) : Prop := WkS rb Inv F w v0 F' V l ∧ Wd Inv (fun k => k < w.heap.size + 1 + 1 ∨ k = p) F' V rb (w.heap.size + 1 + 1) l ∧ V.heap[p]? = some (.cells c 94 (0, 0)) ∧ ¬ F' p ∧ w.heap.size + 1 + 1 < p
def Wk3 (rb : Nat) (Inv : (Nat → Prop) → World → Prop) (F : Nat → Prop) (w v0 : World) (F' : Nat → Prop) (V : World) (l : List Seg) (p : Nat) (c : Array Value) (q : Nat) (d : Array Value) : Prop := Wk2 rb Inv F w v0 F' V l p c ∧ Wd Inv (fun k => (k < w.heap.size + 1 + 1 ∨ k = p) ∨ k = q) F' V rb (w.heap.size + 1 + 1) l ∧ V.heap[q]? = some (.cells d 42 (0, 0)) ∧ ¬ F' q ∧ q ≠ p
section
variable {rb : Nat} {M : Nat → Nat} {Inv : (Nat → Prop) → World → Prop} {F : Nat → Prop} {w : World} {v0 V V2 : World} {F' F2 : Nat → Prop} {l l2 : List Seg} {p q : Nat} {c d : Array Value}
theorem Wk2.below (m : Wm rb M Inv) (h : Wk2 rb Inv F w v0 F' V l p c) (hb : Below V.heap.size V V2) : Wk2 rb Inv F w v0 F' V2 l p c := ⟨h.1.below m hb, h.2.1.below m hb, below_box h.2.2.1 hb, h.2.2.2⟩
theorem Wk3.below (m : Wm rb M Inv) (h : Wk3 rb Inv F w v0 F' V l p c q d) (hb : Below V.heap.size V V2) : Wk3 rb Inv F w v0 F' V2 l p c q d := ⟨h.1.below m hb, h.2.1.below m hb, below_box h.2.2.1 hb, h.2.2.2⟩
theorem Wk3.flew (h : Wk3 rb Inv F w v0 F' V l p c q d) (hw : Wd Inv (fun k => (k < w.heap.size + 1 + 1 ∨ k = p) ∨ k = q) F2 V2 rb (w.heap.size + 1 + 1) l2) (hf : Fly (fun k => (k < w.heap.size + 1 + 1 ∨ k = p) ∨ k = q) F' V F2 V2) : Wk3 rb Inv F w v0 F2 V2 l2 p c q d := by
  have hn : ∀ k, ((k < w.heap.size + 1 + 1 ∨ k = p) ∨ k = q) → ¬ F' k → ¬ F2 k := fun k hk hf' hk2 => by
    rcases hf.old _ hk2 with h1 | h1
    · exact hf' h1
    · exact h1 hk
  exact ⟨⟨h.1.1.flew (hw.mono (fun _ h => .inl (.inl h))) (hf.mono (fun _ h => .inl (.inl h))), hw.mono (fun _ h => .inl h), (hf.block _ (.inl (.inr rfl)) h.1.2.2.2.1).trans h.1.2.2.1, hn _ (.inl (.inr rfl)) h.1.2.2.2.1, h.1.2.2.2.2⟩, hw, (hf.block _ (.inr rfl) h.2.2.2.1).trans h.2.2.1, hn _ (.inr rfl) h.2.2.2.1, h.2.2.2.2⟩
theorem Wd.setrow {O : Nat → Prop} {wb : Nat} (m : Wm rb M Inv) (h : Wd Inv O F' V rb wb l) (hp : O p) (hF : ¬ F' p) (c : Array Value) : Wd Inv O F' (V.setRow p c) rb wb l := by
  have hsz : (V.setRow p c).heap.size = V.heap.size := by simp [World.setRow]
  have hst : Step (fun k => k = p) V (fun k => k = p) (V.setRow p c) := ⟨rfl, rfl, rfl, by omega, fun k _ hk => setRow_other _ _ _ _ hk, fun _ h => .inl h, fun _ h => h⟩
  obtain ⟨k1, k2, k3, v, k4, k5, k6⟩ := h
  exact ⟨m.step F' V _ _ _ k1 hst (fun k hk e => hF (e ▸ hk)), ⟨fun k hk => by rw [hsz]; exact k2.1 k hk, k2.2⟩, k3, v, (setRow_other _ _ _ _ (fun e => k2.2 (by rw [e]; exact hp))).trans k4, k5.kept (fun g hg => setRow_other _ _ _ _ (fun e => (k6 g hg).2.2 (by rw [e]; exact hp))), k6⟩
theorem Wk3.set (m : Wm rb M Inv) (h : Wk3 rb Inv F w v0 F' V l p c q d) (e : Array Value) : Wk3 rb Inv F w v0 F' (V.setRow p e) l p e q d := by
  have h2 := h.2.1.setrow m (.inl (.inr rfl)) h.1.2.2.2.1 e
  have hsz : (V.setRow p e).heap.size = V.heap.size := by simp [World.setRow]
  refine ⟨⟨⟨h2.mono (fun _ h => .inl (.inl h)), h.1.1.2.1.trans ⟨rfl, rfl, rfl, by omega, fun k hk _ => setRow_other _ _ _ _ (fun he => by have hk' : k < w.heap.size + 1 + 1 := hk; have := h.1.2.2.2.2; omega), fun _ h => .inl h, fun _ h => h⟩, (setRow_other _ _ _ _ (fun he => by have := h.1.2.2.2.2; omega)).trans h.1.1.2.2.1, h.1.1.2.2.2⟩, h2.mono (fun _ h => .inl h), setRow_heap _ _ _ _ _ _ h.1.2.2.1, h.1.2.2.2⟩, h2, (setRow_other _ _ _ _ h.2.2.2.2).trans h.2.2.1, h.2.2.2⟩
end
set_option maxHeartbeats 4000000 in
theorem walk_any {rb : Nat} {M : Nat → Nat} {Inv : (Nat → Prop) → World → Prop} {F : Nat → Prop} {w : World} (m : Wm rb M Inv) (hM : ∀ a, M a ≤ 255) (n D A Uu : Nat) (hn : n ≤ 256) (hd : Int) (al : Bool) (h : Inv F w) (hD1 : DescOk rb M Inv D n) (hD2 : ∀ r, alongR M D n n hd [] = r → r.e = 0 → fl r.d.f 4 = true → tabE r.d al = 0 → DescOk rb M Inv r.d.a (r.d.l / 16)) :
    Calls Try.prog 154 #[.pointer (some ⟨rb, 0, none⟩), .agg #[.int .i64 (n : Int), .int .u64 (D : Int), .int .u64 (A : Int), .int .u64 (Uu : Int)], .int .i64 hd, .bool al] w fun e w' => ∃ v, e = .returned (.tuple #[.agg #[v, .int .u64 ((walkR M D n hd al).ta : Int), .int .u64 ((walkR M D n hd al).tl : Int)], .int .i64 ((walkR M D n hd al).e : Int)]) ∧ ChP Inv F w w' v (walkR M D n hd al).l := by
  obtain ⟨cn, hcn⟩ : ∃ cn, walkR M D n hd al = cn := ⟨_, rfl⟩
  rw [hcn]
  obtain ⟨r, hr⟩ : ∃ r, alongR M D n n hd [] = r := ⟨_, rfl⟩
  have hra := along_all hM D n n hd [] (by simp)
  rw [hr] at hra
  have h3 := three_in w (.cells #[.int .i64 (n : Int), .int .u64 (D : Int), .int .u64 (A : Int), .int .u64 (Uu : Int)] 198) (.cells #[.slice none 0 0, .int .u64 0, .int .u64 0] 44) (.cells #[.pointer (some ⟨rb, 0, none⟩), .slice none 0 0] 260)
  have hF : ∀ k, F k → k < w.heap.size := m.lt F w h
  have X0 : Hid (WkS rb Inv F w (((w.alloc (.cells #[.int .i64 (n : Int), .int .u64 (D : Int), .int .u64 (A : Int), .int .u64 (Uu : Int)] 198)).alloc (.cells #[.slice none 0 0, .int .u64 0, .int .u64 0] 44)).alloc (.cells #[.pointer (some ⟨rb, 0, none⟩), .slice none 0 0] 260)) F (((w.alloc (.cells #[.int .i64 (n : Int), .int .u64 (D : Int), .int .u64 (A : Int), .int .u64 (Uu : Int)] 198)).alloc (.cells #[.slice none 0 0, .int .u64 0, .int .u64 0] 44)).alloc (.cells #[.pointer (some ⟨rb, 0, none⟩), .slice none 0 0] 260)) []) := ⟨⟨m.below h h3.2.2.2, ⟨fun k hk => by have : k < w.heap.size + 1 + 1 := hk; simp; omega, fun hk => by have : w.heap.size + 1 + 1 < w.heap.size + 1 + 1 := hk; omega⟩, fun hf => by have := hF _ hf; omega, _, h3.2.2.1, segs_nil _ _, fun g hg => by cases hg⟩, Fly.refl _ _ _, h3.2.1, fun hf => by have := hF _ hf; omega⟩
  have HB0 : Hid (Below w.heap.size w (((w.alloc (.cells #[.int .i64 (n : Int), .int .u64 (D : Int), .int .u64 (A : Int), .int .u64 (Uu : Int)] 198)).alloc (.cells #[.slice none 0 0, .int .u64 0, .int .u64 0] 44)).alloc (.cells #[.pointer (some ⟨rb, 0, none⟩), .slice none 0 0] 260))) := h3.2.2.2
  have HL : Hid ((((w.alloc (.cells #[.int .i64 (n : Int), .int .u64 (D : Int), .int .u64 (A : Int), .int .u64 (Uu : Int)] 198)).alloc (.cells #[.slice none 0 0, .int .u64 0, .int .u64 0] 44)).alloc (.cells #[.pointer (some ⟨rb, 0, none⟩), .slice none 0 0] 260)).heap[w.heap.size]? = some (.cells #[.int .i64 (n : Int), .int .u64 (D : Int), .int .u64 (A : Int), .int .u64 (Uu : Int)] 198 (0, 0))) := h3.1
  have HCN : Hid (walkR M D n hd al = cn ∧ alongR M D n n hd [] = r) := ⟨hcn, hr⟩
  have HRA : Hid (r.d.Ok ∧ r.l.length ≤ 256) := ⟨hra.2.1, by have := hra.2.2; simp at this; omega⟩
  have HD : Hid (DescOk rb M Inv D n ∧ (r.e = 0 → fl r.d.f 4 = true → tabE r.d al = 0 → DescOk rb M Inv r.d.a (r.d.l / 16))) := ⟨hD1, hD2 r hr⟩
  have HM : Hid (∀ a, M a ≤ 255) := hM
  have hmin : (if (256 : Int) < n then (256 : Int) else n) = n := if_neg (by omega)
  have hmin2 : (if (256 : Nat) < n then (256 : Int) else n) = n := if_neg (by omega)
  have hn1 : ¬ (256 : Int) < n := by omega
  clear hcn hr hra h3 hF h hD1 hD2 hM
  go_enter Try.func154, Try.ntmps154
  go_upto_region 2 with fail
  have W35 : Hid (∀ V, WkS rb Inv F w (((w.alloc (.cells #[.int .i64 (n : Int), .int .u64 (D : Int), .int .u64 (A : Int), .int .u64 (Uu : Int)] 198)).alloc (.cells #[.slice none 0 0, .int .u64 0, .int .u64 0] 44)).alloc (.cells #[.pointer (some ⟨rb, 0, none⟩), .slice none 0 0] 260)) F V [] → Calls Try.prog 161 #[.pointer (some ⟨w.heap.size + 1 + 1, 0, none⟩), .int .u64 (D : Int), .int .i64 (n : Int), .int .i64 hd] V fun e w' => e = .returned (.tuple #[.agg #[.int .u64 (r.d.a : Int), .int .u32 (r.d.l : Int), .int .u16 (r.d.f : Int), .int .u16 (r.d.x : Int)], .int .i64 (r.e : Int)]) ∧ ∃ F', Wd Inv (fun k => k < w.heap.size + 1 + 1) F' w' rb (w.heap.size + 1 + 1) r.l ∧ Fly (fun k => k < w.heap.size + 1 + 1) F V F' w') := by
    intro V hV
    have := along_any m HM.out D n hn HD.out.1 hV.1 (by simp) hd
    rw [HCN.out.2] at this
    exact this
  generalize ((w.alloc (.cells #[.int .i64 (n : Int), .int .u64 (D : Int), .int .u64 (A : Int), .int .u64 (Uu : Int)] 198)).alloc (.cells #[.slice none 0 0, .int .u64 0, .int .u64 0] 44)).alloc (.cells #[.pointer (some ⟨rb, 0, none⟩), .slice none 0 0] 260) = v0 at *
  obtain ⟨⟨da, dl, df, dx⟩, hde⟩ : ∃ d, r.d = d := ⟨_, rfl⟩
  obtain ⟨re, hre⟩ : ∃ e, r.e = e := ⟨_, rfl⟩
  obtain ⟨rl, hrl⟩ : ∃ e, r.l = e := ⟨_, rfl⟩
  have HRE : Hid (r.d = ⟨da, dl, df, dx⟩ ∧ r.e = re ∧ r.l = rl) := ⟨hde, hre, hrl⟩
  rw [hde, hre, hrl] at W35
  rw [hde, hrl] at HRA
  simp only at W35
  clear hde hre hrl
  obtain ⟨l0, l1, l2, l3⟩ := box4_facts HL.out
  go_upto_region 3 with (go_at_call 161; refine (W35.out _ X0.out).mono ?_; rintro e w1 ⟨rfl, F1, hw1, hy1⟩; have X1 : Hid (WkS rb Inv F w v0 F1 w1 rl) := X0.out.flew hw1 hy1; clear hw1 hy1 W35 X0)
  clear l0 l1 l2 l3 HL
  have hb2 : Below w1.heap.size w1 (w1.alloc (.cells #[.int .u64 (da : Int), .int .u32 (dl : Int), .int .u16 (df : Int), .int .u16 (dx : Int)] 94)) := (Below.refl _ _).alloc (Nat.le_refl _) _
  have X2 : Hid (Wk2 rb Inv F w v0 F1 (w1.alloc (.cells #[.int .u64 (da : Int), .int .u32 (dl : Int), .int .u16 (df : Int), .int .u16 (dx : Int)] 94)) rl w1.heap.size #[.int .u64 (da : Int), .int .u32 (dl : Int), .int .u16 (df : Int), .int .u16 (dx : Int)]) := ⟨X1.out.below m hb2, X1.out.1.box m hb2 (Nat.le_refl _) (by simp), heap_alloc_new _ _, fun hf => by have := m.lt F1 w1 X1.out.1.1 _ hf; omega, X1.out.1.lt⟩
  clear hb2 X1
  generalize w1.alloc (.cells #[.int .u64 (da : Int), .int .u32 (dl : Int), .int .u16 (df : Int), .int .u16 (dx : Int)] 94) = w2 at *
  generalize w1.heap.size = p at *
  by_cases hz : re = 0
  case neg =>
    have hz1 : ((re : Int) != 0) = true := by simp; omega
    have hz2 : ¬ (re : Int) = 0 := by omega
    have HE : Hid (cn = ⟨re, [], 0, 0⟩) := HCN.out.1.symm.trans (by rw [walk_err HCN.out.2 (by rw [HRE.out.2.1]; exact hz), HRE.out.2.1])
    clear hz
    go_upto_region 4 with fail
    refine wp_region_list ?_
    (refine wpList_step (fun KK hKK => ?_); go_simp; refine hKK _ _ ?_; clear hKK KK)
    (refine wpList_step (fun KK hKK => ?_); go_simp; refine hKK _ _ ?_; clear hKK KK)
    refine wpList_store_row rfl 44 _ _ rfl (w.heap.size + 1) #[.slice none 0 0, .int .u64 0, .int .u64 0] rfl rfl 44 #[.slice none 0 0, .int .u64 0, .int .u64 0] X2.out.1.2.2.1 info40 rfl (by simp [Value.oneCell']) ?_
    have HY : Hid (ChP Inv F w (w2.setRow (w.heap.size + 1) #[.slice none 0 0, .int .u64 0, .int .u64 0]) (.slice none 0 0) [] ∧ (w2.setRow (w.heap.size + 1) #[.slice none 0 0, .int .u64 0, .int .u64 0]).heap[w.heap.size + 1]? = some (.cells #[.slice none 0 0, .int .u64 0, .int .u64 0] 44 (0, 0))) := ⟨X2.out.1.ret m HB0.out #[.slice none 0 0, .int .u64 0, .int .u64 0] (segs_nil _ _) (fun g hg => by cases hg), setRow_heap _ _ _ _ _ _ X2.out.1.2.2.1⟩
    generalize w2.setRow (w.heap.size + 1) #[.slice none 0 0, .int .u64 0, .int .u64 0] = w9 at *
    obtain ⟨c0, c1, c2⟩ := box3_facts HY.out.2
    go_wp2_with fail
    refine bodyPost_ret (v := .tuple #[.agg #[.slice none 0 0, .int .u64 0, .int .u64 0], .int .i64 (re : Int)]) (by simp [results, Try.results154, go_sem, c0, c1, c2]) rfl ?_
    rw [HE.out]
    exact ⟨_, rfl, HY.out.1⟩
  subst hz
  obtain ⟨d0, d1, d2, d3⟩ := box4_facts X2.out.2.2.1
  have hf : df ≤ 65535 := HRA.out.1.f
  obtain ⟨f4, hf4⟩ : ∃ b, fl df 4 = b := ⟨_, rfl⟩
  have H4 : Hid (∀ V, Calls Try.prog 162 #[.agg #[.int .u64 (da : Int), .int .u32 (dl : Int), .int .u16 (df : Int), .int .u16 (dx : Int)], .int .u16 4] V fun e w' => e = .returned (.bool f4) ∧ Below V.heap.size V w') := by
    intro V; rw [← hf4]; exact hasf4 da dl df dx hf V
  have HF4 : Hid (fl r.d.f 4 = f4) := by show fl r.d.f 4 = f4; rw [HRE.out.1]; exact hf4
  clear hf4
  cases f4 with
  | false =>
    have HE : Hid (cn = ⟨0, rl, 0, 0⟩) := HCN.out.1.symm.trans (by rw [walk_plain HCN.out.2 HRE.out.2.1 HF4.out, HRE.out.2.2])
    go_upto_region 6 with (go_at_call 162; refine (H4.out _).mono ?_; rintro e w3 ⟨rfl, hb3⟩; have X3 : Hid (Wk2 rb Inv F w v0 F1 w3 rl p #[.int .u64 (da : Int), .int .u32 (dl : Int), .int .u16 (df : Int), .int .u16 (dx : Int)]) := X2.out.below m hb3; clear hb3 d0 d1 d2 d3)
    clear X2
    obtain ⟨a, c, hwb, hsg, hgg⟩ := X3.out.1.seg
    have HG : Hid (SegIn 0 w3 (.slice a rl.length c) rl ∧ ∀ g, (Value.slice a rl.length c).ownBlock = some g → ¬ F1 g ∧ w.heap.size + 1 + 1 ≤ g) := ⟨hsg, hgg⟩
    have m1 := cellOf hwb 1 _ rfl
    clear hwb hsg hgg
    obtain ⟨nl, hnl⟩ : ∃ nl, rl.length = nl := ⟨_, rfl⟩
    rw [hnl] at HG m1
    go_upto_region 6 with fail
    refine wp_region_list ?_
    (refine wpList_step (fun KK hKK => ?_); go_simp; refine hKK _ _ ?_; clear hKK KK)
    (refine wpList_step (fun KK hKK => ?_); go_simp; refine hKK _ _ ?_; clear hKK KK)
    (refine wpList_step (fun KK hKK => ?_); go_simp; refine hKK _ _ ?_; clear hKK KK)
    refine wpList_store_row rfl 44 _ _ rfl (w.heap.size + 1) #[.slice a nl c, .int .u64 0, .int .u64 0] rfl rfl 44 #[.slice none 0 0, .int .u64 0, .int .u64 0] X3.out.1.2.2.1 info40 rfl (by simp [Value.oneCell']) ?_
    have HY : Hid (ChP Inv F w (w3.setRow (w.heap.size + 1) #[.slice a nl c, .int .u64 0, .int .u64 0]) (.slice a nl c) rl ∧ (w3.setRow (w.heap.size + 1) #[.slice a nl c, .int .u64 0, .int .u64 0]).heap[w.heap.size + 1]? = some (.cells #[.slice a nl c, .int .u64 0, .int .u64 0] 44 (0, 0))) := ⟨X3.out.1.ret m HB0.out #[.slice a nl c, .int .u64 0, .int .u64 0] (HG.out.1) (HG.out.2), setRow_heap _ _ _ _ _ _ X3.out.1.2.2.1⟩
    generalize w3.setRow (w.heap.size + 1) #[.slice a nl c, .int .u64 0, .int .u64 0] = w9 at *
    obtain ⟨c0, c1, c2⟩ := box3_facts HY.out.2
    go_wp2_with fail
    refine bodyPost_ret (v := .tuple #[.agg #[.slice a nl c, .int .u64 0, .int .u64 0], .int .i64 0]) (by simp [results, Try.results154, go_sem, c0, c1, c2]) rfl ?_
    rw [HE.out]
    exact ⟨_, rfl, HY.out.1⟩
  | true =>
    have H55 : Hid (∀ V, Inv F1 V → Calls Try.prog 57 #[.pointer (some ⟨rb, 0, none⟩), .int .u64 (da : Int), .int .u64 (dl : Int)] V fun e w' => e = .returned (.bool (inB da dl 2147483648 8192)) ∧ w' = V) := by
      intro V hV
      obtain ⟨G, n, lg, hr⟩ := m.ram F1 V hV
      exact has_any hr (by omega) da dl HRA.out.1.a (by have := HRA.out.1.l; simp at this; omega)
    obtain ⟨te, hte⟩ : ∃ te, tabE ⟨da, dl, df, dx⟩ al = te := ⟨_, rfl⟩
    have H37 : Hid (∀ V, Wk2 rb Inv F w v0 F1 V rl p #[.int .u64 (da : Int), .int .u32 (dl : Int), .int .u16 (df : Int), .int .u16 (dx : Int)] → Calls Try.prog 163 #[.pointer (some ⟨w.heap.size + 1 + 1, 0, none⟩), .agg #[.int .u64 (da : Int), .int .u32 (dl : Int), .int .u16 (df : Int), .int .u16 (dx : Int)], .bool al] V fun e w' => e = .returned (.tuple #[tabV te da dl, .int .i64 (te : Int)]) ∧ Below V.heap.size V w') := by
      intro V hV
      obtain ⟨a, c, hwb, _⟩ := hV.1.seg
      rw [← hte]
      exact tab_any da dl df dx HRA.out.1 al hwb (fun V2 hV2 => H55.out V2 (m.below hV.1.1.1 hV2))
    have HTE : Hid (tabE r.d al = te) := by show tabE r.d al = te; rw [HRE.out.1]; exact hte
    clear hte H55
    by_cases hz : te = 0
    case neg =>
      have hz1 : ((te : Int) != 0) = true := by simp; omega
      have hz2 : ¬ (te : Int) = 0 := by omega
      have HE : Hid (cn = ⟨te, [], 0, 0⟩) := HCN.out.1.symm.trans (walk_tab HCN.out.2 HRE.out.2.1 HF4.out HTE.out hz)
      have hT : tabV te da dl = .agg #[.int .u64 0, .int .u64 0] := if_neg hz
      rw [hT] at H37
      clear hz hT
      go_upto_region 8 with (first | (go_at_call 162; refine (H4.out _).mono ?_; rintro e w3 ⟨rfl, hb3⟩; have X3 : Hid (Wk2 rb Inv F w v0 F1 w3 rl p #[.int .u64 (da : Int), .int .u32 (dl : Int), .int .u16 (df : Int), .int .u16 (dx : Int)]) := X2.out.below m hb3; clear hb3 d0 d1 d2 d3 X2; obtain ⟨d0, d1, d2, d3⟩ := box4_facts X3.out.2.2.1) | (go_at_call 163; refine (H37.out _ X3.out).mono ?_; rintro e w4 ⟨rfl, hb4⟩; have X4 : Hid (Wk2 rb Inv F w v0 F1 w4 rl p #[.int .u64 (da : Int), .int .u32 (dl : Int), .int .u16 (df : Int), .int .u16 (dx : Int)]) := X3.out.below m hb4; clear hb4 d0 d1 d2 d3 X3))
      have X5 : Hid (Wk2 rb Inv F w v0 F1 (w4.alloc (.cells #[.int .u64 0, .int .u64 0] 42)) rl p #[.int .u64 (da : Int), .int .u32 (dl : Int), .int .u16 (df : Int), .int .u16 (dx : Int)]) := X4.out.below m ((Below.refl _ _).alloc (Nat.le_refl _) _)
      clear X4
      generalize w4.alloc (.cells #[.int .u64 0, .int .u64 0] 42) = w5 at *
      go_upto_region 9 with fail
      refine wp_region_list ?_
      (refine wpList_step (fun KK hKK => ?_); go_simp; refine hKK _ _ ?_; clear hKK KK)
      (refine wpList_step (fun KK hKK => ?_); go_simp; refine hKK _ _ ?_; clear hKK KK)
      refine wpList_store_row rfl 44 _ _ rfl (w.heap.size + 1) #[.slice none 0 0, .int .u64 0, .int .u64 0] rfl rfl 44 #[.slice none 0 0, .int .u64 0, .int .u64 0] X5.out.1.2.2.1 info40 rfl (by simp [Value.oneCell']) ?_
      have HY : Hid (ChP Inv F w (w5.setRow (w.heap.size + 1) #[.slice none 0 0, .int .u64 0, .int .u64 0]) (.slice none 0 0) [] ∧ (w5.setRow (w.heap.size + 1) #[.slice none 0 0, .int .u64 0, .int .u64 0]).heap[w.heap.size + 1]? = some (.cells #[.slice none 0 0, .int .u64 0, .int .u64 0] 44 (0, 0))) := ⟨X5.out.1.ret m HB0.out #[.slice none 0 0, .int .u64 0, .int .u64 0] (segs_nil _ _) (fun g hg => by cases hg), setRow_heap _ _ _ _ _ _ X5.out.1.2.2.1⟩
      generalize w5.setRow (w.heap.size + 1) #[.slice none 0 0, .int .u64 0, .int .u64 0] = w9 at *
      obtain ⟨c0, c1, c2⟩ := box3_facts HY.out.2
      go_wp2_with fail
      refine bodyPost_ret (v := .tuple #[.agg #[.slice none 0 0, .int .u64 0, .int .u64 0], .int .i64 (te : Int)]) (by simp [results, Try.results154, go_sem, c0, c1, c2]) rfl ?_
      rw [HE.out]
      exact ⟨_, rfl, HY.out.1⟩
    subst hz
    have hT : tabV 0 da dl = .agg #[.int .u64 (da : Int), .int .u64 (dl : Int)] := if_pos rfl
    rw [hT] at H37
    clear hT
    have HTI := tab_in HTE.out
    rw [HRE.out.1] at HTI
    have hdl : dl ≤ 4096 := HTI.2.2.2.2.1
    have hdl16 : 16 ≤ dl := HTI.2.2.2.1
    clear HTI
    obtain ⟨y, hy⟩ : ∃ y, dl / 16 = y := ⟨_, rfl⟩
    have e1 : (dl : Int) / 16 = (y : Int) := by omega
    have e2 : (dl : Int).tdiv 16 = (y : Int) := by rw [Int.tdiv_eq_ediv_of_nonneg (by omega)]; exact e1
    have e3 : IntKind.u64.wrap (y : Int) = (y : Int) := by rw [wrap_u64]; omega
    have e4 : IntKind.i64.wrap (y : Int) = (y : Int) := wrapi y (by omega)
    have hy2 : y ≤ 256 := by omega
    have HYY : Hid (dl / 16 = y) := hy
    clear hy
    go_upto_region 8 with (first | (go_at_call 162; refine (H4.out _).mono ?_; rintro e w3 ⟨rfl, hb3⟩; have X3 : Hid (Wk2 rb Inv F w v0 F1 w3 rl p #[.int .u64 (da : Int), .int .u32 (dl : Int), .int .u16 (df : Int), .int .u16 (dx : Int)]) := X2.out.below m hb3; clear hb3 d0 d1 d2 d3 X2; obtain ⟨d0, d1, d2, d3⟩ := box4_facts X3.out.2.2.1) | (go_at_call 163; refine (H37.out _ X3.out).mono ?_; rintro e w4 ⟨rfl, hb4⟩; have X4 : Hid (Wk2 rb Inv F w v0 F1 w4 rl p #[.int .u64 (da : Int), .int .u32 (dl : Int), .int .u16 (df : Int), .int .u16 (dx : Int)]) := X3.out.below m hb4; clear hb4 d0 d1 d2 d3 X3))
    have hb5 : Below w4.heap.size w4 (w4.alloc (.cells #[.int .u64 (da : Int), .int .u64 (dl : Int)] 42)) := (Below.refl _ _).alloc (Nat.le_refl _) _
    have X5 : Hid (Wk3 rb Inv F w v0 F1 (w4.alloc (.cells #[.int .u64 (da : Int), .int .u64 (dl : Int)] 42)) rl p #[.int .u64 (da : Int), .int .u32 (dl : Int), .int .u16 (df : Int), .int .u16 (dx : Int)] w4.heap.size #[.int .u64 (da : Int), .int .u64 (dl : Int)]) := ⟨X4.out.below m hb5, X4.out.2.1.box m hb5 (Nat.le_refl _) (by simp), heap_alloc_new _ _, fun hf => by have := m.lt F1 w4 X4.out.1.1.1 _ hf; omega, fun e => by have := (Array.getElem?_eq_some_iff.1 X4.out.2.2.1).1; omega⟩
    clear hb5 X4
    generalize w4.alloc (.cells #[.int .u64 (da : Int), .int .u64 (dl : Int)] 42) = w5 at *
    generalize w4.heap.size = p3 at *
    obtain ⟨s, hs⟩ : ∃ s, alongR M da y y 0 rl = s := ⟨_, rfl⟩
    have HS : Hid (alongR M r.d.a (r.d.l / 16) (r.d.l / 16) 0 r.l = s) := by show alongR M r.d.a (r.d.l / 16) (r.d.l / 16) 0 r.l = s; rw [HRE.out.1, HRE.out.2.2]; simp only; rw [HYY.out]; exact hs
    have hsa := along_all HM.out da y y 0 rl (by
      have := along_all HM.out D n n hd [] (by simp)
      rw [HCN.out.2, HRE.out.2.2] at this
      exact this.1)
    rw [hs] at hsa
    have hsf : s.d.f ≤ 65535 := hsa.2.1.f
    clear hsa
    have H352 : Hid (∀ V, Wk3 rb Inv F w v0 F1 V rl p #[.int .u64 (da : Int), .int .u32 (dl : Int), .int .u16 (df : Int), .int .u16 (dx : Int)] p3 #[.int .u64 (da : Int), .int .u64 (dl : Int)] → Calls Try.prog 161 #[.pointer (some ⟨w.heap.size + 1 + 1, 0, none⟩), .int .u64 (da : Int), .int .i64 (y : Int), .int .i64 0] V fun e w' => e = .returned (.tuple #[.agg #[.int .u64 (s.d.a : Int), .int .u32 (s.d.l : Int), .int .u16 (s.d.f : Int), .int .u16 (s.d.x : Int)], .int .i64 (s.e : Int)]) ∧ ∃ F', Wd Inv (fun k => (k < w.heap.size + 1 + 1 ∨ k = p) ∨ k = p3) F' w' rb (w.heap.size + 1 + 1) s.l ∧ Fly (fun k => (k < w.heap.size + 1 + 1 ∨ k = p) ∨ k = p3) F1 V F' w') := by
      intro V hV
      have hdo := HD.out.2 HRE.out.2.1 HF4.out HTE.out
      rw [HRE.out.1] at hdo
      simp only at hdo
      rw [HYY.out] at hdo
      have := along_any m HM.out da y hy2 hdo hV.2.1 (by have := HRA.out.2; omega) 0
      rw [hs] at this
      exact this
    clear hs
    obtain ⟨⟨ea, el, ef, ex⟩, hde⟩ : ∃ d, s.d = d := ⟨_, rfl⟩
    obtain ⟨se, hse⟩ : ∃ e, s.e = e := ⟨_, rfl⟩
    obtain ⟨sl, hsl⟩ : ∃ e, s.l = e := ⟨_, rfl⟩
    have HSE : Hid (s.d = ⟨ea, el, ef, ex⟩ ∧ s.e = se ∧ s.l = sl) := ⟨hde, hse, hsl⟩
    rw [hde, hse, hsl] at H352
    rw [hde] at hsf
    simp only at H352 hsf
    clear hde hse hsl
    obtain ⟨t0, t1, _, _⟩ := box_facts X5.out.2.2.1
    go_upto_region 11 with (go_at_call 161; refine (H352.out _ X5.out).mono ?_; rintro e w6 ⟨rfl, F2, hw6, hy6⟩; have X6 : Hid (Wk3 rb Inv F w v0 F2 w6 sl p #[.int .u64 (da : Int), .int .u32 (dl : Int), .int .u16 (df : Int), .int .u16 (dx : Int)] p3 #[.int .u64 (da : Int), .int .u64 (dl : Int)]) := X5.out.flew hw6 hy6; clear hw6 hy6 X5 t0 t1; rename_i KK hKK; refine hKK _ _ ?_; clear hKK; (refine wpList_step (fun KK hKK => ?_); go_simp; refine hKK _ _ ?_; clear hKK KK); (refine wpList_step (fun KK hKK => ?_); go_simp; refine hKK _ _ ?_; clear hKK KK); (refine wpList_step (fun KK hKK => ?_); go_simp; refine hKK _ _ ?_; clear hKK KK); refine wpList_store_row rfl 94 _ _ rfl p #[.int .u64 (ea : Int), .int .u32 (el : Int), .int .u16 (ef : Int), .int .u16 (ex : Int)] rfl rfl 94 #[.int .u64 (da : Int), .int .u32 (dl : Int), .int .u16 (df : Int), .int .u16 (dx : Int)] X6.out.1.2.2.1 info47 rfl (by simp [Value.oneCell']) ?_; have X7 : Hid (Wk3 rb Inv F w v0 F2 (w6.setRow p #[.int .u64 (ea : Int), .int .u32 (el : Int), .int .u16 (ef : Int), .int .u16 (ex : Int)]) sl p #[.int .u64 (ea : Int), .int .u32 (el : Int), .int .u16 (ef : Int), .int .u16 (ex : Int)] p3 #[.int .u64 (da : Int), .int .u64 (dl : Int)]) := X6.out.set m _; clear X6; generalize w6.setRow p #[.int .u64 (ea : Int), .int .u32 (el : Int), .int .u16 (ef : Int), .int .u16 (ex : Int)] = w7 at *)
    obtain ⟨d0, d1, d2, d3⟩ := box4_facts X7.out.1.2.2.1
    by_cases hz : se = 0
    case neg =>
      have hz1 : ((se : Int) != 0) = true := by simp; omega
      have hz2 : ¬ (se : Int) = 0 := by omega
      have HE : Hid (cn = ⟨se, [], 0, 0⟩) := HCN.out.1.symm.trans (by rw [walk_err2 HCN.out.2 HRE.out.2.1 HF4.out HTE.out HS.out (by rw [HSE.out.2.1]; exact hz), HSE.out.2.1])
      clear hz
      go_upto_region 12 with fail
      refine wp_region_list ?_
      (refine wpList_step (fun KK hKK => ?_); go_simp; refine hKK _ _ ?_; clear hKK KK)
      (refine wpList_step (fun KK hKK => ?_); go_simp; refine hKK _ _ ?_; clear hKK KK)
      refine wpList_store_row rfl 44 _ _ rfl (w.heap.size + 1) #[.slice none 0 0, .int .u64 0, .int .u64 0] rfl rfl 44 #[.slice none 0 0, .int .u64 0, .int .u64 0] X7.out.1.1.2.2.1 info40 rfl (by simp [Value.oneCell']) ?_
      have HY : Hid (ChP Inv F w (w7.setRow (w.heap.size + 1) #[.slice none 0 0, .int .u64 0, .int .u64 0]) (.slice none 0 0) [] ∧ (w7.setRow (w.heap.size + 1) #[.slice none 0 0, .int .u64 0, .int .u64 0]).heap[w.heap.size + 1]? = some (.cells #[.slice none 0 0, .int .u64 0, .int .u64 0] 44 (0, 0))) := ⟨X7.out.1.1.ret m HB0.out #[.slice none 0 0, .int .u64 0, .int .u64 0] (segs_nil _ _) (fun g hg => by cases hg), setRow_heap _ _ _ _ _ _ X7.out.1.1.2.2.1⟩
      generalize w7.setRow (w.heap.size + 1) #[.slice none 0 0, .int .u64 0, .int .u64 0] = w9 at *
      obtain ⟨c0, c1, c2⟩ := box3_facts HY.out.2
      go_wp2_with fail
      refine bodyPost_ret (v := .tuple #[.agg #[.slice none 0 0, .int .u64 0, .int .u64 0], .int .i64 (se : Int)]) (by simp [results, Try.results154, go_sem, c0, c1, c2]) rfl ?_
      rw [HE.out]
      exact ⟨_, rfl, HY.out.1⟩
    subst hz
    obtain ⟨f5, hf5⟩ : ∃ b, fl ef 4 = b := ⟨_, rfl⟩
    have H5 : Hid (∀ V, Calls Try.prog 162 #[.agg #[.int .u64 (ea : Int), .int .u32 (el : Int), .int .u16 (ef : Int), .int .u16 (ex : Int)], .int .u16 4] V fun e w' => e = .returned (.bool f5) ∧ Below V.heap.size V w') := by
      intro V; rw [← hf5]; exact hasf4 ea el ef ex hsf V
    have HF5 : Hid (fl s.d.f 4 = f5) := by show fl s.d.f 4 = f5; rw [HSE.out.1]; exact hf5
    clear hf5
    cases f5 with
    | true =>
      have HE : Hid (cn = ⟨153, [], 0, 0⟩) := HCN.out.1.symm.trans (walk_nest HCN.out.2 HRE.out.2.1 HF4.out HTE.out HS.out HSE.out.2.1 HF5.out)
      go_upto_region 14 with (go_at_call 162; refine (H5.out _).mono ?_; rintro e w8 ⟨rfl, hb8⟩; have X8 : Hid (Wk3 rb Inv F w v0 F2 w8 sl p #[.int .u64 (ea : Int), .int .u32 (el : Int), .int .u16 (ef : Int), .int .u16 (ex : Int)] p3 #[.int .u64 (da : Int), .int .u64 (dl : Int)]) := X7.out.below m hb8; clear hb8 d0 d1 d2 d3)
      clear X7
      go_upto_region 14 with fail
      refine wp_region_list ?_
      (refine wpList_step (fun KK hKK => ?_); go_simp; refine hKK _ _ ?_; clear hKK KK)
      refine wpList_store_row rfl 44 _ _ rfl (w.heap.size + 1) #[.slice none 0 0, .int .u64 0, .int .u64 0] rfl rfl 44 #[.slice none 0 0, .int .u64 0, .int .u64 0] X8.out.1.1.2.2.1 info40 rfl (by simp [Value.oneCell']) ?_
      have HY : Hid (ChP Inv F w (w8.setRow (w.heap.size + 1) #[.slice none 0 0, .int .u64 0, .int .u64 0]) (.slice none 0 0) [] ∧ (w8.setRow (w.heap.size + 1) #[.slice none 0 0, .int .u64 0, .int .u64 0]).heap[w.heap.size + 1]? = some (.cells #[.slice none 0 0, .int .u64 0, .int .u64 0] 44 (0, 0))) := ⟨X8.out.1.1.ret m HB0.out #[.slice none 0 0, .int .u64 0, .int .u64 0] (segs_nil _ _) (fun g hg => by cases hg), setRow_heap _ _ _ _ _ _ X8.out.1.1.2.2.1⟩
      generalize w8.setRow (w.heap.size + 1) #[.slice none 0 0, .int .u64 0, .int .u64 0] = w9 at *
      obtain ⟨c0, c1, c2⟩ := box3_facts HY.out.2
      go_wp2_with fail
      refine bodyPost_ret (v := .tuple #[.agg #[.slice none 0 0, .int .u64 0, .int .u64 0], .int .i64 153]) (by simp [results, Try.results154, go_sem, c0, c1, c2]) rfl ?_
      rw [HE.out]
      exact ⟨_, rfl, HY.out.1⟩
    | false =>
      have HE : Hid (cn = ⟨0, sl, da, dl⟩) := HCN.out.1.symm.trans (by rw [walk_two HCN.out.2 HRE.out.2.1 HF4.out HTE.out HS.out HSE.out.2.1 HF5.out, HRE.out.1, HSE.out.2.2])
      go_upto_region 15 with (go_at_call 162; refine (H5.out _).mono ?_; rintro e w8 ⟨rfl, hb8⟩; have X8 : Hid (Wk3 rb Inv F w v0 F2 w8 sl p #[.int .u64 (ea : Int), .int .u32 (el : Int), .int .u16 (ef : Int), .int .u16 (ex : Int)] p3 #[.int .u64 (da : Int), .int .u64 (dl : Int)]) := X7.out.below m hb8; clear hb8 d0 d1 d2 d3)
      clear X7
      obtain ⟨t0, t1, _, _⟩ := box_facts X8.out.2.2.1
      obtain ⟨a, c, hwb, hsg, hgg⟩ := X8.out.1.1.seg
      have HG : Hid (SegIn 0 w8 (.slice a sl.length c) sl ∧ ∀ g, (Value.slice a sl.length c).ownBlock = some g → ¬ F2 g ∧ w.heap.size + 1 + 1 ≤ g) := ⟨hsg, hgg⟩
      have m1 := cellOf hwb 1 _ rfl
      clear hwb hsg hgg
      obtain ⟨nl, hnl⟩ : ∃ nl, sl.length = nl := ⟨_, rfl⟩
      rw [hnl] at HG m1
      go_upto_region 15 with fail
      refine wp_region_list ?_
      (refine wpList_step (fun KK hKK => ?_); go_simp; refine hKK _ _ ?_; clear hKK KK)
      (refine wpList_step (fun KK hKK => ?_); go_simp; refine hKK _ _ ?_; clear hKK KK)
      (refine wpList_step (fun KK hKK => ?_); go_simp; refine hKK _ _ ?_; clear hKK KK)
      (refine wpList_step (fun KK hKK => ?_); go_simp; refine hKK _ _ ?_; clear hKK KK)
      refine wpList_store_row rfl 44 _ _ rfl (w.heap.size + 1) #[.slice a nl c, .int .u64 (da : Int), .int .u64 (dl : Int)] rfl rfl 44 #[.slice none 0 0, .int .u64 0, .int .u64 0] X8.out.1.1.2.2.1 info40 rfl (by simp [Value.oneCell']) ?_
      have HY : Hid (ChP Inv F w (w8.setRow (w.heap.size + 1) #[.slice a nl c, .int .u64 (da : Int), .int .u64 (dl : Int)]) (.slice a nl c) sl ∧ (w8.setRow (w.heap.size + 1) #[.slice a nl c, .int .u64 (da : Int), .int .u64 (dl : Int)]).heap[w.heap.size + 1]? = some (.cells #[.slice a nl c, .int .u64 (da : Int), .int .u64 (dl : Int)] 44 (0, 0))) := ⟨X8.out.1.1.ret m HB0.out #[.slice a nl c, .int .u64 (da : Int), .int .u64 (dl : Int)] (HG.out.1) (HG.out.2), setRow_heap _ _ _ _ _ _ X8.out.1.1.2.2.1⟩
      generalize w8.setRow (w.heap.size + 1) #[.slice a nl c, .int .u64 (da : Int), .int .u64 (dl : Int)] = w9 at *
      obtain ⟨c0, c1, c2⟩ := box3_facts HY.out.2
      go_wp2_with fail
      refine bodyPost_ret (v := .tuple #[.agg #[.slice a nl c, .int .u64 (da : Int), .int .u64 (dl : Int)], .int .i64 0]) (by simp [results, Try.results154, go_sem, c0, c1, c2]) rfl ?_
      rw [HE.out]
      exact ⟨_, rfl, HY.out.1⟩

end Go.Proofs.Ytlkhjekakbckmaa

/- Chains alike. -/
namespace Go.Proofs.Ytlkhjekakbckmaa
open Go.RowKit Go.Maps
set_option linter.unusedVariables false
set_option linter.unusedSimpArgs false
set_option maxRecDepth 100000
end Go.Proofs.Ytlkhjekakbckmaa

/- Sizes on both sides. -/
namespace Go.Proofs.Ytlkhjekakbckmaa
open Go.RowKit Go.Maps
set_option linter.unusedVariables false
set_option linter.unusedSimpArgs false
set_option maxRecDepth 100000
set_option maxHeartbeats 2000000 in
theorem psizes_any {sz : Nat} {w : World} {a : Option Addr} {L c : Nat} {l : List Seg} (h : SegIn 0 w (.slice a L c) l) (hl : l.length ≤ 1000) (hok : ∀ s ∈ l, SegOk sz s) (ta tl : Nat) : Calls Try.prog 87 #[.agg #[.slice a L c, .int .u64 (ta : Int), .int .u64 (tl : Int)]] w fun e w' => e = .returned (.tuple #[.int .u64 (sizeN false l : Int), .int .u64 (sizeN true l : Int)]) ∧ Below w.heap.size w w' := by
  have hLl : L = l.length := by
    obtain ⟨a2, c2, h⟩ := h.form
    simp only [Value.slice.injEq] at h
    exact h.2.1
  have h2 := heap_alloc_new w (.cells #[.slice a L c, .int .u64 (ta : Int), .int .u64 (tl : Int)] 44)
  have hb : Below w.heap.size w (w.alloc (.cells #[.slice a L c, .int .u64 (ta : Int), .int .u64 (tl : Int)] 44)) := (Below.refl _ _).alloc (Nat.le_refl _) _
  have XB : Hid (Below w.heap.size w (w.alloc (.cells #[.slice a L c, .int .u64 (ta : Int), .int .u64 (tl : Int)] 44)) ∧ (w.alloc (.cells #[.slice a L c, .int .u64 (ta : Int), .int .u64 (tl : Int)] 44)).heap[w.heap.size]? = some (.cells #[.slice a L c, .int .u64 (ta : Int), .int .u64 (tl : Int)] 44 (0, 0))) := ⟨hb, h2⟩
  have HS : Hid (SegIn 0 w (.slice a L c) l ∧ L = l.length ∧ l.length ≤ 1000 ∧ ∀ s ∈ l, SegOk sz s) := ⟨h, hLl, hl, hok⟩
  clear h hLl hl hok h2 hb
  go_enter Try.func87, Try.ntmps87
  go_upto_region 1 with fail
  obtain ⟨p0, p1, p2⟩ := box3_facts XB.out.2
  generalize w.alloc (.cells #[.slice a L c, .int .u64 (ta : Int), .int .u64 (tl : Int)] 44) = v0 at *
  go_wp2_with fail
  go_loopw [4, 5, 11] (fun r q x wr => ∃ i : Nat, i ≤ L ∧ x = .int .i64 (i : Int) ∧ r = .int .u64 (sizeN false (l.take i) : Int) ∧ q = .int .u64 (sizeN true (l.take i) : Int) ∧ Below w.heap.size w wr ∧ wr.heap[w.heap.size]? = some (.cells #[.slice a L c, .int .u64 (ta : Int), .int .u64 (tl : Int)] 44 (0, 0))) (fun _ _ x _ => L - (intOf x).toNat)
  case atStart => exact ⟨0, Nat.zero_le _, rfl, rfl, rfl, XB.out⟩
  case round =>
    obtain ⟨i, hi, rfl, rfl, rfl, hbr⟩ := hrel
    have XR : Hid (Below w.heap.size w wr ∧ wr.heap[w.heap.size]? = some (.cells #[.slice a L c, .int .u64 (ta : Int), .int .u64 (tl : Int)] 44 (0, 0))) := hbr
    clear hbr XB p0 p1 p2
    obtain ⟨p0, p1, p2⟩ := box3_facts XR.out.2
    by_cases hlt : i < L
    case neg =>
      have h1 : ¬ (i : Int) < (L : Int) := by omega
      have hil : i = l.length := by have := HS.out.2.1; omega
      subst hil
      rw [List.take_length]
      clear hlt hi
      go_wp2_with fail
      refine bodyPost_ret (v := .tuple #[.int .u64 (sizeN false l : Int), .int .u64 (sizeN true l : Int)]) (by simp [results, Try.results87, go_sem]) rfl ⟨rfl, XR.out.1⟩
    case pos =>
      have h1 : (i : Int) < (L : Int) := by omega
      have hil : i < l.length := by have := HS.out.2.1; omega
      obtain ⟨g, c', hsl, hcl⟩ := HS.out.1.cells (by omega)
      simp only [Value.slice.injEq] at hsl
      obtain ⟨rfl, -, rfl⟩ := hsl
      have hgl : g < w.heap.size := (HS.out.1.lt g rfl).2
      obtain ⟨x1, y1, z1⟩ := hcl i hil
      have x2 := (XR.out.1.cell (p := ⟨g, i * 3, none⟩) hgl).trans x1
      have y2 := (XR.out.1.cell (p := ⟨g, i * 3 + 1, none⟩) hgl).trans y1
      have z2 := (XR.out.1.cell (p := ⟨g, i * 3 + 2, none⟩) hgl).trans z1
      have hso := HS.out.2.2.2 _ (List.getElem_mem hil)
      have T0 := sizeN_take false l i hil
      have T1 := sizeN_take true l i hil
      have U0 : sizeN false (l.take i) + (l[i]).l ≤ 9000000 := by
        have := sizeN_le false (l.take i) (fun s hs => HS.out.2.2.2 s (List.mem_of_mem_take hs))
        have := HS.out.2.2.1
        have := hso.l
        simp only [List.length_take] at *
        omega
      have U1 : sizeN true (l.take i) + (l[i]).l ≤ 9000000 := by
        have := sizeN_le true (l.take i) (fun s hs => HS.out.2.2.2 s (List.mem_of_mem_take hs))
        have := HS.out.2.2.1
        have := hso.l
        simp only [List.length_take] at *
        omega
      generalize (l[i]).a = sa at *
      generalize (l[i]).l = sl at *
      generalize (l[i]).wr = sw at *
      generalize sizeN false (l.take i) = n0 at *
      generalize sizeN true (l.take i) = n1 at *
      have W0 : IntKind.u64.wrap ((n0 : Int) + (sl : Int)) = ((n0 + sl : Nat) : Int) := by rw [wrap_u64]; omega
      have W1 : IntKind.u64.wrap ((n1 : Int) + (sl : Int)) = ((n1 + sl : Nat) : Int) := by rw [wrap_u64]; omega
      obtain ⟨m0, hm0⟩ : ∃ m0, n0 + sl = m0 := ⟨_, rfl⟩
      obtain ⟨m1, hm1⟩ : ∃ m1, n1 + sl = m1 := ⟨_, rfl⟩
      rw [hm0] at W0
      rw [hm1] at W1
      have HT : Hid (sizeN false (l.take (i + 1)) = n0 + (if sw = false then sl else 0) ∧ sizeN true (l.take (i + 1)) = n1 + (if sw = true then sl else 0) ∧ n0 + sl = m0 ∧ n1 + sl = m1 ∧ i < L ∧ L ≤ 1000) := ⟨T0, T1, hm0, hm1, hlt, by have := HS.out.2; omega⟩
      have hi6 : i ≤ 1000 := by have := HS.out.2; omega
      clear T0 T1 U0 U1 hm0 hm1 hso x1 y1 z1 hcl hil hi hlt
      cases sw with
      | false =>
        go_wp2_with fail
        go_roundw
        case rel => exact ⟨i + 1, HT.out.2.2.2.2.1, by go_num, by rw [HT.out.1, ← HT.out.2.2.1]; rfl, by rw [HT.out.2.1]; rfl, XR.out.1.alloc XR.out.1.size _, below_box XR.out.2 ((Below.refl _ _).alloc (Nat.le_refl _) _)⟩
        case measure => simp [intOf]; have := HT.out.2.2.2.2.1; omega
      | true =>
        go_wp2_with fail
        go_roundw
        case rel => exact ⟨i + 1, HT.out.2.2.2.2.1, by go_num, by rw [HT.out.1]; rfl, by rw [HT.out.2.1, ← HT.out.2.2.2.1]; rfl, XR.out.1.alloc XR.out.1.size _, below_box XR.out.2 ((Below.refl _ _).alloc (Nat.le_refl _) _)⟩
        case measure => simp [intOf]; have := HT.out.2.2.2.2.1; omega
end Go.Proofs.Ytlkhjekakbckmaa

/- The pieces of a chain. -/
namespace Go.Proofs.Ytlkhjekakbckmaa
open Go.RowKit Go.Maps
set_option linter.unusedVariables false
set_option linter.unusedSimpArgs false
set_option maxRecDepth 100000
def PcS (w : World) (b : Bool) (l : List Seg) (f n : Nat) (a : Option Addr) (L c ta tl : Nat) (V : World) (vo : Value) (i f' n' : Nat) (out : List (Nat × Nat)) : Prop := SpanIn w.heap.size V vo out ∧ out.length ≤ i ∧ pcs b l f n = (out ++ (pcs b (l.drop i) f' n').1, (pcs b (l.drop i) f' n').2) ∧ f' ≤ f ∧ n' ≤ n ∧ Below w.heap.size w V ∧ V.heap[w.heap.size]? = some (.cells #[.slice a L c, .int .u64 (ta : Int), .int .u64 (tl : Int)] 44 (0, 0))
theorem PcS.below {w : World} {b : Bool} {l : List Seg} {f n : Nat} {a : Option Addr} {L c ta tl : Nat} {V V2 : World} {vo : Value} {i f' n' : Nat} {out : List (Nat × Nat)} (h : PcS w b l f n a L c ta tl V vo i f' n' out) (hb : Below V.heap.size V V2) : PcS w b l f n a L c ta tl V2 vo i f' n' out := ⟨h.1.kept (fun g hg => hb.block g (h.1.lt g hg).2), h.2.1, h.2.2.1, h.2.2.2.1, h.2.2.2.2.1, below_to h.2.2.2.2.2.1 hb, below_box h.2.2.2.2.2.2 hb⟩
theorem SpanIn.row {B : Nat} {w : World} {v : Value} {l : List (Nat × Nat)} {q : Nat} {cc : Array Value} (h : SpanIn B w v l) (hq : v.ownBlock = some q) (hb : w.heap[q]? = some (.cells cc 44 (0, 0))) : False := by
  rcases h.2 with ⟨rfl, _⟩ | ⟨g, cap, cur, rfl, _, hg, _⟩
  · cases hq
  · have : g = q := by simpa [Value.ownBlock] using hq
    subst this
    rw [hb] at hg
    simp at hg
theorem drop_cons {l : List Seg} {i : Nat} (h : i < l.length) : l.drop i = l[i] :: l.drop (i + 1) := List.drop_eq_getElem_cons h
theorem PcS.skip {w : World} {b : Bool} {l : List Seg} {f n : Nat} {a : Option Addr} {L c ta tl : Nat} {V : World} {vo : Value} {i f' n' : Nat} {out : List (Nat × Nat)} (h : PcS w b l f n a L c ta tl V vo i f' n' out) (hi : i < l.length) (hw : ¬ (l[i]).wr = b) : PcS w b l f n a L c ta tl V vo (i + 1) f' n' out :=
  ⟨h.1, by have := h.2.1; omega, by rw [h.2.2.1, drop_cons hi, pcs_other hw], h.2.2.2⟩
theorem PcS.none {w : World} {b : Bool} {l : List Seg} {f n : Nat} {a : Option Addr} {L c ta tl : Nat} {V : World} {vo : Value} {i f' n' sk : Nat} {out : List (Nat × Nat)} (h : PcS w b l f n a L c ta tl V vo i f' n' out) (hi : i < l.length) (hw : (l[i]).wr = b) (h1 : sk = min f' (l[i]).l) (h2 : 0 = min n' ((l[i]).l - sk)) : PcS w b l f n a L c ta tl V vo (i + 1) (f' - sk) (n' - 0) out :=
  ⟨h.1, by have := h.2.1; omega, by rw [h.2.2.1, drop_cons hi, pcs_none hw h1 h2 rfl], by have := h.2.2.2.1; omega, by have := h.2.2.2.2.1; omega, h.2.2.2.2.2⟩
theorem PcS.some {w : World} {b : Bool} {l : List Seg} {f n : Nat} {a : Option Addr} {L c ta tl : Nat} {V : World} {vo vo2 : Value} {i f' n' sk tk : Nat} {out : List (Nat × Nat)} (h : PcS w b l f n a L c ta tl V vo i f' n' out) {V2 : World} (hi : i < l.length) (hw : (l[i]).wr = b) (h1 : sk = min f' (l[i]).l) (h2 : tk = min n' ((l[i]).l - sk)) (h0 : ¬ tk = 0) (hs : SpanIn w.heap.size V2 vo2 (out ++ [((l[i]).a + sk, tk)])) (hb : Below w.heap.size w V2) (hbx : V2.heap[w.heap.size]? = .some (.cells #[.slice a L c, .int .u64 (ta : Int), .int .u64 (tl : Int)] 44 (0, 0))) : PcS w b l f n a L c ta tl V2 vo2 (i + 1) (f' - sk) (n' - tk) (out ++ [((l[i]).a + sk, tk)]) :=
  ⟨hs, by have := h.2.1; simp; omega, by rw [h.2.2.1, drop_cons hi, pcs_some hw h1 h2 h0]; simp, by have := h.2.2.2.1; omega, by have := h.2.2.2.2.1; omega, hb, hbx⟩
theorem min_if (x y : Nat) : (if (y : Int) < (x : Int) then (y : Int) else (x : Int)) = ((min x y : Nat) : Int) := by split <;> omega
theorem min_if2 (x y : Nat) : (if y < x then (y : Int) else (x : Int)) = ((min x y : Nat) : Int) := by split <;> omega
set_option maxHeartbeats 4000000 in
theorem pieces_any {sz : Nat} (hz : sz ≤ 8192) {w : World} {F : Nat → Prop} {rb kk : Nat} {M : Nat → Nat} (hr : RamAt w F rb sz kk (.pointer none) M) {a : Option Addr} {L c : Nat} {l : List Seg} (h : SegIn 0 w (.slice a L c) l) (hl : l.length ≤ 1000) (hok : ∀ s ∈ l, SegOk sz s) (ta tl : Nat) (b : Bool) (f n : Nat) (hf : f < 18446744073709551616) (hn : n < 18446744073709551616) :
    Calls Try.prog 93 #[.agg #[.slice a L c, .int .u64 (ta : Int), .int .u64 (tl : Int)], .pointer (some ⟨rb, 0, none⟩), .bool b, .int .u64 (f : Int), .int .u64 (n : Int)] w fun e w' => Below w.heap.size w w' ∧ ((roomB b l f n = false ∧ e = .returned (.tuple #[.slice none 0 0, .bool false])) ∨ (roomB b l f n = true ∧ ∃ vo, e = .returned (.tuple #[vo, .bool true]) ∧ SpanIn w.heap.size w' vo (pcs b l f n).1)) := by
  obtain ⟨i0, hi0, hz0, hz1, hz2⟩ := info_parts Try.info42
  have hLl : L = l.length := by
    obtain ⟨a2, c2, h⟩ := h.form
    simp only [Value.slice.injEq] at h
    exact h.2.1
  have h2 := heap_alloc_new w (.cells #[.slice a L c, .int .u64 (ta : Int), .int .u64 (tl : Int)] 44)
  have hb : Below w.heap.size w (w.alloc (.cells #[.slice a L c, .int .u64 (ta : Int), .int .u64 (tl : Int)] 44)) := (Below.refl _ _).alloc (Nat.le_refl _) _
  have XB : Hid (PcS w b l f n a L c ta tl (w.alloc (.cells #[.slice a L c, .int .u64 (ta : Int), .int .u64 (tl : Int)] 44)) (.slice none 0 0) 0 f n []) := ⟨⟨rfl, .inl ⟨rfl, rfl⟩⟩, Nat.le_refl _, rfl, Nat.le_refl _, Nat.le_refl _, hb, h2⟩
  have HS : Hid (SegIn 0 w (.slice a L c) l ∧ L = l.length ∧ l.length ≤ 1000 ∧ ∀ s ∈ l, SegOk sz s) := ⟨h, hLl, hl, hok⟩
  have HZ : Hid (sz ≤ 8192) := hz
  have HR : Hid (RamAt w F rb sz kk (.pointer none) M) := hr
  have HFN : Hid (f < 18446744073709551616 ∧ n < 18446744073709551616) := ⟨hf, hn⟩
  clear h hLl hl hok h2 hb hr hf hn
  go_enter Try.func93, Try.ntmps93
  go_upto_region 1 with fail
  obtain ⟨p0, p1, p2⟩ := box3_facts XB.out.2.2.2.2.2.2
  generalize w.alloc (.cells #[.slice a L c, .int .u64 (ta : Int), .int .u64 (tl : Int)] 44) = v0 at *
  go_wp2_with fail
  go_loopw [3, 4, 12, 21] (fun vf vn vo x wr => ∃ (i f' n' : Nat) (out : List (Nat × Nat)), i ≤ L ∧ x = .int .i64 (i : Int) ∧ vf = .int .u64 (f' : Int) ∧ vn = .int .u64 (n' : Int) ∧ PcS w b l f n a L c ta tl wr vo i f' n' out) (fun _ _ _ x _ => L - (intOf x).toNat)
  case atStart => exact ⟨0, f, n, [], Nat.zero_le _, rfl, rfl, rfl, XB.out⟩
  case round =>
    obtain ⟨i, f', n', out, hi, rfl, rfl, rfl, hx⟩ := hrel
    obtain ⟨ao, co, hvo⟩ := hx.1.form
    subst hvo
    obtain ⟨lo, hlo⟩ : ∃ lo, out.length = lo := ⟨_, rfl⟩
    rw [hlo] at hx ⊢
    have XR : Hid (PcS w b l f n a L c ta tl wr (.slice ao lo co) i f' n' out ∧ out.length = lo) := ⟨hx, hlo⟩
    clear hx hlo XB p0 p1 p2
    obtain ⟨p0, p1, p2⟩ := box3_facts XR.out.1.2.2.2.2.2.2
    by_cases hlt : i < L
    case neg =>
      have h1 : ¬ (i : Int) < (L : Int) := by omega
      have hil : i = l.length := by have := HS.out.2.1; omega
      have hp := XR.out.1.2.2.1
      rw [hil, List.drop_length] at hp
      have hp2 : pcs b l f n = (out, f', n') := by rw [hp]; simp [pcs]
      have HP : Hid (pcs b l f n = (out, f', n')) := hp2
      clear hlt hi hp hp2 hil
      by_cases hz : f' = 0 ∧ n' = 0
      · obtain ⟨rfl, rfl⟩ := hz
        go_wp2_with fail
        refine bodyPost_ret (v := .tuple #[.slice ao lo co, .bool true]) (by simp [results, Try.results93, go_sem]) rfl ?_
        refine ⟨XR.out.1.2.2.2.2.2.1, .inr ⟨(room_iff b l f n).2 (by rw [HP.out]), _, rfl, ?_⟩⟩
        rw [HP.out]
        exact XR.out.1.1
      · have HRB : Hid (roomB b l f n = false) := by
          show roomB b l f n = false
          cases hrb : roomB b l f n with
          | false => rfl
          | true =>
            have := (room_iff b l f n).1 hrb
            rw [HP.out] at this
            simp only [Prod.mk.injEq] at this
            exact absurd this hz
        by_cases hf0 : f' = 0
        · have g1 : (0 : Int) < (n' : Int) := by omega
          subst hf0
          clear hz
          go_wp2_with fail
          refine bodyPost_ret (v := .tuple #[.slice none 0 0, .bool false]) (by simp [results, Try.results93, go_sem]) rfl ?_
          exact ⟨XR.out.1.2.2.2.2.2.1, .inl ⟨HRB.out, rfl⟩⟩
        · have g1 : (0 : Int) < (f' : Int) := by omega
          clear hz
          go_wp2_with fail
          refine bodyPost_ret (v := .tuple #[.slice none 0 0, .bool false]) (by simp [results, Try.results93, go_sem]) rfl ?_
          exact ⟨XR.out.1.2.2.2.2.2.1, .inl ⟨HRB.out, rfl⟩⟩
    case pos =>
      have h1 : (i : Int) < (L : Int) := by omega
      have hil : i < l.length := by have := HS.out.2.1; omega
      obtain ⟨g, c', hsl, hcl⟩ := HS.out.1.cells (by omega)
      simp only [Value.slice.injEq] at hsl
      obtain ⟨rfl, -, rfl⟩ := hsl
      have hgl : g < w.heap.size := (HS.out.1.lt g rfl).2
      obtain ⟨x1, y1, z1⟩ := hcl i hil
      have x2 := (XR.out.1.2.2.2.2.2.1.cell (p := ⟨g, i * 3, none⟩) hgl).trans x1
      have y2 := (XR.out.1.2.2.2.2.2.1.cell (p := ⟨g, i * 3 + 1, none⟩) hgl).trans y1
      have z2 := (XR.out.1.2.2.2.2.2.1.cell (p := ⟨g, i * 3 + 2, none⟩) hgl).trans z1
      have hso := HS.out.2.2.2 _ (List.getElem_mem hil)
      obtain ⟨sa, hsa⟩ : ∃ sa, (l[i]).a = sa := ⟨_, rfl⟩
      obtain ⟨sl, hsl⟩ : ∃ sl, (l[i]).l = sl := ⟨_, rfl⟩
      obtain ⟨sw, hsw⟩ : ∃ sw, (l[i]).wr = sw := ⟨_, rfl⟩
      rw [hsa] at x2
      rw [hsl] at y2
      rw [hsw] at z2
      have HQ : Hid (∃ hil : i < l.length, (l[i]).a = sa ∧ (l[i]).l = sl ∧ (l[i]).wr = sw) := ⟨hil, hsa, hsl, hsw⟩
      have hin := in_lenS hso.i
      rw [hsa, hsl] at hin
      have HIN : Hid (sl ≤ sz ∧ 2147483648 ≤ sa ∧ sa + sl ≤ 2147483648 + sz ∧ sz ≤ 8192) := ⟨hin.1, hin.2.1, hin.2.2, HZ.out⟩
      have HLT : Hid (i < L ∧ L ≤ 1000) := ⟨hlt, by have := HS.out.2; omega⟩
      have hi6 : i ≤ 1000 := by have := HLT.out; omega
      clear x1 y1 z1 hcl hso hsa hsl hsw hgl hin hlt hi hil
      go_upto_region 5 with fail
      have X1 : Hid (PcS w b l f n (some ⟨g, 0, none⟩) L c ta tl (wr.alloc (.cells #[.int .u64 (sa : Int), .int .u64 (sl : Int), .bool sw] 62)) (.slice ao lo co) i f' n' out ∧ (wr.alloc (.cells #[.int .u64 (sa : Int), .int .u64 (sl : Int), .bool sw] 62)).heap[wr.heap.size]? = some (.cells #[.int .u64 (sa : Int), .int .u64 (sl : Int), .bool sw] 62 (0, 0))) := ⟨XR.out.1.below ((Below.refl _ _).alloc (Nat.le_refl _) _), heap_alloc_new _ _⟩
      have HLO : Hid (out.length = lo) := XR.out.2
      clear XR x2 y2 z2 p0 p1 p2
      generalize wr.alloc (.cells #[.int .u64 (sa : Int), .int .u64 (sl : Int), .bool sw] 62) = w1 at *
      generalize wr.heap.size = q at *
      obtain ⟨t0, t1, t2⟩ := box3_facts X1.out.2
      by_cases hwb : sw = b
      case neg =>
        have hne : (sw == b) = false := by simp [hwb]
        go_wp2_with fail
        go_roundw
        case rel => exact ⟨i + 1, f', n', out, HLT.out.1, by go_num, rfl, rfl, X1.out.1.skip HQ.out.1 (by rw [HQ.out.2.2.2]; exact hwb)⟩
        case measure => simp [intOf]; have := HLT.out.1; omega
      have hne : (sw == b) = true := by simp [hwb]
      have HWB : Hid (sw = b) := hwb
      clear hwb
      obtain ⟨sk, hsk⟩ : ∃ sk, sk = min f' sl := ⟨_, rfl⟩
      obtain ⟨df, hdf⟩ : ∃ df, df = sl - sk := ⟨_, rfl⟩
      obtain ⟨tk, htk⟩ : ∃ tk, tk = min n' df := ⟨_, rfl⟩
      have m1 : (if (sl : Int) < (f' : Int) then (sl : Int) else (f' : Int)) = (sk : Int) := by rw [hsk]; exact min_if f' sl
      have m2 : (if sl < f' then (sl : Int) else (f' : Int)) = (sk : Int) := by rw [hsk]; exact min_if2 f' sl
      have m3 : IntKind.u64.wrap ((sl : Int) - (sk : Int)) = (df : Int) := by have := HIN.out; rw [wrap_u64]; omega
      have m4 : (if (df : Int) < (n' : Int) then (df : Int) else (n' : Int)) = (tk : Int) := by rw [htk]; exact min_if n' df
      have m5 : (if df < n' then (df : Int) else (n' : Int)) = (tk : Int) := by rw [htk]; exact min_if2 n' df
      have HF2 : Hid (f' < 18446744073709551616 ∧ n' < 18446744073709551616) := ⟨Nat.lt_of_le_of_lt X1.out.1.2.2.2.1 HFN.out.1, Nat.lt_of_le_of_lt X1.out.1.2.2.2.2.1 HFN.out.2⟩
      have m6 : IntKind.u64.wrap ((f' : Int) - (sk : Int)) = ((f' - sk : Nat) : Int) := by have := HF2.out.1; rw [wrap_u64]; omega
      have m7 : IntKind.u64.wrap ((n' : Int) - (tk : Int)) = ((n' - tk : Nat) : Int) := by have := HF2.out.2; rw [wrap_u64]; omega
      have HK : Hid (sk = min f' sl ∧ tk = min n' (sl - sk)) := ⟨hsk, hdf ▸ htk⟩
      obtain ⟨f2, hf2⟩ : ∃ f2, f' - sk = f2 := ⟨_, rfl⟩
      obtain ⟨n2, hn2⟩ : ∃ n2, n' - tk = n2 := ⟨_, rfl⟩
      rw [hf2] at m6
      rw [hn2] at m7
      obtain ⟨x, hx⟩ : ∃ x, x = sa + sk := ⟨_, rfl⟩
      have m8 : IntKind.u64.wrap ((sa : Int) + (sk : Int)) = (x : Int) := by have := HIN.out; rw [wrap_u64]; omega
      have HX : Hid (x = sa + sk ∧ f' - sk = f2 ∧ n' - tk = n2 ∧ sk + tk ≤ sl) := ⟨hx, hf2, hn2, by omega⟩
      clear hsk hdf htk hf2 hn2 hx
      by_cases htz : tk = 0
      case pos =>
        have e0 : ((tk : Int) == 0) = true := by simp [htz]
        have HZ : Hid (tk = 0) := htz
        clear htz
        go_wp2_with fail
        go_roundw
        case rel => exact ⟨i + 1, f2, n2, out, HLT.out.1, by go_num, rfl, rfl, by
          have hh := HK.out.2
          rw [HZ.out] at hh
          have := X1.out.1.none (sk := sk) HQ.out.1 (by rw [HQ.out.2.2.2]; exact HWB.out) (by rw [HQ.out.2.2.1]; exact HK.out.1) (by rw [HQ.out.2.2.1]; exact hh)
          rw [← HX.out.2.1, ← HX.out.2.2.1, HZ.out]
          exact this⟩
        case measure => simp [intOf]; have := HLT.out.1; omega
      have e0 : ((tk : Int) == 0) = false := by simp; omega
      have HZ : Hid (¬ tk = 0) := htz
      clear htz
      go_upto_region 12 with fail
      have hb2 : Below w1.heap.size w1 (w1.alloc (.cells #[.int .u64 (x : Int), .int .u64 (tk : Int)] 42)) := (Below.refl _ _).alloc (Nat.le_refl _) _
      have X2 : Hid (PcS w b l f n (some ⟨g, 0, none⟩) L c ta tl (w1.alloc (.cells #[.int .u64 (x : Int), .int .u64 (tk : Int)] 42)) (.slice ao lo co) i f' n' out ∧ (w1.alloc (.cells #[.int .u64 (x : Int), .int .u64 (tk : Int)] 42)).heap[w1.heap.size]? = some (.cells #[.int .u64 (x : Int), .int .u64 (tk : Int)] 42 (0, 0))) := ⟨X1.out.1.below hb2, heap_alloc_new _ _⟩
      clear hb2 X1 t0 t1 t2
      generalize w1.alloc (.cells #[.int .u64 (x : Int), .int .u64 (tk : Int)] 42) = w2 at *
      generalize w1.heap.size = q2 at *
      obtain ⟨t0, t1, _, _⟩ := box_facts X2.out.2
      have K55 : Hid (∀ V, Below w.heap.size w V → Calls Try.prog 57 #[.pointer (some ⟨rb, 0, none⟩), .int .u64 (x : Int), .int .u64 (tk : Int)] V fun e w' => e = .returned (.bool true) ∧ w' = V) := by
        intro V hV
        have h1 := HIN.out
        have h2 := HX.out
        have := has_any (HR.out.below hV) (by omega) x tk (by omega) (by omega)
        have hin : inB (x : Int) (tk : Int) 2147483648 ((sz : Nat) : Int) = true := by
          simp only [inB, Bool.and_eq_true, decide_eq_true_iff]
          omega
        rw [hin] at this
        exact this
      go_upto_region 14 with (go_at_call 57; refine (K55.out _ X2.out.1.2.2.2.2.2.1).mono ?_; rintro e w3 ⟨rfl, hw⟩; rw [hw]; clear hw w3)
      clear K55 m1 m2 m3 m4 m5 m6 m7 m8
      refine wp_region_list ?_
      (refine wpList_step (fun KK hKK => ?_); go_simp; refine hKK _ _ ?_; clear hKK KK)
      (refine wpList_step (fun KK hKK => ?_); go_simp; refine hKK _ _ ?_; clear hKK KK)
      (refine wpList_step (fun KK hKK => ?_); go_simp; refine hKK _ _ ?_; clear hKK KK)
      have hb3 : Below w2.heap.size w2 (w2.alloc (.cells #[.int .u64 (x : Int), .int .u64 (tk : Int)] 42)) := (Below.refl _ _).alloc (Nat.le_refl _) _
      have X3 : Hid (PcS w b l f n (some ⟨g, 0, none⟩) L c ta tl (w2.alloc (.cells #[.int .u64 (x : Int), .int .u64 (tk : Int)] 42)) (.slice ao lo co) i f' n' out) := X2.out.1.below hb3
      have HN3 : Hid (∀ j u, [Value.int .u64 (x : Int), .int .u64 (tk : Int)][j]? = some u → (w2.alloc (.cells #[.int .u64 (x : Int), .int .u64 (tk : Int)] 42)).cell? ((⟨w2.heap.size, 0, none⟩ : Addr).add j) = some u) := two_new w2 (.int .u64 (x : Int)) (.int .u64 (tk : Int)) 42
      clear hb3 X2 t0 t1
      generalize w2.alloc (.cells #[.int .u64 (x : Int), .int .u64 (tk : Int)] 42) = w3 at *
      generalize w2.heap.size = q3 at *
      refine wpList_append_own_at w3 rfl _ _ 182 rfl w.heap.size 42 i0 (.agg #[.int .u64 0, .int .u64 0]) 2 16 Try.underlying182 hi0 hz0 hz1 hz2 rfl (by decide) (.slice ao lo co) lo (spanRow out) rfl (by have := X3.out.1; unfold SpanIn at this; rw [HLO.out] at this; exact this) ⟨q3, 0, none⟩ 1 1 [.int .u64 (x : Int), .int .u64 (tk : Int)] rfl rfl HN3.out (by intro u hu; simp at hu; rcases hu with rfl | rfl <;> rfl) (by have := X3.out.2.1; have := HLO.out; unfold maxLen; omega) (by have := X3.out.2.1; have := HLO.out; omega) X3.out.2.2.2.2.2.1.size ?_
      intro v' w4 hown hgrow hnil hat
      have hbw : Below w.heap.size w w4 := Below.grown X3.out.2.2.2.2.2.1 hgrow X3.out.2.2.2.2.2.1.size (fun g hg => (X3.out.1.lt g hg).1)
      have hbx : w4.heap[w.heap.size]? = some (.cells #[.slice (some ⟨g, 0, none⟩) L c, .int .u64 (ta : Int), .int .u64 (tl : Int)] 44 (0, 0)) := (hgrow.block _ (Array.getElem?_eq_some_iff.1 X3.out.2.2.2.2.2.2).1 (fun e => by have := (X3.out.1.row e.symm X3.out.2.2.2.2.2.2); exact this)).trans X3.out.2.2.2.2.2.2
      have hsp : SpanIn w.heap.size w4 v' (out ++ [(x, tk)]) := by
        unfold SpanIn
        rw [spanRow_snoc, List.length_append, List.length_singleton, HLO.out]
        exact hown
      have X4 : Hid (PcS w b l f n (some ⟨g, 0, none⟩) L c ta tl w4 v' (i + 1) f2 n2 (out ++ [(x, tk)])) := by
        have := X3.out.some (vo2 := v') (V2 := w4) (sk := sk) (tk := tk) HQ.out.1 (by rw [HQ.out.2.2.2]; exact HWB.out) (by rw [HQ.out.2.2.1]; exact HK.out.1) (by rw [HQ.out.2.2.1]; exact HK.out.2) HZ.out (by rw [HQ.out.2.1, ← HX.out.1]; exact hsp) hbw hbx
        rw [HQ.out.2.1, ← HX.out.1, HX.out.2.1, HX.out.2.2.1] at this
        exact this
      clear hbw hbx hsp hown hgrow hnil hat X3
      go_wp2_with fail
      go_roundw
      case rel => exact ⟨i + 1, f2, n2, out ++ [(x, tk)], HLT.out.1, by go_num, rfl, rfl, X4.out⟩
      case measure => simp [intOf]; have := HLT.out.1; omega
end Go.Proofs.Ytlkhjekakbckmaa

/- Gather. -/
namespace Go.Proofs.Ytlkhjekakbckmaa
open Go.RowKit Go.Maps
set_option linter.unusedVariables false
set_option linter.unusedSimpArgs false
set_option maxRecDepth 100000
def row8 (l : List Nat) : List Value := l.map fun x => .int .u8 (x : Nat)
theorem row8_length (l : List Nat) : (row8 l).length = l.length := by simp [row8]
theorem row8_append (k l : List Nat) : row8 (k ++ l) = row8 k ++ row8 l := by simp [row8]
theorem row8_range (f : Nat → Nat) (n : Nat) : row8 ((List.range n).map f) = rowK .u8 f n := by simp [row8, rowK]
theorem row8_get (l : List Nat) (i : Nat) (h : i < l.length) : (row8 l)[i]? = some (.int .u8 (l.getD i 0 : Nat)) := by
  simp [row8, List.getElem?_eq_getElem h, List.getD]
theorem row8_one (l : List Nat) : ∀ u ∈ row8 l, u.oneCell' = true := by
  intro u hu
  simp only [row8, List.mem_map] at hu
  obtain ⟨x, _, rfl⟩ := hu
  rfl
theorem reads8 {w : World} {B : Nat} {v : Value} {l : List Nat} (h : w.ownsRow B 5 1 v l.length (row8 l)) : Reads .u8 w v l.length (fun i => l.getD i 0) := by
  have h' := h
  rcases h'.2 with ⟨rfl, h0⟩ | ⟨g, cap, cur, rfl, _⟩
  · exact .inl ⟨h0, none, 0, by simp⟩
  · refine .inr ⟨g, 0, cap, rfl, fun i hi => ?_⟩
    have := World.ownsRow.cells h (g := g) rfl i _ (row8_get l i hi)
    rw [addr_add] at this
    exact this
theorem own8_form {w : World} {B : Nat} {v : Value} {n : Nat} {xs : List Value} (h : w.ownsRow B 5 1 v n xs) : ∃ a c, v = .slice a n c := by
  rcases h.2 with ⟨hv, h0⟩ | ⟨g, cap, cur, hv, _⟩
  · exact ⟨none, 0, by rw [hv, h0]⟩
  · exact ⟨_, cap, hv⟩
/-- bytes appended to a row of one's own -/
theorem wpList_append_bytes {w : World} {ops : Array Oper} {rest : List Oper} {o : Oper} {a : Act} {Q : Exit → Act → World → Prop} (hgd : o.guard = none) (s x : Operand) (ho : o.op = .call { callee := .builtin .append, args := #[s, x], argTypes := #[22, 22] })
    (B : Nat) (xs : List Nat) (v : Value) (hs : a.eval s = v) (hown : w.ownsRow B 5 1 v xs.length (row8 xs)) (gx cx : Nat) (ys : List Nat) (hx : a.eval x = .slice (some ⟨gx, 0, none⟩) ys.length cx) (hr : w.ownsRow 0 5 1 (.slice (some ⟨gx, 0, none⟩) ys.length cx) ys.length (row8 ys)) (h0 : 0 < ys.length) (hL : xs.length + ys.length ≤ 100000) (hB : B ≤ w.heap.size)
    (h : ∀ g' cap w', w'.ownsRow B 5 1 (.slice (some ⟨g', 0, none⟩) (xs ++ ys).length cap) (xs ++ ys).length (row8 (xs ++ ys)) → Below B w w' → wpList Try.prog ops Q rest (a.put o.dst (.slice (some ⟨g', 0, none⟩) (xs ++ ys).length cap)) w') : wpList Try.prog ops Q (o :: rest) a w := by
  obtain ⟨i0, hi, hz0, hz1, hz2⟩ := info_parts Try.info5
  refine wpList_append_own w hgd s x 22 ho B 5 i0 (.int .u8 0) 1 1 Try.underlying22 hi hz0 hz1 hz2 rfl (by decide) v xs.length (row8 xs) hs hown ⟨gx, 0, none⟩ ys.length cx (row8 ys) hx (by rw [row8_length]; omega) (World.ownsRow.cells hr (g := gx) rfl) (row8_one _) (by unfold maxLen; omega) (by omega) hB ?_
  intro v' w' hown' hgrow hnil
  rw [← row8_append, ← List.length_append] at hown'
  have hlow : ∀ g, v.ownBlock = some g → B ≤ g := fun g hg => (hown.lt g hg).1
  rcases hown'.2 with ⟨rfl, _⟩ | ⟨g', cap, cur, rfl, hb', _⟩
  · have := hnil.1 rfl; omega
  · exact h g' cap w' hown' (Below.grown (Below.refl _ _) hgrow hB hlow)
theorem spanA_take (ps : List (Nat × Nat)) (i : Nat) (hi : i < ps.length) : spanA (ps.take (i + 1)) = spanA (ps.take i) ++ (List.range (ps.getD i (0, 0)).2).map ((ps.getD i (0, 0)).1 + ·) := by
  rw [List.take_add_one, List.getElem?_eq_getElem hi, spanA_append]
  simp [spanA, List.getD, hi]
theorem spanA_len_le (ps : List (Nat × Nat)) (i : Nat) : (spanA (ps.take i)).length ≤ (spanA ps).length := by
  conv => rhs; rw [← List.take_append_drop i ps, spanA_append, List.length_append]
  omega
theorem room_len {b : Bool} {l : List Seg} {f n : Nat} (h : roomB b l f n = true) : (((addrs b l).drop f).take n).length = n := by
  simp only [roomB, decide_eq_true_iff] at h
  rw [List.length_take, List.length_drop, addrs_length]
  omega
theorem own_base {B B' : Nat} {w : World} {e : TypeId} {size n : Nat} {v : Value} {xs : List Value} (h : w.ownsRow B e size v n xs) (hb : B' ≤ B) : w.ownsRow B' e size v n xs := by
  refine ⟨h.1, h.2.imp id ?_⟩
  rintro ⟨g, cap, cur, h1, h2, h3⟩
  exact ⟨g, cap, cur, h1, Nat.le_trans hb h2, h3⟩
theorem readsF_own {F : Nat → Prop} {B : Nat} {w : World} {v : Value} {n : Nat} {l : List Nat} (h : w.ownsRow B 5 1 v n (row8 l)) (hl : l.length = n) (hF : ∀ g, B ≤ g → ¬ F g) : ReadsF F w v n (fun i => l.getD i 0) := by
  subst hl
  obtain ⟨a, c, rfl⟩ := own8_form h
  rcases h.2 with ⟨h1, h2⟩ | ⟨g, cap, cur, h1, hB, h2, h3, h4, h5⟩
  · simp only [Value.slice.injEq] at h1
    obtain ⟨rfl, h1, rfl⟩ := h1
    exact .inl ⟨h1, none, 0, by omega, by rw [h1]⟩
  · simp only [Value.slice.injEq] at h1
    obtain ⟨rfl, -, rfl⟩ := h1
    refine .inr ⟨g, 0, _, rfl, hF g hB, h3, by have := h4; unfold maxLen at this; omega, fun i hi => ?_⟩
    rcases reads8 h with ⟨h0, _⟩ | ⟨b', o', c', he, hc⟩
    · omega
    · simp only [Value.slice.injEq, Option.some.injEq, Addr.mk.injEq, and_true, true_and] at he
      obtain ⟨⟨rfl, rfl⟩, rfl⟩ := he
      exact hc i hi
/-- what is gathered -/
def gatL (M : Nat → Nat) (l : List Seg) (f n : Nat) : List Nat := (((addrs false l).drop f).take n).map M
set_option maxHeartbeats 4000000 in
theorem gather_any {sz : Nat} (hz : sz ≤ 8192) {w : World} {F : Nat → Prop} {rb kk : Nat} {M : Nat → Nat} (hr : RamAt w F rb sz kk (.pointer none) M) {a : Option Addr} {L c : Nat} {l : List Seg} (h : SegIn 0 w (.slice a L c) l) (hl : l.length ≤ 1000) (hok : ∀ s ∈ l, SegOk sz s) (ta tl : Nat) (f n : Nat) (hf : f < 18446744073709551616) (hn : n < 18446744073709551616) (h20 : roomB false l f n = true → n ≤ 8000) :
    Calls Try.prog 88 #[.agg #[.slice a L c, .int .u64 (ta : Int), .int .u64 (tl : Int)], .pointer (some ⟨rb, 0, none⟩), .int .u64 (f : Int), .int .u64 (n : Int)] w fun e w' => Below w.heap.size w w' ∧ ((roomB false l f n = false ∧ e = .returned (.tuple #[.slice none 0 0, .bool false])) ∨ (roomB false l f n = true ∧ ∃ a' c', e = .returned (.tuple #[.slice a' n c', .bool true]) ∧ w'.ownsRow w.heap.size 5 1 (.slice a' n c') n (row8 (gatL M l f n)))) := by
  have h2 := heap_alloc_new w (.cells #[.slice a L c, .int .u64 (ta : Int), .int .u64 (tl : Int)] 44)
  have hb : Below w.heap.size w (w.alloc (.cells #[.slice a L c, .int .u64 (ta : Int), .int .u64 (tl : Int)] 44)) := (Below.refl _ _).alloc (Nat.le_refl _) _
  have XB : Hid (Below w.heap.size w (w.alloc (.cells #[.slice a L c, .int .u64 (ta : Int), .int .u64 (tl : Int)] 44)) ∧ (w.alloc (.cells #[.slice a L c, .int .u64 (ta : Int), .int .u64 (tl : Int)] 44)).heap[w.heap.size]? = some (.cells #[.slice a L c, .int .u64 (ta : Int), .int .u64 (tl : Int)] 44 (0, 0))) := ⟨hb, h2⟩
  have K45 : Hid (∀ V, Below w.heap.size w V → Calls Try.prog 93 #[.agg #[.slice a L c, .int .u64 (ta : Int), .int .u64 (tl : Int)], .pointer (some ⟨rb, 0, none⟩), .bool false, .int .u64 (f : Int), .int .u64 (n : Int)] V fun e w' => Below V.heap.size V w' ∧ ((roomB false l f n = false ∧ e = .returned (.tuple #[.slice none 0 0, .bool false])) ∨ (roomB false l f n = true ∧ ∃ vo, e = .returned (.tuple #[vo, .bool true]) ∧ SpanIn V.heap.size w' vo (pcs false l f n).1))) := fun V hV => pieces_any hz (hr.below hV) (h.kept (fun g hg => hV.block g (h.lt g hg).2)) hl hok ta tl false f n hf hn
  have HZ : Hid (sz ≤ 8192) := hz
  have HR : Hid (RamAt w F rb sz kk (.pointer none) M) := hr
  have HP : Hid ((∀ p ∈ (pcs false l f n).1, inB p.1 p.2 2147483648 (sz : Nat) = true ∧ 0 < p.2 ∧ p.1 < 18446744073709551616 ∧ p.2 ≤ 8192) ∧ (pcs false l f n).1.length ≤ 1000 ∧ spanA (pcs false l f n).1 = ((addrs false l).drop f).take n) := ⟨pcs_ok hz hok f n, Nat.le_trans (pcs_len false l f n) hl, pcs_span false l f n⟩
  have HN : Hid (roomB false l f n = true → n ≤ 8000) := h20
  clear hz h2 hb hr h hl hok hf hn h20
  go_enter Try.func88, Try.ntmps88
  go_upto_region 1 with fail
  obtain ⟨p0, p1, p2⟩ := box3_facts XB.out.2
  generalize w.alloc (.cells #[.slice a L c, .int .u64 (ta : Int), .int .u64 (tl : Int)] 44) = v0 at *
  go_upto_region 2 with (go_at_call 93; refine (K45.out _ XB.out.1).mono ?_; rintro e w1 ⟨hb1, hor⟩; rcases hor with ⟨hrb, rfl⟩ | ⟨hrb, vo, rfl, hsp⟩)
  · have X1 : Hid (Below w.heap.size w w1 ∧ roomB false l f n = false) := ⟨below_to XB.out.1 hb1, hrb⟩
    clear hb1 hrb
    go_wp2_with fail
    refine bodyPost_ret (v := .tuple #[.slice none 0 0, .bool false]) (by simp [results, Try.results88, go_sem]) rfl ?_
    exact ⟨X1.out.1, .inl ⟨X1.out.2, rfl⟩⟩
  · obtain ⟨ao, co, hvo⟩ := hsp.form
    subst hvo
    obtain ⟨ps, hps⟩ : ∃ ps, (pcs false l f n).1 = ps := ⟨_, rfl⟩
    rw [hps] at hsp HP ⊢
    obtain ⟨K, hK⟩ : ∃ K, ps.length = K := ⟨_, rfl⟩
    have X1 : Hid (Below w.heap.size w w1 ∧ roomB false l f n = true ∧ SpanIn v0.heap.size w1 (.slice ao ps.length co) ps ∧ n ≤ 8000) := ⟨below_to XB.out.1 hb1, hrb, hsp, HN.out hrb⟩
    rw [hK] at X1 ⊢
    have HK : Hid (ps.length = K ∧ K ≤ 1000 ∧ (spanA ps).length = n) := ⟨hK, by have := HP.out.2.1; omega, by rw [HP.out.2.2]; exact room_len hrb⟩
    clear hb1 hrb hsp hps hK XB p0 p1 p2
    go_wp2_with fail
    go_loopw [12, 29] (fun vb x wr => ∃ i : Nat, i ≤ K ∧ x = .int .i64 (i : Int) ∧ wr.ownsRow w1.heap.size 5 1 vb ((spanA (ps.take i)).map M).length (row8 ((spanA (ps.take i)).map M)) ∧ Below w1.heap.size w1 wr) (fun _ x _ => K - (intOf x).toNat)
    case atStart => exact ⟨0, Nat.zero_le _, rfl, ⟨rfl, .inl ⟨rfl, rfl⟩⟩, Below.refl _ _⟩
    case round =>
      obtain ⟨i, hi, rfl, how, hbr⟩ := hrel
      obtain ⟨m, hm⟩ : ∃ m, ((spanA (ps.take i)).map M).length = m := ⟨_, rfl⟩
      obtain ⟨ab, cb, hvb⟩ := own8_form how
      rw [hm] at hvb
      subst hvb
      have XR : Hid (wr.ownsRow w1.heap.size 5 1 (.slice ab m cb) ((spanA (ps.take i)).map M).length (row8 ((spanA (ps.take i)).map M)) ∧ Below w1.heap.size w1 wr ∧ ((spanA (ps.take i)).map M).length = m) := ⟨how, hbr, hm⟩
      clear how hbr hm
      by_cases hlt : i < K
      case neg =>
        have h1 : ¬ (i : Int) < (K : Int) := by omega
        have hiK : i = ps.length := by have := HK.out.1; omega
        have hmn : m = n := by
          have := XR.out.2.2
          rw [hiK, List.take_length, List.length_map, HK.out.2.2] at this
          exact this.symm
        have hrd := XR.out.1
        rw [hiK, List.take_length, HP.out.2.2] at hrd
        rw [List.length_map, room_len X1.out.2.1] at hrd
        subst hmn
        have HRD : Hid (wr.ownsRow w.heap.size 5 1 (.slice ab m cb) m (row8 (gatL M l f m))) := own_base hrd X1.out.1.size
        clear hlt hi hrd hiK
        go_wp2_with fail
        refine bodyPost_ret (v := .tuple #[.slice ab m cb, .bool true]) (by simp [results, Try.results88, go_sem]) rfl ?_
        exact ⟨below_to X1.out.1 XR.out.2.1, .inr ⟨X1.out.2.1, ab, cb, rfl, HRD.out⟩⟩
      case pos =>
        have h1 : (i : Int) < (K : Int) := by omega
        have hil : i < ps.length := by have := HK.out.1; omega
        obtain ⟨g, cg, hsl, hcl⟩ := X1.out.2.2.1.cells (by rw [HK.out.1] at *; omega)
        simp only [Value.slice.injEq] at hsl
        obtain ⟨rfl, -, rfl⟩ := hsl
        have hgl : g < w1.heap.size := (X1.out.2.2.1.lt g rfl).2
        obtain ⟨x1, y1⟩ := hcl i hil
        have x2 := (XR.out.2.1.cell (p := ⟨g, i * 2, none⟩) hgl).trans x1
        have y2 := (XR.out.2.1.cell (p := ⟨g, i * 2 + 1, none⟩) hgl).trans y1
        have hpo := HP.out.1 (ps.getD i (0, 0)) (by simp [List.getD, hil])
        have ht := spanA_take ps i hil
        have hlen := spanA_len_le ps (i + 1)
        rw [HK.out.2.2] at hlen
        obtain ⟨x, hx⟩ : ∃ x, (ps.getD i (0, 0)).1 = x := ⟨_, rfl⟩
        obtain ⟨tk, htk⟩ : ∃ tk, (ps.getD i (0, 0)).2 = tk := ⟨_, rfl⟩
        rw [hx] at x2 ht hpo
        rw [htk] at y2 ht hpo
        have HT : Hid (spanA (ps.take (i + 1)) = spanA (ps.take i) ++ (List.range tk).map (x + ·) ∧ (spanA (ps.take (i + 1))).length ≤ n ∧ 0 < tk ∧ i < K) := ⟨ht, hlen, hpo.2.1, hlt⟩
        have hz2 := HZ.out
        have K46 : Hid (∀ V, Below w.heap.size w V → Calls Try.prog 22 #[.pointer (some ⟨rb, 0, none⟩), .int .u64 (x : Int), .int .u64 (tk : Int)] V fun e w' => e = .returned (.tuple #[.slice (some ⟨V.heap.size, 0, none⟩) tk tk, .bool true]) ∧ w'.ownsRow V.heap.size 5 1 (.slice (some ⟨V.heap.size, 0, none⟩) tk tk) tk (rowK .u8 (fun i => M (x + i)) tk) ∧ Below V.heap.size V w') := fun V hV => read_in (HR.out.below hV) (by omega) x tk hpo.2.2.1 (by have := hpo.2.2.2; omega) hpo.1
        have hi6 : i ≤ 1000 := by have := HK.out.2.1; omega
        clear x1 y1 hcl hgl hpo ht hlen hx htk hlt hi hil
        go_upto_region 8 with fail
        have hb2 : Below wr.heap.size wr (wr.alloc (.cells #[.int .u64 (x : Int), .int .u64 (tk : Int)] 42)) := (Below.refl _ _).alloc (Nat.le_refl _) _
        have X2 : Hid ((wr.alloc (.cells #[.int .u64 (x : Int), .int .u64 (tk : Int)] 42)).ownsRow w1.heap.size 5 1 (.slice ab m cb) ((spanA (ps.take i)).map M).length (row8 ((spanA (ps.take i)).map M)) ∧ Below w1.heap.size w1 (wr.alloc (.cells #[.int .u64 (x : Int), .int .u64 (tk : Int)] 42)) ∧ ((spanA (ps.take i)).map M).length = m ∧ (wr.alloc (.cells #[.int .u64 (x : Int), .int .u64 (tk : Int)] 42)).heap[wr.heap.size]? = some (.cells #[.int .u64 (x : Int), .int .u64 (tk : Int)] 42 (0, 0))) := ⟨own_below XR.out.1 hb2, below_to XR.out.2.1 hb2, XR.out.2.2, heap_alloc_new _ _⟩
        clear hb2 XR x2 y2
        generalize wr.alloc (.cells #[.int .u64 (x : Int), .int .u64 (tk : Int)] 42) = w2 at *
        generalize wr.heap.size = q2 at *
        obtain ⟨t0, t1, _, _⟩ := box_facts X2.out.2.2.2
        go_upto_region 9 with (go_at_call 22; refine (K46.out _ (below_to X1.out.1 X2.out.2.1)).mono ?_; rintro e w3 ⟨rfl, ho3, hb3⟩; have X3 : Hid (w3.ownsRow w1.heap.size 5 1 (.slice ab m cb) ((spanA (ps.take i)).map M).length (row8 ((spanA (ps.take i)).map M)) ∧ Below w1.heap.size w1 w3 ∧ ((spanA (ps.take i)).map M).length = m ∧ w3.ownsRow 0 5 1 (.slice (some ⟨w2.heap.size, 0, none⟩) tk tk) tk (rowK .u8 (fun i => M (x + i)) tk)) := ⟨own_below X2.out.1 hb3, below_to X2.out.2.1 hb3, X2.out.2.2.1, own_low ho3 (Nat.zero_le _)⟩; clear ho3 hb3 X2 t0 t1)
        generalize w2.heap.size = gr at *
        refine wp_region_list ?_
        (refine wpList_step (fun KK hKK => ?_); go_simp; refine hKK _ _ ?_; clear hKK KK)
        (refine wpList_step (fun KK hKK => ?_); go_simp; refine hKK _ _ ?_; clear hKK KK)
        have hys : ((List.range tk).map (fun j => M (x + j))).length = tk := by simp
        have hrr := X3.out.2.2.2
        rw [← row8_range] at hrr
        refine wpList_append_bytes rfl _ _ rfl w1.heap.size ((spanA (ps.take i)).map M) (.slice ab m cb) rfl X3.out.1 gr tk ((List.range tk).map (fun j => M (x + j))) (by rw [hys]; rfl) (by rw [hys]; exact hrr) (by rw [hys]; exact HT.out.2.2.1) (by have h1 := HT.out.2.1; rw [HT.out.1] at h1; simp at h1 ⊢; have := X1.out.2.2.2; omega) X3.out.2.1.size ?_
        intro g4 cap4 w4 hown4 hb4
        have e4 : (spanA (ps.take i)).map M ++ (List.range tk).map (fun j => M (x + j)) = (spanA (ps.take (i + 1))).map M := by rw [HT.out.1, List.map_append, List.map_map]; rfl
        rw [e4] at hown4 ⊢
        obtain ⟨m4, hm4⟩ : ∃ m4, ((spanA (ps.take (i + 1))).map M).length = m4 := ⟨_, rfl⟩
        rw [hm4]
        have X4 : Hid (w4.ownsRow w1.heap.size 5 1 (.slice (some ⟨g4, 0, none⟩) m4 cap4) ((spanA (ps.take (i + 1))).map M).length (row8 ((spanA (ps.take (i + 1))).map M)) ∧ Below w1.heap.size w1 w4) := ⟨by rw [← hm4]; exact hown4, X3.out.2.1.trans hb4⟩
        clear hown4 hb4 e4 hrr hys X3 hm4
        go_wp2_with fail
        go_roundw
        case rel => exact ⟨i + 1, HT.out.2.2.2, by go_num, X4.out.1, X4.out.2⟩
        case measure => simp [intOf]; have := HT.out.2.2.2; omega
end Go.Proofs.Ytlkhjekakbckmaa

/- Scatter. -/
namespace Go.Proofs.Ytlkhjekakbckmaa
open Go.RowKit Go.Maps
set_option linter.unusedVariables false
set_option linter.unusedSimpArgs false
set_option maxRecDepth 100000
/-- bytes laid at addresses, one behind the other -/
def layS (g : Nat → Nat) : List Nat → Nat → (Nat → Nat) → (Nat → Nat)
  | [], _, M => M
  | a :: xs, j, M => layS g xs (j + 1) (over M a 1 (fun _ => g j))
theorem layS_append (g : Nat → Nat) : ∀ (xs bs : List Nat) (j : Nat) (M : Nat → Nat), layS g (xs ++ bs) j M = layS g bs (j + xs.length) (layS g xs j M) := by
  intro xs
  induction xs with
  | nil => intro bs j M; rfl
  | cons a xs ih =>
    intro bs j M
    simp only [List.cons_append, layS, List.length_cons]
    rw [ih, show j + 1 + xs.length = j + (xs.length + 1) from by omega]
theorem over_one (M : Nat → Nat) (x L : Nat) (f : Nat → Nat) : over (over M x L f) (x + L) 1 (fun _ => f L) = over M x (L + 1) f := by
  funext a
  unfold over
  by_cases h1 : x + L ≤ a ∧ a < x + L + 1
  · have : a - x = L := by omega
    rw [if_pos h1, if_pos (by omega), this]
  · rw [if_neg h1]
    by_cases h2 : x ≤ a ∧ a < x + L
    · rw [if_pos h2, if_pos (by omega)]
    · rw [if_neg h2, if_neg (by omega)]
theorem layS_range (g : Nat → Nat) (j x : Nat) (M : Nat → Nat) : ∀ L, layS g ((List.range L).map (x + ·)) j M = over M x L (fun i => g (j + i)) := by
  intro L
  induction L with
  | zero => rw [over_zero]; rfl
  | succ L ih =>
    rw [List.range_succ, List.map_append, layS_append, ih, ← over_one]
    simp [layS]
theorem layS_le {g : Nat → Nat} (hg : ∀ i, g i ≤ 255) : ∀ (xs : List Nat) (j : Nat) (M : Nat → Nat), (∀ a, M a ≤ 255) → ∀ a, layS g xs j M a ≤ 255 := by
  intro xs
  induction xs with
  | nil => intro j M h; exact h
  | cons a xs ih => intro j M h; exact ih _ _ (over_le a 1 h (fun i _ => hg j))
/-- bytes besides the addresses stay -/
theorem layS_out (g : Nat → Nat) : ∀ (xs : List Nat) (j : Nat) (M : Nat → Nat) (q : Nat), q ∉ xs → layS g xs j M q = M q := by
  intro xs
  induction xs with
  | nil => intro j M q _; rfl
  | cons a xs ih =>
    intro j M q hq
    simp only [List.mem_cons, not_or] at hq
    rw [layS, ih _ _ _ hq.2]
    unfold over
    rw [if_neg (by omega)]
def scaL (l : List Seg) (f n : Nat) : List Nat := ((addrs true l).drop f).take n
theorem span_step {B : Nat} {w w2 : World} {F F2 : Nat → Prop} {gs K co : Nat} {l : List (Nat × Nat)} (h : SpanIn B w (.slice (some ⟨gs, 0, none⟩) K co) l) (hn : ¬ F gs) (hs : Step F w F2 w2) : SpanIn B w2 (.slice (some ⟨gs, 0, none⟩) K co) l ∧ ¬ F2 gs := by
  have hlt := (h.lt gs rfl).2
  refine ⟨h.kept (fun q hq => ?_), fun hf => ?_⟩
  · have : q = gs := by simpa [Value.ownBlock] using hq.symm
    subst this
    exact hs.block _ hlt hn
  · rcases hs.old gs hf with h1 | h1
    · exact hn h1
    · omega
theorem reads_cells {F : Nat → Prop} {w : World} {bd od cd R : Nat} {f : Nat → Nat} (h : ReadsF F w (.slice (some ⟨bd, od, none⟩) R cd) R f) : ∀ i, i < R → w.cell? ⟨bd, od + i, none⟩ = some (.int .u8 (f i : Nat)) := by
  rcases h with ⟨h0, _⟩ | ⟨b', o', c', he, _, _, _, hcl⟩
  · intro i hi; omega
  · simp only [Value.slice.injEq, Option.some.injEq, Addr.mk.injEq, and_true, true_and] at he
    obtain ⟨⟨rfl, rfl⟩, rfl⟩ := he
    exact hcl
theorem reads_not {F F2 : Nat → Prop} {w w2 : World} {bd od cd R : Nat} {f : Nat → Nat} (h : ReadsF F w (.slice (some ⟨bd, od, none⟩) R cd) R f) (hs : Step F w F2 w2) (hn : ¬ F bd) (hR : 0 < R) : ¬ F2 bd := by
  have hlt := block_lt_of_cell (reads_cells h 0 hR)
  intro hf
  rcases hs.old bd hf with h1 | h1
  · exact hn h1
  · have h2 : bd < w.heap.size := hlt
    omega
theorem step_kept2 {F F2 : Nat → Prop} {V V2 : World} {q : Nat} {o : Obj} (h : V.heap[q]? = some o) (hs : Step F V F2 V2) (hq : ¬ F q) : V2.heap[q]? = some o ∧ ¬ F2 q := by
  have hlt := (Array.getElem?_eq_some_iff.1 h).1
  refine ⟨(hs.block q hlt hq).trans h, fun hf => ?_⟩
  rcases hs.old q hf with h1 | h1
  · exact hq h1
  · omega
set_option maxHeartbeats 4000000 in
theorem scatter_any {sz : Nat} (hz : sz ≤ 8192) {w : World} {F : Nat → Prop} {rb kk : Nat} {M : Nat → Nat} (hr : RamAt w F rb sz kk (.pointer none) M) (hkk : kk ≤ 900000) {a : Option Addr} {L c : Nat} {l : List Seg} (h : SegIn 0 w (.slice a L c) l) (hl : l.length ≤ 1000) (hok : ∀ s ∈ l, SegOk sz s) (ta tl : Nat) (f n : Nat) (hf : f < 18446744073709551616) (hn : n ≤ 8000) (g : Nat → Nat) (hg : ∀ i, g i ≤ 255) (va : Option Addr) (vc : Nat) (hd : ReadsF F w (.slice va n vc) n g) :
    Calls Try.prog 53 #[.agg #[.slice a L c, .int .u64 (ta : Int), .int .u64 (tl : Int)], .pointer (some ⟨rb, 0, none⟩), .int .u64 (f : Int), .slice va n vc] w fun e w' => e = .returned (.bool (roomB true l f n)) ∧ ∃ F', RamAt w' F' rb sz (kk + n) (.pointer none) (if roomB true l f n = true then layS g (scaL l f n) 0 M else M) ∧ Step F w F' w' := by
  have h2 := heap_alloc_new w (.cells #[.slice a L c, .int .u64 (ta : Int), .int .u64 (tl : Int)] 44)
  have hb : Below w.heap.size w (w.alloc (.cells #[.slice a L c, .int .u64 (ta : Int), .int .u64 (tl : Int)] 44)) := (Below.refl _ _).alloc (Nat.le_refl _) _
  have XB : Hid (Below w.heap.size w (w.alloc (.cells #[.slice a L c, .int .u64 (ta : Int), .int .u64 (tl : Int)] 44)) ∧ (w.alloc (.cells #[.slice a L c, .int .u64 (ta : Int), .int .u64 (tl : Int)] 44)).heap[w.heap.size]? = some (.cells #[.slice a L c, .int .u64 (ta : Int), .int .u64 (tl : Int)] 44 (0, 0))) := ⟨hb, h2⟩
  have K45 : Hid (∀ V, Below w.heap.size w V → Calls Try.prog 93 #[.agg #[.slice a L c, .int .u64 (ta : Int), .int .u64 (tl : Int)], .pointer (some ⟨rb, 0, none⟩), .bool true, .int .u64 (f : Int), .int .u64 (n : Int)] V fun e w' => Below V.heap.size V w' ∧ ((roomB true l f n = false ∧ e = .returned (.tuple #[.slice none 0 0, .bool false])) ∨ (roomB true l f n = true ∧ ∃ vo, e = .returned (.tuple #[vo, .bool true]) ∧ SpanIn V.heap.size w' vo (pcs true l f n).1))) := fun V hV => pieces_any hz (hr.below hV) (h.kept (fun g hg => hV.block g (h.lt g hg).2)) hl hok ta tl true f n hf (by omega)
  have HZ : Hid (sz ≤ 8192) := hz
  have HR : Hid (RamAt w F rb sz kk (.pointer none) M ∧ ReadsF F w (.slice va n vc) n g ∧ (∀ i, g i ≤ 255) ∧ kk ≤ 900000) := ⟨hr, hd, hg, hkk⟩
  have HP : Hid ((∀ p ∈ (pcs true l f n).1, inB p.1 p.2 2147483648 (sz : Nat) = true ∧ 0 < p.2 ∧ p.1 < 18446744073709551616 ∧ p.2 ≤ 8192) ∧ (pcs true l f n).1.length ≤ 1000 ∧ spanA (pcs true l f n).1 = scaL l f n) := ⟨pcs_ok hz hok f n, Nat.le_trans (pcs_len true l f n) hl, pcs_span true l f n⟩
  have e1 : IntKind.u64.wrap (n : Int) = (n : Int) := by rw [wrap_u64]; omega
  obtain ⟨Mx, hMx⟩ : ∃ Mx, (if roomB true l f n = true then layS g (scaL l f n) 0 M else M) = Mx := ⟨_, rfl⟩
  rw [hMx]
  obtain ⟨rm, hrm⟩ : ∃ rm, roomB true l f n = rm := ⟨_, rfl⟩
  rw [hrm]
  have HMX : Hid ((rm = true → Mx = layS g (scaL l f n) 0 M) ∧ (rm = false → Mx = M) ∧ roomB true l f n = rm) := by
    rw [hrm] at hMx
    refine ⟨fun h => ?_, fun h => ?_, hrm⟩
    · rw [← hMx, h, if_pos rfl]
    · rw [← hMx, h, if_neg (by decide)]
  rw [hrm] at K45
  clear hMx hrm
  clear hz h2 hb hr h hl hok hf hd hg hkk
  go_enter Try.func53, Try.ntmps53
  go_upto_region 1 with fail
  obtain ⟨p0, p1, p2⟩ := box3_facts XB.out.2
  generalize w.alloc (.cells #[.slice a L c, .int .u64 (ta : Int), .int .u64 (tl : Int)] 44) = v0 at *
  go_upto_region 2 with (go_at_call 93; refine (K45.out _ XB.out.1).mono ?_; rintro e w1 ⟨hb1, hor⟩; rcases hor with ⟨hrb, rfl⟩ | ⟨hrb, vo, rfl, hsp⟩)
  · have X1 : Hid (Below w.heap.size w w1) := below_to XB.out.1 hb1
    subst hrb
    have HMM : Hid (Mx = M) := HMX.out.2.1 rfl
    clear hb1
    go_wp2_with fail
    go_ret
    refine ⟨rfl, F, ?_, Step.of_below X1.out⟩
    rw [HMM.out]
    exact (HR.out.1.below X1.out).mono (by omega)
  · subst hrb
    have hrb := HMX.out.2.2
    have HMM : Hid (Mx = layS g (scaL l f n) 0 M) := HMX.out.1 rfl
    obtain ⟨ao, co, hvo⟩ := hsp.form
    subst hvo
    obtain ⟨ps, hps⟩ : ∃ ps, (pcs true l f n).1 = ps := ⟨_, rfl⟩
    rw [hps] at hsp HP ⊢
    obtain ⟨K, hK⟩ : ∃ K, ps.length = K := ⟨_, rfl⟩
    have hlen : (spanA ps).length = n := by rw [HP.out.2.2]; exact room_len hrb
    have X1 : Hid (Below w.heap.size w w1 ∧ roomB true l f n = true ∧ SpanIn v0.heap.size w1 (.slice ao ps.length co) ps ∧ w.heap.size ≤ v0.heap.size) := ⟨below_to XB.out.1 hb1, hrb, hsp, XB.out.1.size⟩
    rw [hK] at X1 ⊢
    have HK : Hid (ps.length = K ∧ K ≤ 1000 ∧ (spanA ps).length = n) := ⟨hK, by have := HP.out.2.1; omega, hlen⟩
    clear hb1 hrb hsp hps hK XB p0 p1 p2 hlen K45
    go_wp2_with fail
    go_loopw [3, 27] (fun d xx wr => ∃ (i j : Nat) (G : Nat → Prop), i ≤ K ∧ xx = .int .i64 (i : Int) ∧ (spanA (ps.take i)).length = j ∧ j ≤ n ∧ ReadsF G wr d (n - j) (fun z => g (j + z)) ∧ RamAt wr G rb sz (kk + j) (.pointer none) (layS g (spanA (ps.take i)) 0 M) ∧ Step F w G wr ∧ SpanIn v0.heap.size wr (.slice ao K co) ps ∧ (∀ q, (Value.slice ao K co).ownBlock = some q → ¬ G q)) (fun _ xx _ => K - (intOf xx).toNat)
    case atStart =>
      refine ⟨0, 0, F, Nat.zero_le _, rfl, rfl, Nat.zero_le _, ?_, HR.out.1.below X1.out.1, Step.of_below X1.out.1, X1.out.2.2.1, fun q hq hf => ?_⟩
      · have := HR.out.2.1.step (Step.of_below X1.out.1)
        simpa using this
      · have h1 := (X1.out.2.2.1.lt q hq).1
        have h2 := HR.out.1.lt q hf
        have h3 := X1.out.2.2.2
        omega
    case round =>
      obtain ⟨i, j, G, hi, rfl, hj, hjn, hrd, hrm, hst, hsp, hgq⟩ := hrel
      by_cases hlt : i < K
      case neg =>
        have h1 : ¬ (i : Int) < (K : Int) := by omega
        have hiK : i = ps.length := by have := HK.out.1; omega
        rw [hiK, List.take_length] at hj hrm
        rw [HK.out.2.2] at hj
        subst hj
        have HM : Hid (RamAt wr G rb sz (kk + n) (.pointer none) (layS g (scaL l f n) 0 M) ∧ Step F w G wr) := ⟨by rw [← HP.out.2.2]; exact hrm, hst⟩
        rw [Nat.sub_self] at hrd
        clear hlt hi hiK hrm hst hsp hgq
        rcases hrd with ⟨_, a0, c0, _, rfl⟩ | ⟨b0, o0, c0, rfl, _⟩
        all_goals
          go_wp2_with fail
          go_ret
          refine ⟨rfl, G, ?_, HM.out.2⟩
          rw [HMM.out]
          exact HM.out.1
      case pos =>
        have h1 : (i : Int) < (K : Int) := by omega
        have hil : i < ps.length := by have := HK.out.1; omega
        obtain ⟨gs, cg, hsl, hcl⟩ := hsp.cells (by omega)
        have hsl2 := hsl
        rw [HK.out.1] at hsl2
        simp only [Value.slice.injEq, true_and] at hsl2
        obtain ⟨rfl, rfl⟩ := hsl2
        obtain ⟨x2, y2⟩ := hcl i hil
        have hpo := HP.out.1 (ps.getD i (0, 0)) (by simp [List.getD, hil])
        have ht := spanA_take ps i hil
        have hlen := spanA_len_le ps (i + 1)
        rw [HK.out.2.2] at hlen
        obtain ⟨x, hx⟩ : ∃ x, (ps.getD i (0, 0)).1 = x := ⟨_, rfl⟩
        obtain ⟨tk, htk⟩ : ∃ tk, (ps.getD i (0, 0)).2 = tk := ⟨_, rfl⟩
        rw [hx] at x2 ht hpo
        rw [htk] at y2 ht hpo
        have hlen2 : (spanA (ps.take (i + 1))).length = j + tk := by rw [ht, List.length_append, hj]; simp
        have hjt : j + tk ≤ n := by omega
        rcases hrd with ⟨h0, _⟩ | ⟨bd, od, cd, rfl, hG, hc1, hc2, hcell⟩
        · have := hpo.2.1; omega
        obtain ⟨R, hR⟩ : ∃ R, n - j = R := ⟨_, rfl⟩
        rw [hR] at hcell hc1 ⊢
        have htR : tk ≤ R := by omega
        have htc : (tk : Int) ≤ (cd : Int) := by omega
        have htc2 : (tk : Int) ≤ (R : Int) := by omega
        have hRc : (R : Int) ≤ (cd : Int) := by omega
        have HJ : Hid (spanA (ps.take (i + 1)) = spanA (ps.take i) ++ (List.range tk).map (x + ·) ∧ (spanA (ps.take (i + 1))).length = j + tk ∧ j + tk ≤ n ∧ n - j = R ∧ tk ≤ R ∧ (spanA (ps.take i)).length = j ∧ i < K ∧ inB x tk 2147483648 (sz : Nat) = true ∧ x < 18446744073709551616) := ⟨ht, hlen2, hjt, hR, htR, hj, hlt, hpo.1, hpo.2.2.1⟩
        have HJ0 : Hid (0 < tk ∧ 0 < R) := ⟨hpo.2.1, by have := hpo.2.1; omega⟩
        have hi6 : i ≤ 1000 := by have := HK.out.2.1; omega
        have htk9 : tk ≤ 8000 := by omega
        have hb2 : Below wr.heap.size wr (wr.alloc (.cells #[.int .u64 (x : Int), .int .u64 (tk : Int)] 42)) := (Below.refl _ _).alloc (Nat.le_refl _) _
        have X2 : Hid (RamAt (wr.alloc (.cells #[.int .u64 (x : Int), .int .u64 (tk : Int)] 42)) G rb sz (kk + j) (.pointer none) (layS g (spanA (ps.take i)) 0 M) ∧ Step F w G (wr.alloc (.cells #[.int .u64 (x : Int), .int .u64 (tk : Int)] 42)) ∧ SpanIn v0.heap.size (wr.alloc (.cells #[.int .u64 (x : Int), .int .u64 (tk : Int)] 42)) (.slice (some ⟨gs, 0, none⟩) K co) ps ∧ ¬ G gs ∧ (wr.alloc (.cells #[.int .u64 (x : Int), .int .u64 (tk : Int)] 42)).heap[wr.heap.size]? = some (.cells #[.int .u64 (x : Int), .int .u64 (tk : Int)] 42 (0, 0)) ∧ ¬ G wr.heap.size ∧ ReadsF G (wr.alloc (.cells #[.int .u64 (x : Int), .int .u64 (tk : Int)] 42)) (.slice (some ⟨bd, od, none⟩) R cd) R (fun z => g (j + z))) := ⟨hrm.below hb2, hst.trans (Step.of_below hb2), hsp.kept (fun q hq => hb2.block q (hsp.lt q hq).2), hgq gs rfl, heap_alloc_new _ _, fun hf => by have := hrm.lt _ hf; omega, ReadsF.step (F := G) (F' := G) (.inr ⟨bd, od, cd, rfl, hG, hc1, hc2, hcell⟩) (Step.of_below hb2)⟩
        have HCB : Hid (¬ G bd ∧ R ≤ cd ∧ cd ≤ 9223372036854775807) := ⟨hG, hc1, hc2⟩
        clear hrm hst hsp hgq hcl hpo ht hlen hx htk hlen2 hjt hR htR hlt hil hsl hb2 hj hG hc1 hc2 hcell hjn hi
        go_upto_region 7 with fail
        clear x2 y2
        generalize wr.alloc (.cells #[.int .u64 (x : Int), .int .u64 (tk : Int)] 42) = w2 at *
        generalize wr.heap.size = q2 at *
        have Xd : Hid (RamAt w2.drew G rb sz (kk + j) (.pointer none) (layS g (spanA (ps.take i)) 0 M) ∧ Step F w G w2.drew ∧ SpanIn v0.heap.size w2.drew (.slice (some ⟨gs, 0, none⟩) K co) ps ∧ ¬ G gs ∧ w2.drew.heap[q2]? = some (.cells #[.int .u64 (x : Int), .int .u64 (tk : Int)] 42 (0, 0)) ∧ ¬ G q2 ∧ ReadsF G w2.drew (.slice (some ⟨bd, od, none⟩) R cd) R (fun z => g (j + z))) := ⟨X2.out.1.below (Below.refl _ _).drew, X2.out.2.1.trans (Step.of_below (Below.refl _ _).drew), X2.out.2.2.1, X2.out.2.2.2.1, X2.out.2.2.2.2.1, X2.out.2.2.2.2.2.1, ReadsF.step X2.out.2.2.2.2.2.2 (Step.of_below (Below.refl _ _).drew)⟩
        clear X2
        have K32 : Hid (Calls Try.prog 21 #[.pointer (some ⟨rb, 0, none⟩), .int .u64 (x : Int), .slice (some ⟨bd, od, none⟩) tk cd] w2.drew fun e w' => e = .returned (.bool true) ∧ ∃ F', RamAt w' F' rb sz (kk + j + tk) (.pointer none) (over (layS g (spanA (ps.take i)) 0 M) x tk (fun z => g (j + z))) ∧ Step G w2.drew F' w') := by
          have hrd2 : ReadsF G w2.drew (.slice (some ⟨bd, od, none⟩) tk cd) tk (fun z => g (j + z)) := by
            rcases Xd.out.2.2.2.2.2.2 with ⟨h0, _⟩ | ⟨b', o', c', he, hb', _, hc', hcl⟩
            · refine .inl ⟨by have := HJ.out.2.2.2.2.1; omega, ?_⟩
              have : tk = 0 := by have := HJ.out.2.2.2.2.1; omega
              subst this
              exact ⟨_, cd, HCB.out.2.2, rfl⟩
            · simp only [Value.slice.injEq, Option.some.injEq, Addr.mk.injEq, and_true, true_and] at he
              obtain ⟨⟨rfl, rfl⟩, rfl⟩ := he
              exact .inr ⟨_, _, _, rfl, hb', by have := HJ.out.2.2.2.2.1; have := HCB.out.2.1; omega, hc', fun z hz => hcl z (by have := HJ.out.2.2.2.2.1; omega)⟩
          have hz2 := HZ.out
          have := write_any Xd.out.1 (by omega) x tk (fun z => g (j + z)) _ HJ.out.2.2.2.2.2.2.2.2 hrd2 (fun z _ => HR.out.2.2.1 _) (by have := HR.out.2.2.2; have := HJ.out.2.2.1; omega)
          have hin : inB (x : Int) (tk : Int) 2147483648 ((sz : Nat) : Int) = true := HJ.out.2.2.2.2.2.2.2.1
          rw [hin, if_pos rfl] at this
          exact this
        obtain ⟨t0, t1, _, _⟩ := box_facts Xd.out.2.2.2.2.1
        go_region_held3 (fun Z => Z.cell? ⟨q2, 0, none⟩ = some (.int .u64 (x : Int)) ∧ Z.cell? ⟨q2, 1, none⟩ = some (.int .u64 (tk : Int))) (go_keep) (first | (go_at_call 21; refine (K32.out).mono ?_; rintro e w3 ⟨rfl, G3, hr3, hs3⟩; have X3 : Hid (RamAt w3 G3 rb sz (kk + j + tk) (.pointer none) (over (layS g (spanA (ps.take i)) 0 M) x tk (fun z => g (j + z))) ∧ Step F w G3 w3 ∧ (SpanIn v0.heap.size w3 (.slice (some ⟨gs, 0, none⟩) K co) ps ∧ ¬ G3 gs) ∧ w3.heap[q2]? = some (.cells #[.int .u64 (x : Int), .int .u64 (tk : Int)] 42 (0, 0)) ∧ ReadsF G3 w3 (.slice (some ⟨bd, od, none⟩) R cd) R (fun z => g (j + z)) ∧ ¬ G3 bd) := ⟨hr3, Xd.out.2.1.trans hs3, span_step Xd.out.2.2.1 Xd.out.2.2.2.1 hs3, (step_kept2 Xd.out.2.2.2.2.1 hs3 Xd.out.2.2.2.2.2.1).1, ReadsF.step Xd.out.2.2.2.2.2.2 hs3, reads_not Xd.out.2.2.2.2.2.2 hs3 HCB.out.1 HJ0.out.2⟩; clear hr3 hs3; obtain ⟨t2, t3, _, _⟩ := box_facts X3.out.2.2.2.1))
        clear Xd K32 t0 t1
        go_wp2_with fail
        go_roundw
        case rel =>
          refine ⟨i + 1, j + tk, G3, HJ.out.2.2.2.2.2.2.1, by go_num, HJ.out.2.1, HJ.out.2.2.1, ?_, ?_, X3.out.2.1, X3.out.2.2.1.1, fun q hq => ?_⟩
          · have hcut := ReadsF.cut (F := G3) (w := w3) (b := bd) (off := od) (cap := cd) (n := R) (m := tk) (f := fun z => g (j + z)) X3.out.2.2.2.2.2 HCB.out.2.1 HCB.out.2.2 HJ.out.2.2.2.2.1 (reads_cells X3.out.2.2.2.2.1)
            rw [show n - (j + tk) = R - tk from by have := HJ.out; omega]
            simpa [Nat.add_assoc] using hcut
          · rw [HJ.out.1, layS_append, HJ.out.2.2.2.2.2.1, Nat.zero_add, layS_range]
            rw [← Nat.add_assoc]
            exact X3.out.1
          · have : q = gs := by simpa [Value.ownBlock] using hq.symm
            subst this
            exact X3.out.2.2.1.2
        case measure => simp [intOf]; have := HJ.out.2.2.2.2.2.2.1; omega
end Go.Proofs.Ytlkhjekakbckmaa

/- The ground: pieces, rows of bytes, boxes. -/
namespace Go.Proofs.Ytlkhjekakbckmaa.D
open Go.RowKit Go.Maps
set_option linter.unusedVariables false
set_option linter.unusedSimpArgs false
set_option maxRecDepth 100000
theorem ret_bool {a b : Bool} (h : a = b) : Ending.returned (.bool a) = .returned (.bool b) := by rw [h]
theorem ret_int {k : IntKind} {a b : Int} (h : a = b) : Ending.returned (.int k a) = .returned (.int k b) := by rw [h]
theorem wrap_u64 (x : Int) : IntKind.u64.wrap x = x % 18446744073709551616 := by simp [IntKind.wrap, IntKind.signed, IntKind.bits]
/-- a piece lies in another one, by numbers that have no end -/
def inB (a n b s : Int) : Bool := decide (b ≤ a ∧ a + n ≤ b + s)
theorem within_any (a n b s : Int) (ha : 0 ≤ a ∧ a ≤ 18446744073709551615) (hn : 0 ≤ n ∧ n ≤ 18446744073709551615) (hb : 0 ≤ b ∧ b ≤ 18446744073709551615) (hs : 0 ≤ s ∧ s ≤ 18446744073709551615) (w : World) :
    Calls Try.prog 94 #[.int .u64 a, .int .u64 n, .int .u64 b, .int .u64 s] w fun e w' => e = .returned (.bool (inB a n b s)) ∧ w' = w := by
  go_enter Try.func94, Try.ntmps94
  go_wp2
  all_goals (go_ret; exact ⟨ret_bool (by rw [Bool.eq_iff_iff]; simp [inB]; try omega), rfl⟩)
theorem grow_step {B : Nat} {w wr w1 : World} {o : Obj} {e : TypeId} {size n : Nat} {v : Value} {xs : List Value} (hb : Below B w wr) (hB : B ≤ wr.heap.size) (hown : wr.ownsRow B e size v n xs) (hg : (wr.alloc o).grownBy w1 v.ownBlock) : Below B w w1 :=
  Below.grown (hb.alloc hB o) hg (by simp; omega) (fun j hj => (hown.lt j hj).1)
theorem Try.info5 : (Try.prog.info? 5).map (fun i => (i.zero, i.size, i.bytes)) = some (some (.int .u8 0), 1, 1) := by kernel_rfl
/-- the first n numbers of a function, as cells of a kind -/
def rowK (k : IntKind) (f : Nat → Nat) (n : Nat) : List Value := (List.range n).map fun i => Value.int k ((f i : Nat) : Int)
theorem rowK_succ (k : IntKind) (f : Nat → Nat) (n : Nat) : rowK k f (n + 1) = rowK k f n ++ [Value.int k ((f n : Nat) : Int)] := by
  simp [rowK, List.range_succ]
theorem rowK_get (k : IntKind) (f : Nat → Nat) (n i : Nat) (h : i < n) : (rowK k f n)[i]? = some (Value.int k ((f i : Nat) : Int)) := by
  simp [rowK, h]
theorem rowK_congr (k : IntKind) (f g : Nat → Nat) (n : Nat) (h : ∀ i, i < n → f i = g i) : rowK k f n = rowK k g n := by
  unfold rowK
  apply List.map_congr_left
  intro i hi
  rw [h i (by simpa using hi)]
theorem rowK_zero (k : IntKind) (n : Nat) : List.replicate n (Value.int k 0) = rowK k (fun _ => 0) n := by
  apply List.ext_getElem?
  intro i
  by_cases h : i < n
  · simp [rowK, h]
  · simp [rowK, h]
theorem rowK_set (k : IntKind) (f : Nat → Nat) (n j b : Nat) : (rowK k f n).set j (Value.int k (b : Int)) = rowK k (fun i => if i = j then b else f i) n := by
  apply List.ext_getElem?
  intro i
  simp only [rowK, List.getElem?_set, List.getElem?_map, List.length_map, List.length_range]
  by_cases h : i < n
  · by_cases e : j = i
    · subst e; simp [h]
    · simp [h, e]; rw [if_neg (fun h' => e h'.symm)]
  · by_cases e : j = i
    · subst e; simp [h]
    · simp [h, e]
/-- what is known of a slice of n numbers that is read -/
def Reads (k : IntKind) (w : World) (v : Value) (n : Nat) (f : Nat → Nat) : Prop :=
  (n = 0 ∧ ∃ a cap, v = .slice a 0 cap) ∨ ∃ b off cap, v = .slice (some ⟨b, off, none⟩) n cap ∧ ∀ i, i < n → w.cell? ⟨b, off + i, none⟩ = some (.int k (f i : Nat))
theorem reads_own {k : IntKind} {w : World} {base : Nat} {e : TypeId} {v : Value} {n : Nat} {f : Nat → Nat} (h : w.ownsRow base e 1 v n (rowK k f n)) : Reads k w v n f := by
  rcases h.2 with ⟨rfl, rfl⟩ | ⟨g, cap, cur, rfl, _⟩
  · exact .inl ⟨rfl, _, _, rfl⟩
  · exact .inr ⟨g, 0, cap, rfl, fun i hi => by rw [Nat.zero_add, h.cellAt i (by omega)]; exact rowK_get _ _ _ _ hi⟩
theorem reads_below {k : IntKind} {w w' : World} {v : Value} {n : Nat} {f : Nat → Nat} (h : Reads k w v n f) (hb : Below w.heap.size w w') : Reads k w' v n f := by
  rcases h with h | ⟨b, off, cap, hv, hc⟩
  · exact .inl h
  · exact .inr ⟨b, off, cap, hv, fun i hi => by rw [hb.cell (p := ⟨b, off + i, none⟩) (block_lt_of_cell (hc i hi))]; exact hc i hi⟩
theorem reads_some {k : IntKind} {w : World} {v : Value} {n : Nat} {f : Nat → Nat} (h : Reads k w v n f) (hn : 0 < n) : ∃ b off cap, v = .slice (some ⟨b, off, none⟩) n cap ∧ ∀ i, i < n → w.cell? ⟨b, off + i, none⟩ = some (.int k (f i : Nat)) := by
  rcases h with ⟨h, _⟩ | h
  · omega
  · exact h
theorem reads_form {k : IntKind} {w : World} {v : Value} {n : Nat} {f : Nat → Nat} (h : Reads k w v n f) : ∃ a cap, v = .slice a n cap := by
  rcases h with ⟨rfl, a, cap, rfl⟩ | ⟨b, off, cap, rfl, _⟩
  · exact ⟨_, _, rfl⟩
  · exact ⟨_, _, rfl⟩
theorem aligned_pos (a b : Int) (ha : 0 ≤ a) (hb : 0 < b) (w : World) : Calls Try.prog 60 #[.int .u64 a, .int .u64 b] w fun e w' => e = .returned (.bool (a % b == 0)) ∧ w' = w := by
  have h : (b == 0) = false := by simp; omega
  go_enter Try.func60, Try.ntmps60
  go_wp2
  go_ret
  exact ⟨rfl, rfl⟩
theorem rowK_length (k : IntKind) (f : Nat → Nat) (n : Nat) : (rowK k f n).length = n := by simp [rowK]
theorem wpList_lookup_run {P : Program} {w : World} {ops : Array Oper} {rest : List Oper} {o : Oper} {a : Act} {Q : Exit → Act → World → Prop} (hg : o.guard = none) (m x : Operand) (t : TypeId) (hop : o.op = Op.lookup t m x true) {mv key v : Value} (hm : a.eval m = mv) (hx : a.eval x = key) (hrun : (Instr.lookup t mv key true).run P w = .ok v w)
    (h : wpList P ops Q rest (a.put o.dst v) w) : wpList P ops Q (o :: rest) a w := by
  refine wpList_plain hg fun K hK => ?_
  unfold Oper.wp
  simp [execOp, hop, hm, hx, hrun, Result.andThen]
  exact hK _ _ h
theorem wpList_mapUpdate_run {P : Program} {w : World} {ops : Array Oper} {rest : List Oper} {o : Oper} {a : Act} {Q : Exit → Act → World → Prop} (hg : o.guard = none) (m x v : Operand) (t : TypeId) (hop : o.op = Op.mapUpdate t m x v) {mv key val : Value} {w' : World} (hm : a.eval m = mv) (hx : a.eval x = key) (hv : a.eval v = val) (hrun : (Instr.mapUpdate t mv key val).run P w = .ok () w')
    (h : wpList P ops Q rest (a.put o.dst undef) w') : wpList P ops Q (o :: rest) a w := by
  refine wpList_plain hg fun K hK => ?_
  unfold Oper.wp
  simp [execOp, hop, hm, hx, hv, hrun, Result.andThen]
  exact hK _ _ h
theorem wf_u64 {k : Nat} (h : k < 18446744073709551616) : (Lit.int .u64 (k : Nat)).wf = true := by
  simp [Lit.wf, IntKind.min, IntKind.max, IntKind.signed, IntKind.bits]; omega
theorem replicate_row (n : Nat) : Array.replicate n (Value.int .u8 0) = (rowK .u8 (fun _ => 0) n).toArray := by
  rw [← rowK_zero]; simp
theorem rowK_at (k : IntKind) (f : Nat → Nat) (n j : Nat) (v : Value) (h : (rowK k f n)[j]? = some v) : j < n ∧ v = .int k (f j : Nat) := by
  by_cases hj : j < n
  · rw [rowK_get _ _ _ _ hj] at h; cases h; exact ⟨hj, rfl⟩
  · rw [List.getElem?_eq_none (by rw [rowK_length]; omega)] at h; cases h
theorem rowK_one (k : IntKind) (f : Nat → Nat) (n : Nat) : ∀ v ∈ rowK k f n, v.oneCell' = true := by
  intro v hv
  obtain ⟨i, _, rfl⟩ := List.mem_map.1 hv
  rfl
/-- 'copy' into a row that is known whole: how many go over is named, the world behind it too -/
theorem wpList_copy_at {P : Program} {w : World} {ops : Array Oper} {rest : List Oper} {o : Oper} {a : Act} {Q : Exit → Act → World → Prop} (hgd : o.guard = none) (d s : Operand) (dT sT : TypeId)
    (ho : o.op = .call { callee := .builtin .copy, args := #[d, s], argTypes := #[dT, sT] }) (elem : TypeId) (hu : P.underlying dT = some (.slice elem)) (hsz : (P.info? elem).map (·.size) = some 1)
    (g off dLen dCap : Nat) (ad : Addr) (sLen sCap : Nat) (hd : a.eval d = .slice (some ⟨g, off, none⟩) dLen dCap) (hs : a.eval s = .slice (some ad) sLen sCap)
    (cur : Array Value) (t : TypeId) (hg : w.heap[g]? = some (.cells cur t (0, 0))) (cs : List Value) (m : Nat) (hm : cs.length = m) (hn : m = Nat.min sLen dLen)
    (hsrc : ∀ j v, cs[j]? = some v → w.cell? (ad.add j) = some v) (hfit : off + m ≤ cur.size) (h1 : ∀ v ∈ cs, v.oneCell' = true)
    (h : ∀ w', Hid (w' = w.setRow g (cur.toList.take off ++ (cs ++ cur.toList.drop (off + cs.length))).toArray) → wpList P ops Q rest (a.put o.dst (.int .i64 (m : Nat))) w') : wpList P ops Q (o :: rest) a w := by
  subst hm
  exact wpList_copy_own hgd d s dT sT ho elem hu hsz g off dLen dCap ad sLen sCap hd hs cur t hg cs hn hsrc hfit h1 (h _ rfl)
theorem size5 : (Try.prog.info? 5).map (·.size) = some 1 := by kernel_rfl
theorem addr_add (b o j : Nat) : (⟨b, o, none⟩ : Addr).add j = ⟨b, o + j, none⟩ := by unfold Addr.add; split <;> simp_all
theorem row_copyN (N : Nat) (f g : Nat → Nat) (r m : Nat) (hm : r + m ≤ N) :
    (rowK .u8 f N).take r ++ (rowK .u8 g m ++ (rowK .u8 f N).drop (r + m)) = rowK .u8 (fun i => if r ≤ i ∧ i < r + m then g (i - r) else f i) N := by
  apply List.ext_getElem?
  intro i
  simp only [List.getElem?_append, List.getElem?_take, List.getElem?_drop, List.length_take, rowK_length]
  have hmin : min r N = r := by omega
  rw [hmin]
  by_cases h1 : i < r
  · simp only [h1, if_true]
    rw [rowK_get _ _ _ _ (by omega), rowK_get _ _ _ _ (by omega), if_neg (by omega)]
  · simp only [h1, if_false]
    by_cases h2 : i - r < m
    · simp only [h2, if_true]
      rw [rowK_get _ _ _ _ h2, rowK_get _ _ _ _ (by omega), if_pos (by omega)]
    · simp only [h2, if_false]
      rw [show r + m + (i - r - m) = i from by omega]
      by_cases h3 : i < N
      · rw [rowK_get _ _ _ _ h3, rowK_get _ _ _ _ h3, if_neg (by omega)]
      · rw [List.getElem?_eq_none (by rw [rowK_length]; omega), List.getElem?_eq_none (by rw [rowK_length]; omega)]
theorem whole_row {w : World} {base : Nat} {e : TypeId} {g n : Nat} {xs : List Value} (h : w.ownsRow base e 1 (.slice (some ⟨g, 0, none⟩) n n) n xs) : w.heap[g]? = some (.cells xs.toArray e (0, 0)) := by
  rcases h.2 with ⟨h1, _⟩ | ⟨g', cap, cur, hv, _, hg, _, _, hsz, htake⟩
  · cases h1
  · cases hv
    rw [hg, ← htake, List.take_of_length_le (by simp; omega)]
theorem row_owned {w : World} {base : Nat} {g n : Nat} {f : Nat → Nat} (hb : base ≤ g) (hn : n ≤ maxLen) (h : w.heap[g]? = some (.cells (rowK .u8 f n).toArray 5 (0, 0))) : w.ownsRow base 5 1 (.slice (some ⟨g, 0, none⟩) n n) n (rowK .u8 f n) :=
  ⟨by rw [rowK_length]; omega, .inr ⟨g, n, _, rfl, hb, h, Nat.le_refl _, hn, by rw [List.size_toArray, rowK_length]; omega, by simp only; rw [List.take_of_length_le (by rw [rowK_length]; omega)]⟩⟩
theorem reads_row {w : World} {g n N cap : Nat} {t : TypeId} {f : Nat → Nat} (h : w.heap[g]? = some (.cells (rowK .u8 f N).toArray t (0, 0))) (hn : n ≤ N) : Reads .u8 w (.slice (some ⟨g, 0, none⟩) n cap) n f :=
  .inr ⟨g, 0, cap, rfl, fun i hi => by simp only [World.cell?, h]; rw [List.getElem?_toArray, Nat.zero_add, rowK_get _ _ _ _ (by omega)]; rfl⟩
theorem bytes_same (f : Nat → Nat) (n : Nat) (v1 v2 : Value) (hn : n ≤ 1000000) (w : World) (r1 : Reads .u8 w v1 n f) (r2 : Reads .u8 w v2 n f) :
    Calls Try.prog 23 #[v1, v2] w fun e w' => e = .returned (.bool true) ∧ ∃ q, w' = w.drewN q := by
  obtain ⟨a1, c1, rfl⟩ := reads_form r1
  obtain ⟨a2, c2, rfl⟩ := reads_form r2
  by_cases h0 : n = 0
  · subst h0
    go_enter Try.func23, Try.ntmps23
    go_wp2
    go_loopw [5] (fun i wr => i = .int .i64 0 ∧ ∃ q, wr = w.drewN q) (fun _ _ => 0)
    case atStart => exact ⟨rfl, 0, rfl⟩
    case round =>
      obtain ⟨rfl, q, rfl⟩ := hrel
      go_wp2
      go_ret
      exact ⟨rfl, q, rfl⟩
  · obtain ⟨b1, o1, c1', e1, hc1⟩ := reads_some r1 (by omega)
    obtain ⟨b2, o2, c2', e2, hc2⟩ := reads_some r2 (by omega)
    simp only [Value.slice.injEq] at e1 e2
    obtain ⟨rfl, -, rfl⟩ := e1
    obtain ⟨rfl, -, rfl⟩ := e2
    go_enter Try.func23, Try.ntmps23
    go_wp2
    go_loopw [5] (fun i wr => ∃ k : Nat, k ≤ n ∧ i = .int .i64 k ∧ ∃ q, wr = w.drewN q) (fun i _ => n - (intOf i).toNat)
    case atStart => exact ⟨0, by omega, rfl, 0, rfl⟩
    case round =>
      obtain ⟨k, hk, rfl, q, rfl⟩ := hrel
      by_cases hlt : k < n
      · have h1 := hc1 k hlt
        have h2 := hc2 k hlt
        have hkL : (k : Int) < n := by omega
        clear hc1 hc2 r1 r2
        go_wp2
        go_quiet (fail)
        go_wp2
        go_roundw
        case rel => exact ⟨k + 1, by omega, by go_num, _, rfl⟩
        case measure => simp [intOf]; omega
      · clear hc1 hc2 r1 r2
        go_wp2
        go_ret
        exact ⟨rfl, q, rfl⟩
theorem src_zero {w : World} {x : Option Addr} {c : Nat} : Src (Try.prog) 1 22 (.slice x 0 c) 0 [] w := by
  cases x with
  | none => exact Src.ofNil w Try.underlying22 c
  | some a => exact Src.ofSlice w Try.underlying22 a 0 c [] rfl (by simp) (by simp)
theorem rowK_nil (k : IntKind) (f : Nat → Nat) : rowK k f 0 = [] := rfl
theorem cellOf {w : World} {b : Nat} {c : Array Value} {t : TypeId} (h : w.heap[b]? = some (.cells c t (0, 0))) (i : Nat) (v : Value) (hi : c[i]? = some v) : w.cell? ⟨b, i, none⟩ = some v := by
  simp only [World.cell?, h]; exact hi
theorem frozenOf {w : World} {b : Nat} {c : Array Value} {t : TypeId} (h : w.heap[b]? = some (.cells c t (0, 0))) (i : Nat) : w.frozen? ⟨b, i, none⟩ = false := by
  simp only [World.frozen?, h]; simp
def Box (t : TypeId) (w : World) (b : Nat) (c : Array Value) : Prop := w.heap[b]? = some (.cells c t (0, 0))
theorem below_box {w w2 : World} {b : Nat} {o : Obj} (h : w.heap[b]? = some o) (hb : Below w.heap.size w w2) : w2.heap[b]? = some o := (hb.block b (Array.getElem?_eq_some_iff.1 h).1).trans h
section
variable {t : TypeId} {w w' : World} {b : Nat} {c : Array Value}
theorem Box.step (h : Box t w b c) (hb : Below w.heap.size w w') : Box t w' b c := below_box h hb
theorem Box.lt (h : Box t w b c) : b < w.heap.size := (Array.getElem?_eq_some_iff.1 h).1
theorem Box.set (h : Box t w b c) (i : Nat) (v : Value) : Box t (w.setCell ⟨b, i, none⟩ v) b (c.setIfInBounds i v) := heap_setCell_same w b i c t v h
theorem Box.other {k : Nat} (h : Box t w b c) (i : Nat) (v : Value) (hk : b ≠ k) : Box t (w.setCell ⟨k, i, none⟩ v) b c := (heap_setCell_other w ⟨k, i, none⟩ b v hk).trans h
theorem Box.alloc (h : Box t w b c) (o : Obj) : Box t (w.alloc o) b c := h.step ((Below.refl _ _).alloc (Nat.le_refl _) o)
theorem Box.new (t : TypeId) (w : World) (c : Array Value) : Box t (w.alloc (.cells c t)) w.heap.size c := heap_alloc_new w (.cells c t)
theorem Box.cell (h : Box t w b c) (i : Nat) (v : Value) (hi : c[i]? = some v) : w.cell? ⟨b, i, none⟩ = some v := cellOf h i v hi
theorem Box.frozen (h : Box t w b c) (i : Nat) : w.frozen? ⟨b, i, none⟩ = false := frozenOf h i
theorem Box.drew (h : Box t w b c) : Box t w.drew b c := h.step (Below.drew (Below.refl _ _))
end
/-- but for one block all is as it was -/
def Upon (b : Nat) (w w' : World) : Prop := Below 0 w w' ∧ ∀ k, k < w.heap.size → k ≠ b → w'.heap[k]? = w.heap[k]?
theorem Upon.refl (b : Nat) (w : World) : Upon b w w := ⟨Below.refl _ _, fun _ _ _ => rfl⟩
theorem Upon.size {b : Nat} {w w' : World} (h : Upon b w w') : w.heap.size ≤ w'.heap.size := h.1.size
theorem Upon.trans {b : Nat} {w w' w2 : World} (h : Upon b w w') (k : Upon b w' w2) : Upon b w w2 := ⟨h.1.trans k.1, fun i hi hb => (k.2 i (Nat.lt_of_lt_of_le hi h.size) hb).trans (h.2 i hi hb)⟩
theorem Upon.of_below {b : Nat} {w w' : World} (h : Below w.heap.size w w') : Upon b w w' := ⟨h.mono (Nat.zero_le _), fun k hk _ => h.block k hk⟩
theorem Upon.set {b : Nat} {w w' : World} (h : Upon b w w') (i : Nat) (v : Value) : Upon b w (w'.setCell ⟨b, i, none⟩ v) := ⟨h.1.setCell (Nat.zero_le _) v, fun k hk hb => (Below.heap_setCell _ _ _ _ hb).trans (h.2 k hk hb)⟩
theorem Upon.below {b B : Nat} {w w' : World} (h : Upon b w w') (h1 : B ≤ b) (h2 : B ≤ w.heap.size) : Below B w w' := ⟨h.1.os, h.1.tape, h.1.output, h.1.size, fun k hk => h.2 k (by omega) (by omega)⟩
theorem Upon.box {t : TypeId} {b k : Nat} {w w' : World} {c : Array Value} (h : Upon b w w') (hx : Box t w k c) (hk : k ≠ b) : Box t w' k c := (h.2 k hx.lt hk).trans hx
theorem Upon.cell {b : Nat} {w w' : World} (h : Upon b w w') {p : Addr} {v : Value} (hp : w.cell? p = some v) (hk : p.block ≠ b) : w'.cell? p = some v := (World.cell?_of_block (w := w) (h.2 p.block (block_lt_of_cell hp) hk)).trans hp
end Go.Proofs.Ytlkhjekakbckmaa.D

/- Sectors as values; a map of sectors: what is looked up, kept and left out. -/
namespace Go.Proofs.Ytlkhjekakbckmaa.D
open Go.RowKit Go.Maps
set_option linter.unusedVariables false
set_option linter.unusedSimpArgs false
set_option maxRecDepth 100000
/-- a sector's cells -/
def secRow (f : Nat → Nat) : Array Value := (rowK .u8 f 512).toArray
theorem secRow_congr (f g : Nat → Nat) (h : ∀ i, i < 512 → f i = g i) : secRow f = secRow g := by unfold secRow; rw [rowK_congr .u8 f g 512 h]
theorem secRow_get (f : Nat → Nat) (i : Nat) (h : i < 512) : (secRow f)[i]? = some (.int .u8 (f i : Nat)) := by unfold secRow; rw [List.getElem?_toArray]; exact rowK_get _ _ _ _ h
theorem secRow_size (f : Nat → Nat) : (secRow f).size = 512 := by unfold secRow; rw [List.size_toArray, rowK_length]
theorem secRow_one (f : Nat → Nat) : (secRow f).all (·.oneCell') = true := by
  rw [Array.all_eq_true_iff_forall_mem]
  intro v hv
  exact rowK_one _ _ _ v (by simpa [secRow] using hv)
/-- a value's datum -/
def valD (v : Value) : DataW Unit := match v with
  | .int k n => .lit (.int k n)
  | _ => .nil
def secD (f : Nat → Nat) : DataW Unit := .agg ((rowK .u8 f 512).map valD)
def secElem (v : Value) : Option (DataW Unit × List MemPlace) := match v with
  | .agg cs => some (.agg (cs.toList.map valD), [])
  | _ => none
theorem secElem_mk (f : Nat → Nat) : secElem (.agg (secRow f)) = some (secD f, []) := by simp [secElem, secRow, secD]
theorem valD_int {v : Value} {k : IntKind} {n : Int} (h : valD v = .lit (.int k n)) : v = .int k n := by
  unfold valD at h
  split at h
  · simp at h; obtain ⟨rfl, rfl⟩ := h; rfl
  · cases h
theorem row_inv (l : List Value) (f : Nat → Nat) (n : Nat) (h : l.map valD = (rowK .u8 f n).map valD) : l = rowK .u8 f n := by
  have hl : l.length = n := by have := congrArg List.length h; simpa [rowK_length] using this
  apply List.ext_getElem?
  intro i
  by_cases hi : i < n
  · have h1 := congrArg (fun x => x[i]?) h
    simp only [List.getElem?_map, rowK_get _ _ _ _ hi, Option.map_some] at h1
    cases hq : l[i]? with
    | none => rw [hq] at h1; simp at h1
    | some v =>
      rw [hq] at h1
      simp only [Option.map_some, Option.some.injEq] at h1
      rw [rowK_get _ _ _ _ hi, valD_int h1]
  · rw [List.getElem?_eq_none (by omega), List.getElem?_eq_none (by rw [rowK_length]; omega)]
theorem secElem_inv {v : Value} {z : DataW Unit × List MemPlace} {f : Nat → Nat} (h : secElem v = some z) (hz : z.1 = secD f) : v = .agg (secRow f) := by
  unfold secElem at h
  split at h
  · cases h
    simp only [secD, DataW.agg.injEq] at hz
    rename_i cs
    have := row_inv _ _ _ hz
    rw [show cs = (rowK .u8 f 512).toArray from by rw [← this]]
    rfl
  · cases h
theorem secD_eq {f g : Nat → Nat} (h : secD f = secD g) : ∀ i, i < 512 → f i = g i := fun i hi => by
  simp only [secD, DataW.agg.injEq] at h
  have h1 := row_inv _ _ _ h
  have h2 := congrArg (fun x => x[i]?) h1
  simp only [rowK_get _ _ _ _ hi] at h2
  simp at h2
  omega
theorem secD_congr {f g : Nat → Nat} (h : ∀ i, i < 512 → f i = g i) : secD f = secD g := by unfold secD; rw [rowK_congr .u8 f g 512 h]
/-- are two sectors alike? -/
def secEq (f g : Nat → Nat) : Bool := (List.range 512).all fun i => f i == g i
theorem secEq_iff (f g : Nat → Nat) : secEq f g = true ↔ ∀ i, i < 512 → f i = g i := by simp [secEq, List.all_eq_true]
theorem secEq_no {f g : Nat → Nat} (h : secEq f g = false) : ¬ ∀ i, i < 512 → f i = g i := fun e => by rw [(secEq_iff f g).2 e] at h; cases h
/-- sector k of a row of bytes -/
def secF (M : Nat → Nat) (k i : Nat) : Nat := M (k * 512 + i)
/-- is it all 0? -/
def zeroB (M : Nat → Nat) (k : Nat) : Bool := secEq (secF M k) (fun _ => 0)
theorem zeroB_congr {M M' : Nat → Nat} {k : Nat} (h : ∀ i, i < 512 → M (k * 512 + i) = M' (k * 512 + i)) : zeroB M k = zeroB M' k := by
  rw [Bool.eq_iff_iff]
  unfold zeroB
  rw [secEq_iff, secEq_iff]
  unfold secF
  exact ⟨fun e i hi => by rw [← h i hi]; exact e i hi, fun e i hi => by rw [h i hi]; exact e i hi⟩
/-- the map's datum holds just the sectors that are not all 0 -/
def Sect (D : DataW Unit) (M : Nat → Nat) : Prop :=
  ∀ k : Nat, (zeroB M k = true ∧ ∀ zd, D.atKey (.int .u64 (k : Nat)) zd = zd) ∨ (zeroB M k = false ∧ ∀ zd, D.atKey (.int .u64 (k : Nat)) zd = secD (secF M k))
theorem keyed26 : Keyed Try.prog 23 := int_keyed Try.underlying23
theorem key26 {k : Nat} (h : k < 18446744073709551616) : keyOf Try.prog 23 (.int .u64 (k : Nat)) = some (.int .u64 (k : Nat)) := keyOf_int_mk Try.underlying23 (wf_u64 h)
theorem lit_ne {j k : Nat} (h : j ≠ k) : Lit.int .u64 (j : Nat) ≠ Lit.int .u64 (k : Nat) := fun e => h (by simp at e; omega)
theorem zinfo63 : (Try.prog.info? 136).map (fun i => (i.zero, i.size)) = some (some (.agg (secRow fun _ => 0)), 512) := by kernel_rfl
theorem zero63 (w : World) : (zeroValue 136).run Try.prog w = .ok (.agg (secRow fun _ => 0)) w := by
  have h := zinfo63
  cases hq : Try.prog.info? 136 with
  | none => simp [hq] at h
  | some i =>
    have hz : i.zero = some (.agg (secRow fun _ => 0)) := by simp [hq] at h; exact h.1
    simp [zeroValue, typeInfo, hq, hz]
theorem info63 (f : Nat → Nat) : (Try.prog.info? 136).map (·.size) = some (secRow f).size := by rw [secRow_size]; kernel_rfl
theorem secRow_zero {M : Nat → Nat} {k : Nat} (h : zeroB M k = true) : secRow (secF M k) = secRow fun _ => 0 := secRow_congr _ _ ((secEq_iff _ _).1 h)
theorem secD_nil (f : Nat → Nat) : secD f ≠ .nil := by intro h; cases h
theorem sect_look {w : World} {bm n : Nat} {D : DataW Unit} {M : Nat → Nat} (h : w.ownsMap Try.prog 23 secElem bm n D) (hp : Sect D M) (k : Nat) (hk : k < 18446744073709551616) :
    (Instr.lookup 131 (.map (some bm)) (.int .u64 (k : Nat)) false).run Try.prog w = .ok (.agg (secRow (secF M k))) w := by
  obtain ⟨es, clock, hb, F, _, rfl⟩ := h
  rcases Maps.fit_look false keyed26 Try.underlying131 (zero63 w) hb F (key26 hk) with ⟨hrun, _, hat⟩ | ⟨e0, y, _, _, hrun, hRv, hat, _⟩
  · rcases hp k with ⟨e, _⟩ | ⟨_, h2⟩
    · rw [hrun, secRow_zero e]; rfl
    · exact absurd ((hat .nil).symm.trans (h2 .nil)).symm (secD_nil _)
  · rcases hp k with ⟨e, h2⟩ | ⟨_, h2⟩
    · have h3 : y.1 = .nil := (hat .nil).symm.trans (h2 .nil)
      have h4 : y.1 = secD fun _ => 0 := (hat (secD fun _ => 0)).symm.trans (h2 _)
      exact absurd (h4.symm.trans h3) (secD_nil _)
    · rw [hrun, secElem_inv hRv ((hat .nil).symm.trans (h2 .nil))]; rfl
theorem sect_look_ok {w : World} {bm n : Nat} {D : DataW Unit} {M : Nat → Nat} (h : w.ownsMap Try.prog 23 secElem bm n D) (hp : Sect D M) (k : Nat) (hk : k < 18446744073709551616) :
    (Instr.lookup 131 (.map (some bm)) (.int .u64 (k : Nat)) true).run Try.prog w = .ok (.tuple #[.agg (secRow (secF M k)), .bool (!zeroB M k)]) w := by
  obtain ⟨es, clock, hb, F, _, rfl⟩ := h
  rcases Maps.fit_look true keyed26 Try.underlying131 (zero63 w) hb F (key26 hk) with ⟨hrun, _, hat⟩ | ⟨e0, y, _, _, hrun, hRv, hat, _⟩
  · rcases hp k with ⟨e, _⟩ | ⟨_, h2⟩
    · rw [hrun, secRow_zero e, e]; rfl
    · exact absurd ((hat .nil).symm.trans (h2 .nil)).symm (secD_nil _)
  · rcases hp k with ⟨e, h2⟩ | ⟨e, h2⟩
    · have h3 : y.1 = .nil := (hat .nil).symm.trans (h2 .nil)
      have h4 : y.1 = secD fun _ => 0 := (hat (secD fun _ => 0)).symm.trans (h2 _)
      exact absurd (h4.symm.trans h3) (secD_nil _)
    · rw [hrun, secElem_inv hRv ((hat .nil).symm.trans (h2 .nil)), e]; rfl
/-- one sector is another one -/
def setS (M : Nat → Nat) (k : Nat) (f : Nat → Nat) (a : Nat) : Nat := if k * 512 ≤ a ∧ a < k * 512 + 512 then f (a - k * 512) else M a
theorem setS_same (M : Nat → Nat) (k : Nat) (f : Nat → Nat) (i : Nat) (hi : i < 512) : secF (setS M k f) k i = f i := by
  unfold secF setS; rw [if_pos (by omega)]; congr 1; omega
theorem setS_other (M : Nat → Nat) (k j : Nat) (f : Nat → Nat) (i : Nat) (hi : i < 512) (h : j ≠ k) : secF (setS M k f) j i = secF M j i := by
  unfold secF setS; rw [if_neg (by omega)]
theorem zeroB_same (M : Nat → Nat) (k : Nat) (f : Nat → Nat) : zeroB (setS M k f) k = secEq f (fun _ => 0) := by
  rw [Bool.eq_iff_iff]; unfold zeroB; rw [secEq_iff, secEq_iff]
  exact ⟨fun e i hi => by rw [← setS_same M k f i hi]; exact e i hi, fun e i hi => by rw [setS_same M k f i hi]; exact e i hi⟩
theorem zeroB_other (M : Nat → Nat) (k j : Nat) (f : Nat → Nat) (h : j ≠ k) : zeroB (setS M k f) j = zeroB M j := by
  rw [Bool.eq_iff_iff]; unfold zeroB; rw [secEq_iff, secEq_iff]
  exact ⟨fun e i hi => by rw [← setS_other M k j f i hi h]; exact e i hi, fun e i hi => by rw [setS_other M k j f i hi h]; exact e i hi⟩
theorem sect_put {w : World} {bm n : Nat} {D : DataW Unit} {M : Nat → Nat} (h : w.ownsMap Try.prog 23 secElem bm n D) (hp : Sect D M) (k : Nat) (f : Nat → Nat) (hk : k < 18446744073709551616) (hn : n < maxLen) (h0 : secEq f (fun _ => 0) = false) :
    ∃ w' D', (Instr.mapUpdate 131 (.map (some bm)) (.int .u64 (k : Nat)) (.agg (secRow f))).run Try.prog w = .ok () w' ∧ w'.ownsMap Try.prog 23 secElem bm (n + 1) D' ∧ Sect D' (setS M k f) ∧ w.grownBy w' (some bm) := by
  obtain ⟨w', hrun, r1, r2⟩ := h.update keyed26 Try.underlying131 hn (key26 hk) (val := .agg (secRow f)) (secElem_mk f)
  refine ⟨w', _, hrun, r1, fun j => ?_, r2⟩
  by_cases e : j = k
  · subst e
    refine .inr ⟨by rw [zeroB_same]; exact h0, fun zd => ?_⟩
    rw [atKey_put_same h.isMap (keyed26.key (key26 hk))]
    exact secD_congr fun i hi => (setS_same M j f i hi).symm
  · rcases hp j with ⟨e1, h2⟩ | ⟨e1, h2⟩
    · exact .inl ⟨by rw [zeroB_other M k j f e]; exact e1, fun zd => by rw [atKey_put_other (lit_ne e)]; exact h2 zd⟩
    · exact .inr ⟨by rw [zeroB_other M k j f e]; exact e1, fun zd => by rw [atKey_put_other (lit_ne e), h2 zd]; exact secD_congr fun i hi => (setS_other M k j f i hi e).symm⟩
theorem sect_del {w : World} {bm n : Nat} {D : DataW Unit} {M : Nat → Nat} (h : w.ownsMap Try.prog 23 secElem bm n D) (hp : Sect D M) (k : Nat) (f : Nat → Nat) (hk : k < 18446744073709551616) (h0 : secEq f (fun _ => 0) = true) (ty : TypeId) :
    ∃ w' D', (Builtin.delete_ #[131, 23] ty #[.map (some bm), .int .u64 (k : Nat)]).run Try.prog w = .ok (.tuple #[]) w' ∧ w'.ownsMap Try.prog 23 secElem bm n D' ∧ Sect D' (setS M k f) ∧ w.grownBy w' (some bm) := by
  obtain ⟨w', hrun, r1, r2⟩ := h.drop keyed26 Try.underlying131 (key26 hk) ty
  refine ⟨w', _, hrun, r1, fun j => ?_, r2.grown⟩
  by_cases e : j = k
  · subst e
    exact .inl ⟨by rw [zeroB_same]; exact h0, fun zd => atKey_del_same zd⟩
  · rcases hp j with ⟨e1, h2⟩ | ⟨e1, h2⟩
    · exact .inl ⟨by rw [zeroB_other M k j f e]; exact e1, fun zd => by rw [atKey_del_other (lit_ne e)]; exact h2 zd⟩
    · exact .inr ⟨by rw [zeroB_other M k j f e]; exact e1, fun zd => by rw [atKey_del_other (lit_ne e), h2 zd]; exact secD_congr fun i hi => (setS_other M k j f i hi e).symm⟩
theorem sect_has {D : DataW Unit} {M : Nat → Nat} (h : Sect D M) (k : Nat) : Maps.has D (.int .u64 (k : Nat)) = !zeroB M k := by
  rcases h k with ⟨e, h2⟩ | ⟨e, h2⟩
  · rw [e, Maps.has_false_of_atKey h2]; rfl
  · rw [e, Maps.has_true_of_atKey h2]; rfl
theorem sect_made : Sect (.map []) (fun _ => 0) := fun k => .inl ⟨(secEq_iff _ _).2 fun i _ => rfl, fun zd => rfl⟩
/-- a list without doubles within another one is no longer -/
theorem nodup_len : ∀ (l₁ l₂ : List Nat), l₁.Nodup → (∀ x ∈ l₁, x ∈ l₂) → l₁.length ≤ l₂.length
  | [], l₂, _, _ => Nat.zero_le _
  | x :: l₁, l₂, hn, hs => by
    have hx : x ∈ l₂ := hs x (by simp)
    have hn2 := List.nodup_cons.1 hn
    have h1 := nodup_len l₁ (l₂.erase x) hn2.2 (fun y hy => (List.mem_erase_of_ne (fun (e : y = x) => hn2.1 (by rw [← e]; exact hy))).2 (hs y (by simp [hy])))
    rw [List.length_erase_of_mem hx] at h1
    have h2 : 0 < l₂.length := List.length_pos_of_mem hx
    simp only [List.length_cons]
    omega
def litN (l : Lit) : Nat := match l with
  | .int _ n => n.toNat
  | _ => 0
def keysN (D : DataW Unit) : List Nat := match D with
  | .map es => es.map fun p => litN p.1
  | _ => []
theorem keys_nodup : ∀ es : List (Lit × DataW Unit), es.Pairwise (fun p q => p.1 ≠ q.1) → (∀ p ∈ es, ∃ x : Nat, p.1 = .int .u64 (x : Nat)) → (es.map fun p => litN p.1).Nodup
  | [], _, _ => by simp
  | p :: es, hp, hf => by
    have hp2 := List.pairwise_cons.1 hp
    have ih := keys_nodup es hp2.2 (fun q hq => hf q (by simp [hq]))
    simp only [List.map_cons, List.nodup_cons]
    refine ⟨fun hm => ?_, ih⟩
    obtain ⟨q, hq, e⟩ := List.mem_map.1 hm
    obtain ⟨x, hx⟩ := hf p (by simp)
    obtain ⟨y, hy⟩ := hf q (by simp [hq])
    rw [hx, hy] at e
    simp [litN] at e
    exact hp2.1 q hq (by rw [hx, hy, e])
theorem owns_lits {w : World} {bm n : Nat} {D : DataW Unit} (h : w.ownsMap Try.prog 23 secElem bm n D) : ∃ es, D = .map es ∧ es.Pairwise (fun p q => p.1 ≠ q.1) ∧ (∀ p ∈ es, WideAt.IsKeyLit p.1) ∧ ∀ p ∈ es, ∃ x : Nat, p.1 = .int .u64 (x : Nat) ∧ x < 18446744073709551616 := by
  obtain ⟨es, rfl, h1, h2⟩ := h.entries keyed26
  refine ⟨es, rfl, h1, h2, fun p hp => ?_⟩
  obtain ⟨es', clock, _, F, _, hD⟩ := h
  simp only [DataW.map.injEq] at hD
  rw [hD, mem_sorted] at hp
  obtain ⟨x, hx, rfl⟩ := List.mem_map.1 hp
  obtain ⟨y, hy⟩ := F.reads x hx
  rw [WideElems.rg_of hy]
  obtain ⟨z, _, e, hw⟩ := Maps.keyOf_int_inv Try.underlying23 (WideElems.rd_key hy)
  have := bounds_u64 hw
  exact ⟨z.toNat, by rw [e]; congr 1; omega, by omega⟩
theorem owns_keys {w : World} {bm n : Nat} {D : DataW Unit} (h : w.ownsMap Try.prog 23 secElem bm n D) : (keysN D).Nodup ∧ (∀ k : Nat, k ∈ keysN D ↔ Maps.has D (.int .u64 (k : Nat)) = true) ∧ Maps.size D = (keysN D).length := by
  obtain ⟨es, rfl, h1, h2, h3⟩ := owns_lits h
  refine ⟨keys_nodup es h1 (fun p hp => by obtain ⟨x, hx, _⟩ := h3 p hp; exact ⟨x, hx⟩), fun k => ?_, by simp [keysN, Maps.size]⟩
  rw [Maps.has_eq, List.any_eq_true]
  constructor
  · intro hm
    obtain ⟨p, hp, e⟩ := List.mem_map.1 hm
    obtain ⟨x, hx, _⟩ := h3 p hp
    rw [hx] at e
    simp [litN] at e
    subst e
    exact ⟨p, hp, by rw [← hx]; exact WideAt.sameKey_self (h2 p hp)⟩
  · rintro ⟨p, hp, e⟩
    have := WideAt.sameKey_eq e
    exact List.mem_map.2 ⟨p, hp, by rw [this]; simp [litN]⟩
/-- so many sectors at most, if all others are 0 -/
theorem owns_tight {w : World} {bm n c : Nat} {D : DataW Unit} {M : Nat → Nat} (h : w.ownsMap Try.prog 23 secElem bm n D) (hp : Sect D M) (hM : ∀ a, c * 512 ≤ a → M a = 0) : w.ownsMap Try.prog 23 secElem bm c D := by
  obtain ⟨h1, h2, h3⟩ := owns_keys h
  have hlen := nodup_len (keysN D) (List.range c) h1 (fun k hk => by
    have e := (h2 k).1 hk
    rw [sect_has hp k] at e
    by_cases hc : k < c
    · simpa using hc
    · have : zeroB M k = true := (secEq_iff _ _).2 fun i hi => hM _ (by omega)
      rw [this] at e; cases e)
  rw [List.length_range, ← h3] at hlen
  obtain ⟨es, clock, e1, e2, e3, e4⟩ := h
  refine ⟨es, clock, e1, e2, ?_, e4⟩
  rw [e4] at hlen
  simpa [Maps.size, length_sorted] using hlen
/-- maps of as many sectors, the one's among the other's, hold the same -/
theorem sect_same {w : World} {b1 b2 n1 n2 : Nat} {D1 D2 : DataW Unit} {M1 M2 : Nat → Nat} (h1 : w.ownsMap Try.prog 23 secElem b1 n1 D1) (h2 : w.ownsMap Try.prog 23 secElem b2 n2 D2) (p1 : Sect D1 M1) (p2 : Sect D2 M2) (hsz : Maps.size D1 = Maps.size D2)
    (hall : ∀ k, zeroB M1 k = false → ∀ i, i < 512 → secF M1 k i = secF M2 k i) : ∀ a, M1 a = M2 a := by
  obtain ⟨a1, a2, a3⟩ := owns_keys h1
  obtain ⟨c1, c2, c3⟩ := owns_keys h2
  have hsub : ∀ k ∈ keysN D1, k ∈ keysN D2 := fun k hk => by
    have e := (a2 k).1 hk
    rw [sect_has p1 k] at e
    have e1 : zeroB M1 k = false := by simpa using e
    refine (c2 k).2 ?_
    rw [sect_has p2 k]
    have : zeroB M2 k = zeroB M1 k := zeroB_congr fun i hi => (hall k e1 i hi).symm
    rw [this, e1]; rfl
  have hback : ∀ k, zeroB M1 k = true → zeroB M2 k = true := fun k hk => by
    cases hz : zeroB M2 k with
    | true => rfl
    | false =>
      have hin : k ∈ keysN D2 := (c2 k).2 (by rw [sect_has p2 k, hz]; rfl)
      have hout : k ∉ keysN D1 := fun hm => by
        have e := (a2 k).1 hm
        rw [sect_has p1 k, hk] at e; cases e
      have := nodup_len (k :: keysN D1) (keysN D2) (List.nodup_cons.2 ⟨hout, a1⟩) (fun x hx => by
        rcases List.mem_cons.1 hx with rfl | hx
        · exact hin
        · exact hsub x hx)
      simp only [List.length_cons] at this
      omega
  intro a
  have ea : a / 512 * 512 + a % 512 = a := by omega
  cases hz : zeroB M1 (a / 512) with
  | false =>
    have := hall _ hz (a % 512) (by omega)
    unfold secF at this
    rwa [ea] at this
  | true =>
    have e1 := (secEq_iff _ _).1 hz (a % 512) (by omega)
    have e2 := (secEq_iff _ _).1 (hback _ hz) (a % 512) (by omega)
    unfold secF at e1 e2
    rw [ea] at e1 e2
    rw [e1, e2]
end Go.Proofs.Ytlkhjekakbckmaa.D

/- A disk as it lies in the world, the document's one beside it; laws at operations on whole sectors. -/
namespace Go.Proofs.Ytlkhjekakbckmaa.D
open Go.RowKit Go.Maps
set_option linter.unusedVariables false
set_option linter.unusedSimpArgs false
set_option maxRecDepth 100000
/-- a disk, plainly: how many sectors, whether locked, requests, flushes, the request that fails, all bytes in a row -/
structure Dk where
  count : Nat
  locked : Bool
  reqs : Nat
  fl : Nat
  fail : Nat
  M : Nat → Nat
structure Dk.Ok (K : Dk) : Prop where
  cnt : K.count ≤ 65536
  req : K.reqs < 18446744073709551616
  flu : K.fl < 18446744073709551616
  fai : K.fail < 18446744073709551616
  le : ∀ a, K.M a ≤ 255
  out : ∀ a, K.count * 512 ≤ a → K.M a = 0
def inc (n : Nat) : Nat := (n + 1) % 18446744073709551616
theorem inc_lt (n : Nat) : inc n < 18446744073709551616 := Nat.mod_lt _ (by omega)
theorem inc_num (n : Nat) : IntKind.u64.wrap ((n : Int) + 1) = ((inc n : Nat) : Int) := by rw [wrap_u64]; unfold inc; omega
/-- a request is counted, and the one that fails is nearer -/
def askK (K : Dk) : Dk := { K with reqs := inc K.reqs, fail := K.fail - 1 }
def askE (K : Dk) : Nat := if K.fail = 1 then 133 else 0
theorem askK_ok {K : Dk} (h : K.Ok) : (askK K).Ok := ⟨h.cnt, inc_lt _, h.flu, by have := h.fai; show K.fail - 1 < _; omega, h.le, h.out⟩
/-- the error of a piece -/
def pieceE (c x n : Nat) : Nat := if n % 512 ≠ 0 then 20 else if x ≤ c ∧ n / 512 ≤ c - x then 0 else 131
def readE (K : Dk) (x n : Nat) : Nat := if K.fail = 1 then 133 else pieceE K.count x n
def writeE (K : Dk) (x n : Nat) : Nat := if K.fail = 1 then 133 else if K.locked = true then 132 else pieceE K.count x n
def flushK (K : Dk) : Dk := if K.fail = 1 then askK K else { askK K with fl := inc K.fl }
theorem flushK_ok {K : Dk} (h : K.Ok) : (flushK K).Ok := by
  unfold flushK
  split
  · exact askK_ok h
  · have := askK_ok h
    exact ⟨this.cnt, this.req, inc_lt _, this.fai, this.le, this.out⟩
/-- bytes laid from a place on, 0 behind them up to a length; nothing beyond the end -/
def layN (M : Nat → Nat) (N x n L : Nat) (f : Nat → Nat) (a : Nat) : Nat := if a < N then (if x ≤ a ∧ a < x + n then (if a - x < L then f (a - x) else 0) else M a) else 0
theorem layN_le {M : Nat → Nat} (N x n L : Nat) (f : Nat → Nat) (h : ∀ a, M a ≤ 255) (hf : ∀ i, f i ≤ 255) (a : Nat) : layN M N x n L f a ≤ 255 := by
  unfold layN
  have := h a; have := hf (a - x)
  split
  · split
    · split <;> omega
    · omega
  · omega
theorem layN_out (M : Nat → Nat) (N x n L : Nat) (f : Nat → Nat) (a : Nat) (h : N ≤ a) : layN M N x n L f a = 0 := by unfold layN; rw [if_neg (by omega)]
/-- as many whole sectors as bytes need -/
def up (L : Nat) : Nat := (L + 511) / 512 * 512
def putK (K : Dk) (x L : Nat) (f : Nat → Nat) : Dk := { K with M := layN K.M (K.count * 512) (x * 512) (up L) L f }
theorem putK_ok {K : Dk} (h : K.Ok) (x L : Nat) (f : Nat → Nat) (hf : ∀ i, f i ≤ 255) : (putK K x L f).Ok := ⟨h.cnt, h.req, h.flu, h.fai, layN_le _ _ _ _ _ h.le hf, fun a ha => layN_out _ _ _ _ _ _ _ ha⟩
def writeK (K : Dk) (x L : Nat) (f : Nat → Nat) : Dk := if writeE K x L = 0 then putK (askK K) x L f else askK K
theorem writeK_ok {K : Dk} (h : K.Ok) (x L : Nat) (f : Nat → Nat) (hf : ∀ i, f i ≤ 255) : (writeK K x L f).Ok := by
  unfold writeK
  split
  · exact putK_ok (askK_ok h) x L f hf
  · exact askK_ok h
def fillK (K : Dk) (L : Nat) (f : Nat → Nat) : Dk := putK K 0 L f
def failK (K : Dk) (n : Nat) : Dk := { K with fail := n }
theorem failK_ok {K : Dk} (h : K.Ok) (n : Nat) (hn : n < 18446744073709551616) : (failK K n).Ok := ⟨h.cnt, h.req, h.flu, hn, h.le, h.out⟩
/-- but for two blocks all is as it was -/
def Two (a b : Nat) (w w' : World) : Prop := Below 0 w w' ∧ ∀ k, k < w.heap.size → k ≠ a → k ≠ b → w'.heap[k]? = w.heap[k]?
section
variable {a b : Nat} {w w' w2 : World}
theorem Two.refl (a b : Nat) (w : World) : Two a b w w := ⟨Below.refl _ _, fun _ _ _ _ => rfl⟩
theorem Two.size (h : Two a b w w') : w.heap.size ≤ w'.heap.size := h.1.size
theorem Two.trans (h : Two a b w w') (k : Two a b w' w2) : Two a b w w2 := ⟨h.1.trans k.1, fun i hi ha hb => (k.2 i (Nat.lt_of_lt_of_le hi h.size) ha hb).trans (h.2 i hi ha hb)⟩
theorem Two.of_below (h : Below w.heap.size w w') : Two a b w w' := ⟨h.mono (Nat.zero_le _), fun k hk _ _ => h.block k hk⟩
theorem Two.of_upon (h : Upon a w w') : Two a b w w' := ⟨h.1, fun k hk ha _ => h.2 k hk ha⟩
theorem Two.of_grown (h : w.grownBy w' (some b)) : Two a b w w' := ⟨⟨h.os, h.tape, h.output, h.size, fun k hk => absurd hk (Nat.not_lt_zero _)⟩, fun k hk _ hb => h.block k hk (fun e => hb (Option.some.inj e))⟩
theorem Two.below (h : Two a b w w') {B : Nat} (h1 : B ≤ a) (h2 : B ≤ b) (h3 : B ≤ w.heap.size) : Below B w w' := ⟨h.1.os, h.1.tape, h.1.output, h.1.size, fun k hk => h.2 k (by omega) (by omega) (by omega)⟩
theorem Two.box {t : TypeId} {k : Nat} {c : Array Value} (h : Two a b w w') (hx : Box t w k c) (ha : k ≠ a) (hb : k ≠ b) : Box t w' k c := (h.2 k hx.lt ha hb).trans hx
theorem Two.heap {k : Nat} {o : Obj} (h : Two a b w w') (hx : w.heap[k]? = some o) (ha : k ≠ a) (hb : k ≠ b) : w'.heap[k]? = some o := (h.2 k (Array.getElem?_eq_some_iff.1 hx).1 ha hb).trans hx
theorem Two.cell {p : Addr} {v : Value} (h : Two a b w w') (hp : w.cell? p = some v) (ha : p.block ≠ a) (hb : p.block ≠ b) : w'.cell? p = some v := (World.cell?_of_block (w := w) (h.2 p.block (block_lt_of_cell hp) ha hb)).trans hp
end
def diskC (K : Dk) (bm : Nat) : Array Value := #[.int .u64 (K.count : Nat), .bool K.locked, .map (some bm), .int .u64 (K.reqs : Nat), .int .u64 (K.fl : Nat), .int .u64 (K.fail : Nat)]
def MapAt (w : World) (bm c : Nat) (M : Nat → Nat) : Prop := ∃ D, w.ownsMap Try.prog 23 secElem bm c D ∧ Sect D M
/-- A DISK: block db its cells, block bm its map -/
def DiskAt (w : World) (db bm : Nat) (K : Dk) : Prop := Box 133 w db (diskC K bm) ∧ MapAt w bm K.count K.M ∧ K.Ok
section
variable {w w' : World} {db bm c : Nat} {K K2 : Dk} {M : Nat → Nat}
theorem MapAt.kept (h : MapAt w bm c M) (e : w'.heap[bm]? = w.heap[bm]?) : MapAt w' bm c M := by
  obtain ⟨D, ⟨es, clock, e1, e2⟩, hp⟩ := h
  exact ⟨D, ⟨es, clock, e.trans e1, e2⟩, hp⟩
theorem MapAt.lt (h : MapAt w bm c M) : bm < w.heap.size := by obtain ⟨D, h, _⟩ := h; exact h.lt
theorem DiskAt.lt (h : DiskAt w db bm K) : db < w.heap.size ∧ bm < w.heap.size := ⟨h.1.lt, h.2.1.lt⟩
theorem DiskAt.ne (h : DiskAt w db bm K) : db ≠ bm := by
  rintro rfl
  obtain ⟨h1, ⟨D, ⟨es, clock, e1, _⟩, _⟩, _⟩ := h
  unfold Box at h1
  rw [e1] at h1
  simp at h1
theorem DiskAt.step (h : DiskAt w db bm K) (hb : Below w.heap.size w w') : DiskAt w' db bm K := ⟨h.1.step hb, h.2.1.kept (hb.block _ h.2.1.lt), h.2.2⟩
theorem DiskAt.two {a b : Nat} (h : DiskAt w db bm K) (hu : Two a b w w') (h1 : db ≠ a) (h2 : db ≠ b) (h3 : bm ≠ a) (h4 : bm ≠ b) : DiskAt w' db bm K := ⟨hu.box h.1 h1 h2, h.2.1.kept (hu.2 _ h.2.1.lt h3 h4), h.2.2⟩
theorem DiskAt.upon {a : Nat} (h : DiskAt w db bm K) (hu : Upon a w w') (h1 : db ≠ a) (h3 : bm ≠ a) : DiskAt w' db bm K := ⟨hu.box h.1 h1, h.2.1.kept (hu.2 _ h.2.1.lt h3), h.2.2⟩
/-- the disk's own cells are others, its sectors are as they were -/
theorem DiskAt.cells (h : DiskAt w db bm K) (hc : K2.count = K.count) (hM : K2.M = K.M) (hk : K2.Ok) (hx : Box 133 w' db (diskC K2 bm)) (hu : Upon db w w') : DiskAt w' db bm K2 := by
  refine ⟨hx, ?_, hk⟩
  rw [hc, hM]
  exact h.2.1.kept (hu.2 _ h.2.1.lt (Ne.symm h.ne))
end
/-- the document's disk as a value: its bytes lie in block g -/
def docC (K : Dk) (g N : Nat) : Array Value := #[.slice (some ⟨g, 0, none⟩) N N, .bool K.locked, .int .u64 (K.fail : Nat), .int .u64 (K.reqs : Nat), .int .u64 (K.fl : Nat)]
def DocAt (w : World) (g N : Nat) (K : Dk) : Prop := w.heap[g]? = some (.cells (rowK .u8 K.M N).toArray 5 (0, 0)) ∧ N = K.count * 512 ∧ K.Ok
theorem DocAt.lt {w : World} {g N : Nat} {K : Dk} (h : DocAt w g N K) : g < w.heap.size := (Array.getElem?_eq_some_iff.1 h.1).1
theorem DocAt.step {w w' : World} {g N : Nat} {K : Dk} (h : DocAt w g N K) (hb : Below w.heap.size w w') : DocAt w' g N K := ⟨below_box h.1 hb, h.2⟩
theorem DocAt.two {w w' : World} {g N a b : Nat} {K : Dk} (h : DocAt w g N K) (hu : Two a b w w') (h1 : g ≠ a) (h2 : g ≠ b) : DocAt w' g N K := ⟨hu.heap h.1 h1 h2, h.2⟩
theorem DocAt.upon {w w' : World} {g N a : Nat} {K : Dk} (h : DocAt w g N K) (hu : Upon a w w') (h1 : g ≠ a) : DocAt w' g N K := ⟨(hu.2 _ h.lt h1).trans h.1, h.2⟩
theorem DocAt.cell {w : World} {g N : Nat} {K : Dk} (h : DocAt w g N K) (i : Nat) (hi : i < N) : w.cell? ⟨g, i, none⟩ = some (.int .u8 (K.M i : Nat)) := cellOf h.1 i _ (by rw [List.getElem?_toArray]; exact rowK_get _ _ _ _ hi)
theorem DocAt.same {w : World} {g N : Nat} {K K2 : Dk} (h : DocAt w g N K) (hc : K2.count = K.count) (hM : K2.M = K.M) (hk : K2.Ok) : DocAt w g N K2 := ⟨by rw [hM]; exact h.1, by rw [hc]; exact h.2.1, hk⟩
/-- whole sectors at operations -/
theorem upon_row {b : Nat} {w w' : World} (h : Upon b w w') (d : Array Value) : Upon b w (w'.setRow b d) := ⟨⟨h.1.os, h.1.tape, h.1.output, by rw [setRow_size]; exact h.1.size, fun k hk => absurd hk (Nat.not_lt_zero _)⟩, fun k hk hb => (setRow_other w' b k d hb).trans (h.2 k hk hb)⟩
theorem run_alloc63 (w : World) : (Instr.alloc 136 true (.tuple #[])).run Try.prog w = .ok (.pointer (some ⟨w.heap.size, 0, none⟩)) (w.alloc (.cells (secRow fun _ => 0) 136)) := by
  have h := zinfo63
  cases hq : Try.prog.info? 136 with
  | none => simp [hq] at h
  | some i =>
    have hz : i.zero = some (.agg (secRow fun _ => 0)) := by simp [hq] at h; exact h.1
    simp [Instr.alloc, zeroValue, typeInfo, hq, hz, newVar, newRow, Value.cells]
theorem run_slice63 (w : World) (b : Nat) : (Instr.sliceAt 136 (.pointer (some ⟨b, 0, none⟩)) none none none).run Try.prog w = .ok (.slice (some ⟨b, 0, none⟩) 512 512) w := by
  have hu : Try.prog.underlying 136 = some (.array 512 5) := Try.underlying136
  have hsz : (sizeOf 5).run Try.prog w = .ok 1 w := by kernel_rfl
  have hadd : (⟨b, 0, none⟩ : Addr).add (0 * 1) = ⟨b, 0, none⟩ := by unfold Addr.add; split <;> simp_all
  simp [Instr.sliceAt, Instr.sureAddr, run_underlying hu, Sem.run_bind, Result.andThen_ok, Instr.sliceBounds, Sem.run_pure, hsz]
  exact hadd
theorem run_build63 (w : World) : (Instr.build 136 #[]).run Try.prog w = .ok (.agg (secRow fun _ => 0)) w := by
  have hu : Try.prog.underlying 136 = some (.array 512 5) := Try.underlying136
  have hsz : (sizeOf 5).run Try.prog w = .ok 1 w := by kernel_rfl
  simp [Instr.build, zero63 w, run_underlying hu, hsz, Value.cells, Instr.fill]
theorem plain5 : Try.prog.plainKey 5 = true := by kernel_rfl
theorem under5 : Try.prog.underlying 5 = some (.int .u8) := by kernel_rfl
theorem cells5 : Try.prog.cellsOf 5 = 1 := by kernel_rfl
theorem guard63 : Try.prog.eqGuardType Try.prog.depth 136 = false := by kernel_rfl
theorem run_items (d : Nat) (f g : Nat → Nat) (w : World) : ∀ is : List Nat, (∀ i ∈ is, i < 512) → (Op.eqItems (d + 1) 5 1 (secRow f) (secRow g) is).run Try.prog w = .ok (is.all fun i => f i == g i) w
  | [], _ => by simp [Op.eqItems]
  | i :: is, h => by
    have hi : i < 512 := h i (by simp)
    have p1 := run_part_plain (P := Try.prog) w plain5 (secRow_get f i hi)
    have p2 := run_part_plain (P := Try.prog) w plain5 (secRow_get g i hi)
    have p3 := run_equalIn_int (P := Try.prog) w d 5 .u8 .u8 (f i : Nat) (g i : Nat) under5
    have ih := run_items d f g w is (fun j hj => h j (by simp [hj]))
    have e : ((f i : Int) == (g i : Int)) = (f i == g i) := by rw [Bool.eq_iff_iff]; simp; omega
    rw [e] at p3
    simp only [Op.eqItems, Sem.run_bind, Nat.mul_one, p1, p2, p3, Result.andThen_ok, List.all_cons]
    cases f i == g i
    · simp
    · simpa using ih
theorem run_equalIn63 (f g : Nat → Nat) (w : World) : (Op.equalIn 10000 136 (.agg (secRow f)) (.agg (secRow g))).run Try.prog w = .ok (secEq f g) w := by
  cases hq : Try.prog.info? 5 with
  | none => have : (Try.prog.info? 5).isSome = true := by kernel_rfl
            simp [hq] at this
  | some i =>
    rw [run_equalIn_array (P := Try.prog) w 9999 (secRow f) (secRow g) Try.underlying136 hq, cells5, run_items 9998 f g w _ (by simp)]
    rfl
theorem run_neq63 (f g : Nat → Nat) (w : World) : (binOp .neq 136 (.agg (secRow f)) (.agg (secRow g))).run Try.prog w = .ok (.bool (!secEq f g)) w := by
  rw [run_neq_struct, run_equalIn63 f g w]
  rfl
theorem run_eql63 (f g : Nat → Nat) (w : World) : (binOp .eql 136 (.agg (secRow f)) (.agg (secRow g))).run Try.prog w = .ok (.bool (secEq f g)) w := by
  rw [run_eql_struct, run_equalIn63 f g w]
  rfl
section
variable {w : World} {ops : Array Oper} {rest : List Oper} {o : Oper} {a : Act} {Q : Exit → Act → World → Prop}
theorem wpList_want (hw : Region.wanted o (yielded ops a.tmps) = true) (h : ∀ KK : Act → World → Prop, (∀ a w, wpList Try.prog ops Q rest a w → KK a w) → o.wp Try.prog a w KK Q) : wpList Try.prog ops Q (o :: rest) a w :=
  wpList_step fun KK hKK => by rw [if_pos hw]; exact h KK hKK
theorem wpList_alloc63 (hg : o.guard = none) (hop : o.op = Op.alloc 136) (h : wpList Try.prog ops Q rest (a.put o.dst (.pointer (some ⟨w.heap.size, 0, none⟩))) (w.alloc (.cells (secRow fun _ => 0) 136))) : wpList Try.prog ops Q (o :: rest) a w := by
  refine wpList_plain hg fun K hK => ?_
  unfold Oper.wp
  simp [execOp, hop, run_alloc63 w, Result.andThen]
  exact hK _ _ h
theorem wpList_slice63 (hg : o.guard = none) (x : Operand) (hop : o.op = Op.slice 136 x none none none) (b : Nat) (hx : a.eval x = .pointer (some ⟨b, 0, none⟩))
    (h : wpList Try.prog ops Q rest (a.put o.dst (.slice (some ⟨b, 0, none⟩) 512 512)) w) : wpList Try.prog ops Q (o :: rest) a w := by
  refine wpList_plain hg fun K hK => ?_
  unfold Oper.wp
  simp [execOp, hop, hx, run_slice63 w b, Result.andThen]
  exact hK _ _ h
theorem wpList_box63 (hg : o.guard = none) (x : Operand) (hop : o.op = Op.box 136 x) (f : Nat → Nat) (hx : a.eval x = .agg (secRow f)) (h : wpList Try.prog ops Q rest (a.put o.dst (.pointer (some ⟨w.heap.size, 0, none⟩))) (w.alloc (.cells (secRow f) 136))) : wpList Try.prog ops Q (o :: rest) a w := by
  refine wpList_plain hg fun K hK => ?_
  unfold Oper.wp
  simp [execOp, hop, hx, Instr.box, newVar, newRow, Value.cells, Result.andThen]
  exact hK _ _ h
theorem wpList_load63 (hg : o.guard = none) (x : Operand) (ho : o.op = .load 136 x) (b : Nat) (f : Nat → Nat) (hx : a.eval x = .pointer (some ⟨b, 0, none⟩)) (hb : Box 136 w b (secRow f))
    (h : wpList Try.prog ops Q rest (a.put o.dst (.agg (secRow f))) w) : wpList Try.prog ops Q (o :: rest) a w :=
  wpList_load_row hg 136 x ho b hx 136 _ (0, 0) _ hb Try.underlying136 rfl (info63 f) h
theorem wpList_load63G (hw : Region.wanted o (yielded ops a.tmps) = true) (x : Operand) (ho : o.op = .load 136 x) (b : Nat) (f : Nat → Nat) (hx : a.eval x = .pointer (some ⟨b, 0, none⟩)) (hb : Box 136 w b (secRow f))
    (h : wpList Try.prog ops Q rest (a.put o.dst (.agg (secRow f))) w) : wpList Try.prog ops Q (o :: rest) a w :=
  wpList_want hw fun KK hKK => wp_load_row 136 x ho b hx 136 _ (0, 0) _ hb Try.underlying136 rfl (info63 f) (hKK _ _ h)
theorem wpList_store63 (hg : o.guard = none) (x y : Operand) (ho : o.op = .store 136 x y) (b : Nat) (f : Nat → Nat) (old : Array Value) (hx : a.eval x = .pointer (some ⟨b, 0, none⟩)) (hy : a.eval y = .agg (secRow f)) (hb : Box 136 w b old) (hs : old.size = (secRow f).size)
    (h : ∀ W, Box 136 W b (secRow f) → Upon b w W → wpList Try.prog ops Q rest (a.put o.dst undef) W) : wpList Try.prog ops Q (o :: rest) a w :=
  wpList_store_row hg 136 x y ho b (secRow f) hx hy 136 old hb (info63 f) hs (secRow_one f) (h _ (setRow_heap w b old _ 136 (0, 0) hb) (upon_row (Upon.refl _ _) _))
theorem wpList_build63 (hg : o.guard = none) (hop : o.op = Op.build 136 #[]) (h : wpList Try.prog ops Q rest (a.put o.dst (.agg (secRow fun _ => 0))) w) : wpList Try.prog ops Q (o :: rest) a w := by
  refine wpList_plain hg fun K hK => ?_
  unfold Oper.wp
  simp [execOp, hop, run_build63 w, Result.andThen]
  exact hK _ _ h
theorem wpList_eql63 (hg : o.guard = none) (x y : Operand) (r : TypeId) (hop : o.op = Op.binOp .eql 136 x y r) (f g : Nat → Nat) (hx : a.eval x = .agg (secRow f)) (hy : a.eval y = .agg (secRow g)) (h : wpList Try.prog ops Q rest (a.put o.dst (.bool (secEq f g))) w) : wpList Try.prog ops Q (o :: rest) a w := by
  refine wpList_plain hg fun K hK => ?_
  unfold Oper.wp
  simp [execOp, hop, hx, hy, run_eql63 f g, run_eqGuard_agg (P := Try.prog) w _ _ _ _ _ _ guard63, Result.andThen]
  exact hK _ _ h
theorem wpList_neq63G (hw : Region.wanted o (yielded ops a.tmps) = true) (x y : Operand) (r : TypeId) (hop : o.op = Op.binOp .neq 136 x y r) (f g : Nat → Nat) (hx : a.eval x = .agg (secRow f)) (hy : a.eval y = .agg (secRow g)) (h : wpList Try.prog ops Q rest (a.put o.dst (.bool (!secEq f g))) w) : wpList Try.prog ops Q (o :: rest) a w := by
  refine wpList_want hw fun K hK => ?_
  unfold Oper.wp
  simp [execOp, hop, hx, hy, run_neq63 f g, run_eqGuard_agg (P := Try.prog) w _ _ _ _ _ _ guard63, Result.andThen]
  exact hK _ _ h
theorem wpList_delete_run (hg : o.guard = none) (m x : Operand) (hop : o.op = Op.call { callee := Callee.builtin Builtin.delete, args := #[m, x], argTypes := #[131, 23] }) {mv key : Value} {w' : World} (hm : a.eval m = mv) (hx : a.eval x = key) (hrun : (Builtin.delete_ #[131, 23] o.type #[mv, key]).run Try.prog w = .ok (.tuple #[]) w')
    (h : wpList Try.prog ops Q rest (a.put o.dst (.tuple #[])) w') : wpList Try.prog ops Q (o :: rest) a w := by
  refine wpList_plain hg fun K hK => ?_
  unfold Oper.wp
  simp [execOp, hop, resolve, invoke, builtin, hm, hx, hrun, Result.andThen]
  exact hK _ _ h
theorem wpList_look_run (hg : o.guard = none) (m x : Operand) (t : TypeId) (ok : Bool) (hop : o.op = Op.lookup t m x ok) {mv key v : Value} (hm : a.eval m = mv) (hx : a.eval x = key) (hrun : (Instr.lookup t mv key ok).run Try.prog w = .ok v w)
    (h : wpList Try.prog ops Q rest (a.put o.dst v) w) : wpList Try.prog ops Q (o :: rest) a w := by
  refine wpList_plain hg fun K hK => ?_
  unfold Oper.wp
  simp [execOp, hop, hm, hx, hrun, Result.andThen]
  exact hK _ _ h
theorem wpList_extract_at (hg : o.guard = none) (x : Operand) (i : Nat) (vs : Array Value) (v : Value) (hop : o.op = Op.extract x i) (hx : a.eval x = .tuple vs) (hv : vs[i]? = some v) (h : wpList Try.prog ops Q rest (a.put o.dst v) w) : wpList Try.prog ops Q (o :: rest) a w := by
  refine wpList_plain hg fun KK hKK => ?_
  unfold Oper.wp
  simp only [execOp, hop, hx]
  simp [hv, Instr.extract, go_sem]
  exact hKK _ _ h
end
end Go.Proofs.Ytlkhjekakbckmaa.D

/- Package disk's small calls: New, Count, Locked, Requests, Flushes, Fail, request, there. -/
namespace Go.Proofs.Ytlkhjekakbckmaa.D
open Go.RowKit Go.Maps
set_option linter.unusedVariables false
set_option linter.unusedSimpArgs false
set_option maxRecDepth 100000
section
variable {w : World} {db bm : Nat} {K : Dk}
theorem DiskAt.c0 (h : DiskAt w db bm K) : w.cell? ⟨db, 0, none⟩ = some (.int .u64 (K.count : Nat)) := h.1.cell 0 _ rfl
theorem DiskAt.c1 (h : DiskAt w db bm K) : w.cell? ⟨db, 1, none⟩ = some (.bool K.locked) := h.1.cell 1 _ rfl
theorem DiskAt.c2 (h : DiskAt w db bm K) : w.cell? ⟨db, 2, none⟩ = some (.map (some bm)) := h.1.cell 2 _ rfl
theorem DiskAt.c3 (h : DiskAt w db bm K) : w.cell? ⟨db, 3, none⟩ = some (.int .u64 (K.reqs : Nat)) := h.1.cell 3 _ rfl
theorem DiskAt.c4 (h : DiskAt w db bm K) : w.cell? ⟨db, 4, none⟩ = some (.int .u64 (K.fl : Nat)) := h.1.cell 4 _ rfl
theorem DiskAt.c5 (h : DiskAt w db bm K) : w.cell? ⟨db, 5, none⟩ = some (.int .u64 (K.fail : Nat)) := h.1.cell 5 _ rfl
end
theorem count_any {w : World} {db bm : Nat} {K : Dk} (h : DiskAt w db bm K) : Calls Try.prog 49 #[.pointer (some ⟨db, 0, none⟩)] w fun e w' => e = .returned (.int .u64 (K.count : Nat)) ∧ w' = w := by
  have c := h.c0
  go_enter Try.func49, Try.ntmps49
  go_wp2
  go_ret
  exact ⟨rfl, rfl⟩
theorem locked_any {w : World} {db bm : Nat} {K : Dk} (h : DiskAt w db bm K) : Calls Try.prog 46 #[.pointer (some ⟨db, 0, none⟩)] w fun e w' => e = .returned (.bool K.locked) ∧ w' = w := by
  have c := h.c1
  go_enter Try.func46, Try.ntmps46
  go_wp2
  go_ret
  exact ⟨rfl, rfl⟩
theorem fail_any {w : World} {db bm : Nat} {K : Dk} (h : DiskAt w db bm K) (n : Nat) (hn : n < 18446744073709551616) : Calls Try.prog 43 #[.pointer (some ⟨db, 0, none⟩), .int .u64 (n : Nat)] w fun e w' => e = .returned (.tuple #[]) ∧ DiskAt w' db bm (failK K n) ∧ Two db bm w w' := by
  have c := h.c5
  have fz := h.1.frozen 5
  have H : Hid (DiskAt w db bm K) := h
  clear h
  go_enter Try.func43, Try.ntmps43
  go_wp2
  go_end0
  have hu : Upon db w (w.setCell ⟨db, 5, none⟩ (.int .u64 (n : Nat))) := (Upon.refl _ _).set 5 _
  exact ⟨rfl, H.out.cells rfl rfl (failK_ok H.out.2.2 n hn) (H.out.1.set 5 _) hu, Two.of_upon hu⟩
set_option maxHeartbeats 1000000 in
theorem request_any {w : World} {db bm : Nat} {K : Dk} (h : DiskAt w db bm K) : Calls Try.prog 137 #[.pointer (some ⟨db, 0, none⟩)] w fun e w' => e = .returned (.int .i64 (askE K : Nat)) ∧ DiskAt w' db bm (askK K) ∧ Two db bm w w' := by
  have c3 := h.c3
  have c5 := h.c5
  have f3 := h.1.frozen 3
  have f5 := h.1.frozen 5
  have hi := inc_num K.reqs
  have hK := askK_ok h.2.2
  have h5 := h.2.2.fai
  have H : Hid (DiskAt w db bm K) := h
  have HK : Hid (askK K).Ok := hK
  clear h hK
  rcases Nat.lt_or_ge K.fail 1 with h0 | h0
  · have e0 : K.fail = 0 := by omega
    have HE : Hid (askE K = 0 ∧ askK K = { K with reqs := inc K.reqs, fail := 0 }) := ⟨by unfold askE; rw [if_neg (by omega)], by unfold askK; rw [e0]⟩
    rw [e0] at c5
    clear h0 e0 h5
    go_enter Try.func137, Try.ntmps137
    go_wp2
    go_ret
    have hu : Upon db w (w.setCell ⟨db, 3, none⟩ (.int .u64 (inc K.reqs : Nat))) := (Upon.refl _ _).set 3 _
    refine ⟨by rw [HE.out.1]; rfl, H.out.cells rfl rfl HK.out ?_ hu, Two.of_upon hu⟩
    have := H.out.1.set 3 (.int .u64 (inc K.reqs : Nat))
    have e5 : K.fail = 0 := by have := congrArg Dk.fail HE.out.2; simp [askK] at this; have c := H.out.c5; rw [c5] at c; simp at c; omega
    rw [HE.out.2]
    simpa [diskC, e5] using this
  · have hd := show IntKind.u64.wrap ((K.fail : Int) - 1) = ((K.fail - 1 : Nat) : Int) from by rw [wrap_u64]; omega
    have n0 : ((K.fail : Int) == 0) = false := by simp; omega
    have hu : Upon db w ((w.setCell ⟨db, 3, none⟩ (.int .u64 (inc K.reqs : Nat))).setCell ⟨db, 5, none⟩ (.int .u64 ((K.fail - 1 : Nat) : Int))) := ((Upon.refl _ _).set 3 _).set 5 _
    have hx : Box 133 ((w.setCell ⟨db, 3, none⟩ (.int .u64 (inc K.reqs : Nat))).setCell ⟨db, 5, none⟩ (.int .u64 ((K.fail - 1 : Nat) : Int))) db (diskC (askK K) bm) := (H.out.1.set 3 (.int .u64 (inc K.reqs : Nat))).set 5 (.int .u64 ((K.fail - 1 : Nat) : Int))
    have HX : Hid (_ ∧ _) := ⟨hu, hx⟩
    clear hu hx
    rcases Nat.lt_or_ge K.fail 2 with h1 | h1
    · have HE : Hid (askE K = 133) := by show askE K = 133; unfold askE; rw [if_pos (by omega)]
      have n1 : (((K.fail - 1 : Nat) : Int) == 0) = true := by simp; omega
      generalize K.fail - 1 = q at *
      clear h0 h1 h5
      go_enter Try.func137, Try.ntmps137
      go_wp2
      go_ret
      exact ⟨by rw [HE.out]; rfl, H.out.cells rfl rfl HK.out HX.out.2 HX.out.1, Two.of_upon HX.out.1⟩
    · have HE : Hid (askE K = 0) := by show askE K = 0; unfold askE; rw [if_neg (by omega)]
      have n1 : (((K.fail - 1 : Nat) : Int) == 0) = false := by simp; omega
      generalize K.fail - 1 = q at *
      clear h0 h1 h5
      go_enter Try.func137, Try.ntmps137
      go_wp2
      go_ret
      exact ⟨by rw [HE.out]; rfl, H.out.cells rfl rfl HK.out HX.out.2 HX.out.1, Two.of_upon HX.out.1⟩
theorem there_any {w : World} {db bm : Nat} {K : Dk} (h : DiskAt w db bm K) (x n : Nat) (hx : x < 18446744073709551616) (hn : n < 18446744073709551616) : Calls Try.prog 138 #[.pointer (some ⟨db, 0, none⟩), .int .u64 (x : Nat), .int .u64 (n : Nat)] w fun e w' => e = .returned (.int .i64 (pieceE K.count x n : Nat)) ∧ w' = w := by
  have c0 := h.c0
  have hc := h.2.2.cnt
  by_cases h1 : n % 512 = 0
  · have H1 : Hid (((n : Int) % 512 == 0) = true) := by show _ = _; simp; omega
    have hq : (n : Int) / 512 = ((n / 512 : Nat) : Int) := by omega
    by_cases h2 : x ≤ K.count ∧ n / 512 ≤ K.count - x
    · have H2 : Hid (inB (x : Int) ((n / 512 : Nat) : Int) 0 (K.count : Int) = true) := by show _ = _; simp only [inB, decide_eq_true_eq]; omega
      have HE : Hid (pieceE K.count x n = 0) := by show _ = _; unfold pieceE; rw [if_neg (by omega), if_pos h2]
      have hb : n / 512 ≤ 65536 := by omega
      generalize n / 512 = q at *
      clear h1 h2
      go_enter Try.func138, Try.ntmps138
      go_wp2_with (first | (go_at_call 60; refine (aligned_pos _ _ (by omega) (by omega) _).mono ?_; rintro e w1 ⟨rfl, hw⟩; rw [hw]; clear hw w1; rw [H1.out]) | (go_at_call 94; refine (within_any _ _ _ _ (by omega) (by omega) (by omega) (by omega) _).mono ?_; rintro e w1 ⟨rfl, hw⟩; rw [hw]; clear hw w1; rw [H2.out]))
      go_ret
      exact ⟨by rw [HE.out]; rfl, rfl⟩
    · have H2 : Hid (inB (x : Int) ((n / 512 : Nat) : Int) 0 (K.count : Int) = false) := by show _ = _; simp only [inB, decide_eq_false_iff_not]; omega
      have HE : Hid (pieceE K.count x n = 131) := by show _ = _; unfold pieceE; rw [if_neg (by omega), if_neg h2]
      have hb : n / 512 < 18446744073709551616 := by omega
      generalize n / 512 = q at *
      clear h1 h2
      go_enter Try.func138, Try.ntmps138
      go_wp2_with (first | (go_at_call 60; refine (aligned_pos _ _ (by omega) (by omega) _).mono ?_; rintro e w1 ⟨rfl, hw⟩; rw [hw]; clear hw w1; rw [H1.out]) | (go_at_call 94; refine (within_any _ _ _ _ (by omega) (by omega) (by omega) (by omega) _).mono ?_; rintro e w1 ⟨rfl, hw⟩; rw [hw]; clear hw w1; rw [H2.out]))
      go_ret
      exact ⟨by rw [HE.out]; rfl, rfl⟩
  · have H1 : Hid (((n : Int) % 512 == 0) = false) := by show _ = _; simp; omega
    have HE : Hid (pieceE K.count x n = 20) := by show _ = _; unfold pieceE; rw [if_pos h1]
    clear h1
    go_enter Try.func138, Try.ntmps138
    go_wp2_with (first | (go_at_call 60; refine (aligned_pos _ _ (by omega) (by omega) _).mono ?_; rintro e w1 ⟨rfl, hw⟩; rw [hw]; clear hw w1; rw [H1.out]))
    go_ret
    exact ⟨by rw [HE.out]; rfl, rfl⟩
/-- as it begins -/
def newK (c : Nat) (l : Bool) : Dk := ⟨c, l, 0, 0, 0, fun _ => 0⟩
theorem newK_ok (c : Nat) (l : Bool) (h : c ≤ 65536) : (newK c l).Ok := ⟨h, by show (0 : Nat) < _; omega, by show (0 : Nat) < _; omega, by show (0 : Nat) < _; omega, fun a => Nat.zero_le _, fun a _ => rfl⟩
theorem new_no (c : Nat) (l : Bool) (hc : c < 18446744073709551616) (h : c < 1 ∨ 65536 < c) (w : World) : Calls Try.prog 39 #[.int .u64 (c : Nat), .bool l] w fun e w' => e = .returned (.tuple #[.pointer none, .int .i64 130]) ∧ w' = w := by
  rcases h with h | h
  · have h1 : decide ((c : Int) < 1) = true := by simp; omega
    go_enter Try.func39, Try.ntmps39
    go_wp2
    go_ret2
    exact ⟨rfl, rfl⟩
  · have h1 : decide ((c : Int) < 1) = false := by simp; omega
    have h2 : decide ((65536 : Int) < c) = true := by simp; omega
    clear h
    go_enter Try.func39, Try.ntmps39
    go_wp2
    go_ret2
    exact ⟨rfl, rfl⟩
theorem new_yes (c : Nat) (l : Bool) (h1 : 1 ≤ c) (h2 : c ≤ 65536) (w : World) : Calls Try.prog 39 #[.int .u64 (c : Nat), .bool l] w fun e w' => ∃ db bm, e = .returned (.tuple #[.pointer (some ⟨db, 0, none⟩), .int .i64 0]) ∧ DiskAt w' db bm (newK c l) ∧ w.heap.size ≤ db ∧ w.heap.size ≤ bm ∧ Below w.heap.size w w' := by
  have e1 : decide ((c : Int) < 1) = false := by simp; omega
  have e2 : decide ((65536 : Int) < c) = false := by simp; omega
  have hmm := @run_makeMap Try.prog
  go_enter Try.func39, Try.ntmps39
  go_wp2
  go_ret2
  refine ⟨w.heap.size + 1, w.heap.size, rfl, ⟨?_, ⟨.map [], ((World.ownsMap_made w Try.prog 23 secElem).alloc _).mono (Nat.zero_le _), sect_made⟩, newK_ok c l h2⟩, by omega, Nat.le_refl _, ((Below.refl _ _).alloc (Nat.le_refl _) _).alloc (by simp) _⟩
  rw [show w.heap.size + 1 = (w.alloc (.map #[] 0)).heap.size from by simp]
  exact Box.new 133 (w.alloc (.map #[] 0)) (diskC (newK c l) w.heap.size)
end Go.Proofs.Ytlkhjekakbckmaa.D
