/- The table that a descriptor names. -/
import Derived.Test.YtcgjfklglckjcaaCe
namespace Go.Proofs.Ytcgjfklglckjcaa
open Go.RowKit Go.Maps
set_option linter.unusedVariables false
set_option linter.unusedSimpArgs false
set_option maxRecDepth 100000
theorem info38 : (Try.prog.info? 38).map (·.size) = some 2 := by kernel_rfl
theorem three_in (w : World) (o1 o2 o3 : Obj) : (((w.alloc o1).alloc o2).alloc o3).heap[w.heap.size]? = some o1 ∧ (((w.alloc o1).alloc o2).alloc o3).heap[w.heap.size + 1]? = some o2 ∧ (((w.alloc o1).alloc o2).alloc o3).heap[w.heap.size + 1 + 1]? = some o3 ∧ Below w.heap.size w (((w.alloc o1).alloc o2).alloc o3) := by
  have h := two_in w o1 o2
  have hb : Below ((w.alloc o1).alloc o2).heap.size ((w.alloc o1).alloc o2) (((w.alloc o1).alloc o2).alloc o3) := (Below.refl _ _).alloc (Nat.le_refl _) _
  have hs : ((w.alloc o1).alloc o2).heap.size = w.heap.size + 1 + 1 := by simp
  refine ⟨below_box h.1 hb, below_box h.2 hb, ?_, (((Below.refl _ _).alloc (Nat.le_refl _) _).alloc (by simp) _).alloc (by simp; omega) _⟩
  rw [← hs]; exact heap_alloc_new _ _
theorem tabE_nest {d : De} {al : Bool} (h : (!al || fl d.f 1) = true) : tabE d al = 153 := by simp only [tabE, h, if_true]
theorem tabE_bad {d : De} {al : Bool} (h : (!al || fl d.f 1) = false) (h2 : d.l = 0 ∨ 4096 < d.l ∨ ¬ d.l % 16 = 0) : tabE d al = 154 := by
  have : (decide (d.l = 0) || decide (4096 < d.l) || decide (¬ d.l % 16 = 0)) = true := by
    simp only [Bool.or_eq_true, decide_eq_true_iff]
    omega
  rw [tabE, h, if_neg (by decide), this, if_pos rfl]
theorem tabE_go {d : De} {al : Bool} (h : (!al || fl d.f 1) = false) (h2 : ¬ (d.l = 0 ∨ 4096 < d.l ∨ ¬ d.l % 16 = 0)) : tabE d al = if inB d.a d.l 2147483648 8192 = true then 0 else 21 := by
  have : (decide (d.l = 0) || decide (4096 < d.l) || decide (¬ d.l % 16 = 0)) = false := by
    simp only [Bool.or_eq_false_iff, decide_eq_false_iff_not]
    omega
  rw [tabE, h, if_neg (by decide), this, if_neg (by decide)]
/-- the piece that is told -/
def tabV (e da dl : Nat) : Value := if e = 0 then .agg #[.int .u64 (da : Int), .int .u64 (dl : Int)] else .agg #[.int .u64 0, .int .u64 0]
set_option maxHeartbeats 2000000 in
theorem tab_any {rb wb : Nat} {w : World} {v : Value} (da dl df dx : Nat) (hd : (De.mk da dl df dx).Ok) (al : Bool) (hwb : w.heap[wb]? = some (.cells #[.pointer (some ⟨rb, 0, none⟩), v] 88 (0, 0))) (hh : ∀ V, Below w.heap.size w V → Calls Try.prog 55 #[.pointer (some ⟨rb, 0, none⟩), .int .u64 (da : Int), .int .u64 (dl : Int)] V fun e w' => e = .returned (.bool (inB da dl 2147483648 8192)) ∧ w' = V) :
    Calls Try.prog 37 #[.pointer (some ⟨wb, 0, none⟩), .agg #[.int .u64 (da : Int), .int .u32 (dl : Int), .int .u16 (df : Int), .int .u16 (dx : Int)], .bool al] w fun e w' => e = .returned (.tuple #[tabV (tabE ⟨da, dl, df, dx⟩ al) da dl, .int .i64 (tabE ⟨da, dl, df, dx⟩ al : Int)]) ∧ Below w.heap.size w w' := by
  have hf : df ≤ 65535 := hd.f
  have hl5 : dl ≤ 4294967295 := hd.l
  have hwr : IntKind.u64.wrap (dl : Int) = (dl : Int) := by rw [wrap_u64]; omega
  have X0 : Hid ((((w.alloc (.cells #[.int .u64 (da : Int), .int .u32 (dl : Int), .int .u16 (df : Int), .int .u16 (dx : Int)] 92)).alloc (.cells #[.int .u64 0, .int .u64 0] 38)).alloc (.cells #[.int .u64 (da : Int), .int .u64 (dl : Int)] 38)).heap[w.heap.size]? = some (.cells #[.int .u64 (da : Int), .int .u32 (dl : Int), .int .u16 (df : Int), .int .u16 (dx : Int)] 92 (0, 0)) ∧ (((w.alloc (.cells #[.int .u64 (da : Int), .int .u32 (dl : Int), .int .u16 (df : Int), .int .u16 (dx : Int)] 92)).alloc (.cells #[.int .u64 0, .int .u64 0] 38)).alloc (.cells #[.int .u64 (da : Int), .int .u64 (dl : Int)] 38)).heap[w.heap.size + 1]? = some (.cells #[.int .u64 0, .int .u64 0] 38 (0, 0)) ∧ (((w.alloc (.cells #[.int .u64 (da : Int), .int .u32 (dl : Int), .int .u16 (df : Int), .int .u16 (dx : Int)] 92)).alloc (.cells #[.int .u64 0, .int .u64 0] 38)).alloc (.cells #[.int .u64 (da : Int), .int .u64 (dl : Int)] 38)).heap[w.heap.size + 1 + 1]? = some (.cells #[.int .u64 (da : Int), .int .u64 (dl : Int)] 38 (0, 0)) ∧ Below w.heap.size w (((w.alloc (.cells #[.int .u64 (da : Int), .int .u32 (dl : Int), .int .u16 (df : Int), .int .u16 (dx : Int)] 92)).alloc (.cells #[.int .u64 0, .int .u64 0] 38)).alloc (.cells #[.int .u64 (da : Int), .int .u64 (dl : Int)] 38))) := three_in w _ _ _
  have HW : Hid (∀ V, Below w.heap.size w V → V.cell? ⟨wb, 0, none⟩ = some (.pointer (some ⟨rb, 0, none⟩))) := fun V hV => cellOf (below_box hwb hV) 0 _ rfl
  have HH : Hid (∀ V, Below w.heap.size w V → Calls Try.prog 55 #[.pointer (some ⟨rb, 0, none⟩), .int .u64 (da : Int), .int .u64 (dl : Int)] V fun e w' => e = .returned (.bool (inB da dl 2147483648 8192)) ∧ w' = V) := hh
  obtain ⟨te, hte⟩ : ∃ te, tabE ⟨da, dl, df, dx⟩ al = te := ⟨_, rfl⟩
  rw [hte]
  have HT : Hid (tabE ⟨da, dl, df, dx⟩ al = te) := hte
  clear hte hwb hh hd
  go_enter Try.func37, Try.ntmps37
  go_upto_region 2 with fail
  generalize ((w.alloc (.cells #[.int .u64 (da : Int), .int .u32 (dl : Int), .int .u16 (df : Int), .int .u16 (dx : Int)] 92)).alloc (.cells #[.int .u64 0, .int .u64 0] 38)).alloc (.cells #[.int .u64 (da : Int), .int .u64 (dl : Int)] 38) = v0 at *
  obtain ⟨d0, d1, d2, d3⟩ := box4_facts X0.out.1
  obtain ⟨p0, p1, _, _⟩ := box_facts X0.out.2.2.1
  cases al with
  | false =>
    have HE : Hid (te = 153) := HT.out.symm.trans (tabE_nest rfl)
    go_upto_region 3 with fail
    refine wp_region_list ?_
    (refine wpList_step (fun KK hKK => ?_); go_simp; refine hKK _ _ ?_; clear hKK KK)
    refine wpList_store_row rfl 38 _ _ rfl (w.heap.size + 1) #[.int .u64 0, .int .u64 0] rfl rfl 38 #[.int .u64 0, .int .u64 0] X0.out.2.1 info38 rfl (by simp [Value.oneCell']) ?_
    have HY : Hid (Below w.heap.size w (v0.setRow (w.heap.size + 1) #[.int .u64 0, .int .u64 0]) ∧ (v0.setRow (w.heap.size + 1) #[.int .u64 0, .int .u64 0]).heap[w.heap.size + 1]? = some (.cells #[.int .u64 0, .int .u64 0] 38 (0, 0))) := ⟨below_setRow X0.out.2.2.2 (Nat.le_succ _) _, setRow_heap _ _ _ _ _ _ X0.out.2.1⟩
    generalize v0.setRow (w.heap.size + 1) #[.int .u64 0, .int .u64 0] = w9 at *
    obtain ⟨c0, c1, _, _⟩ := box_facts HY.out.2
    go_wp2_with fail
    refine bodyPost_ret (v := .tuple #[.agg #[.int .u64 0, .int .u64 0], .int .i64 153]) (by simp [results, Try.results37, go_sem, c0, c1]) rfl ?_
    rw [HE.out]
    exact ⟨rfl, HY.out.1⟩
  | true =>
    obtain ⟨f1, hf1⟩ : ∃ b, fl df 1 = b := ⟨_, rfl⟩
    have H1 : Hid (∀ V, Calls Try.prog 36 #[.agg #[.int .u64 (da : Int), .int .u32 (dl : Int), .int .u16 (df : Int), .int .u16 (dx : Int)], .int .u16 1] V fun e w' => e = .returned (.bool f1) ∧ Below V.heap.size V w') := by
      intro V; rw [← hf1]; exact hasf1 da dl df dx hf V
    have HF1 : Hid ((!true || fl (De.mk da dl df dx).f 1) = f1) := hf1
    clear hf1
    have ARM : True := trivial
    cases f1 with
    | true =>
      have HE : Hid (te = 153) := HT.out.symm.trans (tabE_nest HF1.out)
      go_upto_region 3 with (go_at_call 36; refine (H1.out _).mono ?_; rintro e v1 ⟨rfl, hb⟩; have X1 : Hid (v1.heap[w.heap.size]? = some (.cells #[.int .u64 (da : Int), .int .u32 (dl : Int), .int .u16 (df : Int), .int .u16 (dx : Int)] 92 (0, 0)) ∧ v1.heap[w.heap.size + 1]? = some (.cells #[.int .u64 0, .int .u64 0] 38 (0, 0)) ∧ v1.heap[w.heap.size + 1 + 1]? = some (.cells #[.int .u64 (da : Int), .int .u64 (dl : Int)] 38 (0, 0)) ∧ Below w.heap.size w v1) := ⟨below_box X0.out.1 hb, below_box X0.out.2.1 hb, below_box X0.out.2.2.1 hb, below_to X0.out.2.2.2 hb⟩; clear hb)
      go_upto_region 3 with fail
      refine wp_region_list ?_
      (refine wpList_step (fun KK hKK => ?_); go_simp; refine hKK _ _ ?_; clear hKK KK)
      refine wpList_store_row rfl 38 _ _ rfl (w.heap.size + 1) #[.int .u64 0, .int .u64 0] rfl rfl 38 #[.int .u64 0, .int .u64 0] X1.out.2.1 info38 rfl (by simp [Value.oneCell']) ?_
      have HY : Hid (Below w.heap.size w (v1.setRow (w.heap.size + 1) #[.int .u64 0, .int .u64 0]) ∧ (v1.setRow (w.heap.size + 1) #[.int .u64 0, .int .u64 0]).heap[w.heap.size + 1]? = some (.cells #[.int .u64 0, .int .u64 0] 38 (0, 0))) := ⟨below_setRow X1.out.2.2.2 (Nat.le_succ _) _, setRow_heap _ _ _ _ _ _ X1.out.2.1⟩
      generalize v1.setRow (w.heap.size + 1) #[.int .u64 0, .int .u64 0] = w9 at *
      obtain ⟨c0, c1, _, _⟩ := box_facts HY.out.2
      go_wp2_with fail
      refine bodyPost_ret (v := .tuple #[.agg #[.int .u64 0, .int .u64 0], .int .i64 153]) (by simp [results, Try.results37, go_sem, c0, c1]) rfl ?_
      rw [HE.out]
      exact ⟨rfl, HY.out.1⟩
    | false =>
      go_upto_region 4 with (go_at_call 36; refine (H1.out _).mono ?_; rintro e v1 ⟨rfl, hb⟩; have X1 : Hid (v1.heap[w.heap.size]? = some (.cells #[.int .u64 (da : Int), .int .u32 (dl : Int), .int .u16 (df : Int), .int .u16 (dx : Int)] 92 (0, 0)) ∧ v1.heap[w.heap.size + 1]? = some (.cells #[.int .u64 0, .int .u64 0] 38 (0, 0)) ∧ v1.heap[w.heap.size + 1 + 1]? = some (.cells #[.int .u64 (da : Int), .int .u64 (dl : Int)] 38 (0, 0)) ∧ Below w.heap.size w v1) := ⟨below_box X0.out.1 hb, below_box X0.out.2.1 hb, below_box X0.out.2.2.1 hb, below_to X0.out.2.2.2 hb⟩; clear hb)
      clear X0 d0 d1 d2 d3 p0 p1
      obtain ⟨d0, d1, d2, d3⟩ := box4_facts X1.out.1
      obtain ⟨p0, p1, _, _⟩ := box_facts X1.out.2.2.1
      by_cases hbad : dl = 0 ∨ 4096 < dl ∨ ¬ dl % 16 = 0
      · have HE : Hid (te = 154) := HT.out.symm.trans (tabE_bad HF1.out hbad)
        by_cases z0 : dl = 0
        · have e0 : ((dl : Int) == 0) = true := by simp [z0]
          clear z0 hbad
          go_upto_region 5 with fail
          refine wp_region_list ?_
          (refine wpList_step (fun KK hKK => ?_); go_simp; refine hKK _ _ ?_; clear hKK KK)
          refine wpList_store_row rfl 38 _ _ rfl (w.heap.size + 1) #[.int .u64 0, .int .u64 0] rfl rfl 38 #[.int .u64 0, .int .u64 0] X1.out.2.1 info38 rfl (by simp [Value.oneCell']) ?_
          have HY : Hid (Below w.heap.size w (v1.setRow (w.heap.size + 1) #[.int .u64 0, .int .u64 0]) ∧ (v1.setRow (w.heap.size + 1) #[.int .u64 0, .int .u64 0]).heap[w.heap.size + 1]? = some (.cells #[.int .u64 0, .int .u64 0] 38 (0, 0))) := ⟨below_setRow X1.out.2.2.2 (Nat.le_succ _) _, setRow_heap _ _ _ _ _ _ X1.out.2.1⟩
          generalize v1.setRow (w.heap.size + 1) #[.int .u64 0, .int .u64 0] = w9 at *
          obtain ⟨c0, c1, _, _⟩ := box_facts HY.out.2
          go_wp2_with fail
          refine bodyPost_ret (v := .tuple #[.agg #[.int .u64 0, .int .u64 0], .int .i64 154]) (by simp [results, Try.results37, go_sem, c0, c1]) rfl ?_
          rw [HE.out]
          exact ⟨rfl, HY.out.1⟩
        · have e0 : ((dl : Int) == 0) = false := by simp [z0]
          by_cases z1 : 4096 < dl
          · have e1 : (4096 : Int) < dl := by omega
            clear z0 hbad z1
            go_upto_region 5 with fail
            refine wp_region_list ?_
            (refine wpList_step (fun KK hKK => ?_); go_simp; refine hKK _ _ ?_; clear hKK KK)
            refine wpList_store_row rfl 38 _ _ rfl (w.heap.size + 1) #[.int .u64 0, .int .u64 0] rfl rfl 38 #[.int .u64 0, .int .u64 0] X1.out.2.1 info38 rfl (by simp [Value.oneCell']) ?_
            have HY : Hid (Below w.heap.size w (v1.setRow (w.heap.size + 1) #[.int .u64 0, .int .u64 0]) ∧ (v1.setRow (w.heap.size + 1) #[.int .u64 0, .int .u64 0]).heap[w.heap.size + 1]? = some (.cells #[.int .u64 0, .int .u64 0] 38 (0, 0))) := ⟨below_setRow X1.out.2.2.2 (Nat.le_succ _) _, setRow_heap _ _ _ _ _ _ X1.out.2.1⟩
            generalize v1.setRow (w.heap.size + 1) #[.int .u64 0, .int .u64 0] = w9 at *
            obtain ⟨c0, c1, _, _⟩ := box_facts HY.out.2
            go_wp2_with fail
            refine bodyPost_ret (v := .tuple #[.agg #[.int .u64 0, .int .u64 0], .int .i64 154]) (by simp [results, Try.results37, go_sem, c0, c1]) rfl ?_
            rw [HE.out]
            exact ⟨rfl, HY.out.1⟩
          · have e1 : ¬ (4096 : Int) < dl := by omega
            obtain ⟨y, hy⟩ : ∃ y, dl % 16 = y := ⟨_, rfl⟩
            have e2 : (dl : Int) % 16 = (y : Int) := by omega
            have e2' : (dl : Int).tmod 16 = (y : Int) := by rw [Int.tmod_eq_emod_of_nonneg (by omega)]; exact e2
            have e3 : ((y : Int) != 0) = true := by simp; omega
            clear z0 hbad z1 hy
            go_upto_region 5 with fail
            refine wp_region_list ?_
            (refine wpList_step (fun KK hKK => ?_); go_simp; refine hKK _ _ ?_; clear hKK KK)
            refine wpList_store_row rfl 38 _ _ rfl (w.heap.size + 1) #[.int .u64 0, .int .u64 0] rfl rfl 38 #[.int .u64 0, .int .u64 0] X1.out.2.1 info38 rfl (by simp [Value.oneCell']) ?_
            have HY : Hid (Below w.heap.size w (v1.setRow (w.heap.size + 1) #[.int .u64 0, .int .u64 0]) ∧ (v1.setRow (w.heap.size + 1) #[.int .u64 0, .int .u64 0]).heap[w.heap.size + 1]? = some (.cells #[.int .u64 0, .int .u64 0] 38 (0, 0))) := ⟨below_setRow X1.out.2.2.2 (Nat.le_succ _) _, setRow_heap _ _ _ _ _ _ X1.out.2.1⟩
            generalize v1.setRow (w.heap.size + 1) #[.int .u64 0, .int .u64 0] = w9 at *
            obtain ⟨c0, c1, _, _⟩ := box_facts HY.out.2
            go_wp2_with fail
            refine bodyPost_ret (v := .tuple #[.agg #[.int .u64 0, .int .u64 0], .int .i64 154]) (by simp [results, Try.results37, go_sem, c0, c1]) rfl ?_
            rw [HE.out]
            exact ⟨rfl, HY.out.1⟩
      · have e0 : ((dl : Int) == 0) = false := by simp; omega
        have e1 : ¬ (4096 : Int) < dl := by omega
        have e2 : (dl : Int) % 16 = 0 := by omega
        have e2' : (dl : Int).tmod 16 = 0 := by rw [Int.tmod_eq_emod_of_nonneg (by omega)]; exact e2
        have HE0 : Hid (te = if inB da dl 2147483648 8192 = true then 0 else 21) := HT.out.symm.trans (tabE_go HF1.out hbad)
        clear hbad
        go_upto_region 6 with fail
        have Xd : Hid (v1.drew.heap[w.heap.size]? = some (.cells #[.int .u64 (da : Int), .int .u32 (dl : Int), .int .u16 (df : Int), .int .u16 (dx : Int)] 92 (0, 0)) ∧ v1.drew.heap[w.heap.size + 1]? = some (.cells #[.int .u64 0, .int .u64 0] 38 (0, 0)) ∧ v1.drew.heap[w.heap.size + 1 + 1]? = some (.cells #[.int .u64 (da : Int), .int .u64 (dl : Int)] 38 (0, 0)) ∧ Below w.heap.size w v1.drew) := ⟨X1.out.1, X1.out.2.1, X1.out.2.2.1, X1.out.2.2.2.drew⟩
        have q0 := HW.out _ Xd.out.2.2.2
        obtain ⟨ib, hin⟩ : ∃ ib, inB da dl 2147483648 8192 = ib := ⟨_, rfl⟩
        have HI : Hid (inB da dl 2147483648 8192 = ib) := hin
        rw [hin] at HE0
        clear hin X1 d0 d1 d2 d3 p0 p1
        obtain ⟨p0, p1, _, _⟩ := box_facts Xd.out.2.2.1
        go_region_held3 (fun Z => Z.cell? ⟨wb, 0, none⟩ = some (.pointer (some ⟨rb, 0, none⟩)) ∧ Z.cell? ⟨w.heap.size + 1 + 1, 0, none⟩ = some (.int .u64 (da : Int)) ∧ Z.cell? ⟨w.heap.size + 1 + 1, 1, none⟩ = some (.int .u64 (dl : Int))) (go_keep) (first | (go_at_call 55; refine (HH.out _ Xd.out.2.2.2).mono ?_; rintro e w2 ⟨rfl, hw⟩; rw [hw]; clear hw w2; rw [HI.out]))
        generalize v1.drew = v2 at *
        cases ib with
        | false =>
          have HE : Hid (te = 21) := HE0.out
          go_upto_region 7 with fail
          refine wp_region_list ?_
          (refine wpList_step (fun KK hKK => ?_); go_simp; refine hKK _ _ ?_; clear hKK KK)
          refine wpList_store_row rfl 38 _ _ rfl (w.heap.size + 1) #[.int .u64 0, .int .u64 0] rfl rfl 38 #[.int .u64 0, .int .u64 0] Xd.out.2.1 info38 rfl (by simp [Value.oneCell']) ?_
          have HY : Hid (Below w.heap.size w (v2.setRow (w.heap.size + 1) #[.int .u64 0, .int .u64 0]) ∧ (v2.setRow (w.heap.size + 1) #[.int .u64 0, .int .u64 0]).heap[w.heap.size + 1]? = some (.cells #[.int .u64 0, .int .u64 0] 38 (0, 0))) := ⟨below_setRow Xd.out.2.2.2 (Nat.le_succ _) _, setRow_heap _ _ _ _ _ _ Xd.out.2.1⟩
          generalize v2.setRow (w.heap.size + 1) #[.int .u64 0, .int .u64 0] = w9 at *
          obtain ⟨c0, c1, _, _⟩ := box_facts HY.out.2
          go_wp2_with fail
          refine bodyPost_ret (v := .tuple #[.agg #[.int .u64 0, .int .u64 0], .int .i64 21]) (by simp [results, Try.results37, go_sem, c0, c1]) rfl ?_
          rw [HE.out]
          exact ⟨rfl, HY.out.1⟩
        | true =>
          have HE : Hid (te = 0) := HE0.out
          go_upto_region 8 with fail
          refine wp_region_list ?_
          (refine wpList_step (fun KK hKK => ?_); go_simp; refine hKK _ _ ?_; clear hKK KK)
          refine wpList_store_row rfl 38 _ _ rfl (w.heap.size + 1) #[.int .u64 (da : Int), .int .u64 (dl : Int)] rfl rfl 38 #[.int .u64 0, .int .u64 0] Xd.out.2.1 info38 rfl (by simp [Value.oneCell']) ?_
          have HY : Hid (Below w.heap.size w (v2.setRow (w.heap.size + 1) #[.int .u64 (da : Int), .int .u64 (dl : Int)]) ∧ (v2.setRow (w.heap.size + 1) #[.int .u64 (da : Int), .int .u64 (dl : Int)]).heap[w.heap.size + 1]? = some (.cells #[.int .u64 (da : Int), .int .u64 (dl : Int)] 38 (0, 0))) := ⟨below_setRow Xd.out.2.2.2 (Nat.le_succ _) _, setRow_heap _ _ _ _ _ _ Xd.out.2.1⟩
          generalize v2.setRow (w.heap.size + 1) #[.int .u64 (da : Int), .int .u64 (dl : Int)] = w9 at *
          obtain ⟨c0, c1, _, _⟩ := box_facts HY.out.2
          go_wp2_with fail
          refine bodyPost_ret (v := .tuple #[.agg #[.int .u64 (da : Int), .int .u64 (dl : Int)], .int .i64 0]) (by simp [results, Try.results37, go_sem, c0, c1]) rfl ?_
          rw [HE.out]
          exact ⟨rfl, HY.out.1⟩
end Go.Proofs.Ytcgjfklglckjcaa
