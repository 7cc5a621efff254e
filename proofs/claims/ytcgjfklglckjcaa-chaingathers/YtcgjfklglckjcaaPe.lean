/- The document's Gather. -/
import Derived.Test.YtcgjfklglckjcaaPd
namespace Go.Proofs.Ytcgjfklglckjcaa
open Go.RowKit Go.Maps
set_option linter.unusedVariables false
set_option linter.unusedSimpArgs false
set_option maxRecDepth 100000
/-- what the document's Get tells behind w0 -/
def DGet (w0 : World) (va : Option Addr) (nn vc : Nat) (M : Nat → Nat) : Prop := ∀ V, Below w0.heap.size w0 V → ∀ x : Nat, x < 18446744073709551616 → Calls Try.prog 47 #[.agg #[.int .u64 8192, .slice va nn vc], .int .u64 (x : Int)] V fun e w' => e = .returned (.int .u8 (M x : Nat)) ∧ Below V.heap.size V w'
theorem both_dget {F : Nat → Prop} {w : World} {rb n N vc : Nat} {va : Option Addr} {M : Nat → Nat} (h : Both F w rb 8192 (.slice va n vc) N M) (hN : N ≤ 1000000) : DGet w va n vc M := by
  intro V hV x hx
  obtain ⟨nb, bs, h1, ⟨a', c', hsl⟩, h3, h4, h5⟩ := h.2
  simp only [Value.slice.injEq] at hsl
  obtain ⟨rfl, rfl, rfl⟩ := hsl
  have := rget_any F V (.int .u64 8192) (.slice va n vc) n x bs (h3.below hV) (by omega) hx
  rw [h4 x] at this
  exact this
theorem row_set (f : Nat → Nat) (n j x : Nat) : (rowK .u8 f n).toArray.setIfInBounds j (.int .u8 (x : Nat)) = (rowK .u8 (fun i => if i = j then x else f i) n).toArray := by
  apply Array.ext'
  simp only [Array.toList_setIfInBounds]
  apply List.ext_getElem?
  intro i
  rw [List.getElem?_set]
  simp only [rowK, List.getElem?_map, List.length_map, List.length_range]
  by_cases h1 : j = i
  · subst h1
    by_cases h2 : j < n
    · simp [h2]
    · simp [h2]
  · rw [if_neg h1]
    by_cases h2 : i < n
    · simp [h2, Ne.symm h1]
    · simp [h2]
theorem row_next (G : Nat → Nat) (n j : Nat) : rowK .u8 (fun i => if i = j then G j else if i < j then G i else 0) n = rowK .u8 (fun i => if i < j + 1 then G i else 0) n := by
  congr 1
  funext i
  by_cases h1 : i = j
  · subst h1; simp
  · by_cases h2 : i < j
    · simp [h1, h2, Nat.lt_succ_of_lt h2]
    · simp [h1, h2, show ¬ i < j + 1 from by omega]
theorem gat_get {M : Nat → Nat} {l : List Seg} {f n j : Nat} (h : roomB false l f n = true) (hj : j < n) : (gatL M l f n).getD j 0 = M ((addrs false l).getD (f + j) 0) := by
  have h1 := room_len h
  have h2 : j < (((addrs false l).drop f).take n).length := by omega
  have h3 : f + j < (addrs false l).length := by
    rw [List.length_take, List.length_drop] at h2; omega
  unfold gatL
  simp only [List.getD, List.getElem?_map, List.getElem?_take, List.getElem?_drop, if_pos hj, List.getElem?_eq_getElem h3]
  rfl
theorem addrs_bound {b : Bool} {l : List Seg} (h : ∀ s ∈ l, SegOk s) (m : Nat) : (addrs b l).getD m 0 < 18446744073709551616 := by
  have key : ∀ v ∈ addrs b l, v < 18446744073709551616 := by
    intro v hv
    simp only [addrs, List.mem_flatMap] at hv
    obtain ⟨s, hs, hx⟩ := hv
    have hok := in_len (h s hs).i
    split at hx
    · simp only [List.mem_map, List.mem_range] at hx
      obtain ⟨k, hk, he⟩ := hx
      omega
    · cases hx
  by_cases hm : m < (addrs b l).length
  · exact key _ (by simp [List.getD, hm])
  · have : (addrs b l)[m]? = none := List.getElem?_eq_none (by omega)
    simp [List.getD, this]
set_option maxHeartbeats 4000000 in
theorem dgather_any {w0 w : World} {va : Option Addr} {nn vc : Nat} {M : Nat → Nat} (hG : DGet w0 va nn vc M) (hw : Below w0.heap.size w0 w) {a : Option Addr} {L c : Nat} {l : List Seg} (h : SegIn 0 w (.slice a L c) l) (hl : l.length ≤ 1000) (hok : ∀ s ∈ l, SegOk s) (ta tl : Nat) (f n : Nat) (hf : f < 18446744073709551616) (hn : n < 18446744073709551616) (h20 : roomB false l f n = true → n ≤ 2000) :
    Calls Try.prog 23 #[.agg #[.int .u64 8192, .slice va nn vc], .agg #[.slice a L c, .int .u64 (ta : Int), .int .u64 (tl : Int)], .int .u64 (f : Int), .int .u64 (n : Int)] w fun e w' => Below w.heap.size w w' ∧ ((roomB false l f n = false ∧ e = .returned (.tuple #[.slice none 0 0, .bool false])) ∨ (roomB false l f n = true ∧ ∃ a' c', e = .returned (.tuple #[.slice a' n c', .bool true]) ∧ Reads .u8 w' (.slice a' n c') n (fun i => (gatL M l f n).getD i 0))) := by
  obtain ⟨i0, hi0, hz0, hz1, hz2⟩ := info_parts Try.info5
  have h2 := two_in w (.cells #[.int .u64 8192, .slice va nn vc] 32) (.cells #[.slice a L c, .int .u64 (ta : Int), .int .u64 (tl : Int)] 44)
  have hb : Below w.heap.size w ((w.alloc (.cells #[.int .u64 8192, .slice va nn vc] 32)).alloc (.cells #[.slice a L c, .int .u64 (ta : Int), .int .u64 (tl : Int)] 44)) := ((Below.refl _ _).alloc (Nat.le_refl _) _).alloc (by simp) _
  have XB : Hid (Below w.heap.size w ((w.alloc (.cells #[.int .u64 8192, .slice va nn vc] 32)).alloc (.cells #[.slice a L c, .int .u64 (ta : Int), .int .u64 (tl : Int)] 44)) ∧ ((w.alloc (.cells #[.int .u64 8192, .slice va nn vc] 32)).alloc (.cells #[.slice a L c, .int .u64 (ta : Int), .int .u64 (tl : Int)] 44)).heap[w.heap.size]? = some (.cells #[.int .u64 8192, .slice va nn vc] 32 (0, 0)) ∧ ((w.alloc (.cells #[.int .u64 8192, .slice va nn vc] 32)).alloc (.cells #[.slice a L c, .int .u64 (ta : Int), .int .u64 (tl : Int)] 44)).heap[w.heap.size + 1]? = some (.cells #[.slice a L c, .int .u64 (ta : Int), .int .u64 (tl : Int)] 44 (0, 0))) := ⟨hb, h2.1, h2.2⟩
  have hsz := sizeN_le false l hok
  have K21 : Hid (∀ V, Below w.heap.size w V → Calls Try.prog 21 #[.agg #[.slice a L c, .int .u64 (ta : Int), .int .u64 (tl : Int)]] V fun e w' => e = .returned (.tuple #[.int .u64 (sizeN false l : Int), .int .u64 (sizeN true l : Int)]) ∧ Below V.heap.size V w') := fun V hV => dsizes_any (h.kept (fun g hg => hV.block g (h.lt g hg).2)) hl hok ta tl
  have K48 : Hid (∀ (m : Nat), m < 18446744073709551616 → ∀ V, Below w.heap.size w V → Calls Try.prog 48 #[.agg #[.slice a L c, .int .u64 (ta : Int), .int .u64 (tl : Int)], .int .u64 (m : Int), .bool false] V fun e w' => e = .returned (.int .u64 ((addrs false l).getD m 0 : Nat)) ∧ Below V.heap.size V w') := fun m hm V hV => place_any (h.kept (fun g hg => hV.block g (h.lt g hg).2)) hl hok ta tl m hm false
  have K47 : Hid (∀ (m : Nat), ∀ V, Below w.heap.size w V → Calls Try.prog 47 #[.agg #[.int .u64 8192, .slice va nn vc], .int .u64 ((addrs false l).getD m 0 : Nat)] V fun e w' => e = .returned (.int .u8 (M ((addrs false l).getD m 0) : Nat)) ∧ Below V.heap.size V w') := fun m V hV => hG V (below_to hw hV) _ (addrs_bound hok m)
  have HRB : Hid (roomB false l f n = decide (f ≤ sizeN false l ∧ n ≤ sizeN false l - f)) := rfl
  obtain ⟨sz, hsz2⟩ : ∃ sz, sizeN false l = sz := ⟨_, rfl⟩
  rw [hsz2] at K21 HRB hsz
  generalize sizeN true l = sz1 at *
  have HB : Hid (sz ≤ 9000000 ∧ f < 18446744073709551616 ∧ n < 18446744073709551616 ∧ (roomB false l f n = true → n ≤ 2000)) := ⟨by omega, hf, hn, h20⟩
  clear h2 hb hG h hl hok hf hn h20 hw hsz hsz2
  go_enter Try.func23, Try.ntmps23
  go_upto_region 1 with fail
  generalize (w.alloc (.cells #[.int .u64 8192, .slice va nn vc] 32)).alloc (.cells #[.slice a L c, .int .u64 (ta : Int), .int .u64 (tl : Int)] 44) = v0 at *
  obtain ⟨p0, p1, p2⟩ := box3_facts XB.out.2.2
  go_upto_region 2 with (go_at_call 21; refine (K21.out _ XB.out.1).mono ?_; rintro e w1 ⟨rfl, hb1⟩; have X1 : Hid (Below w.heap.size w w1 ∧ w1.heap[w.heap.size]? = some (.cells #[.int .u64 8192, .slice va nn vc] 32 (0, 0)) ∧ w1.heap[w.heap.size + 1]? = some (.cells #[.slice a L c, .int .u64 (ta : Int), .int .u64 (tl : Int)] 44 (0, 0))) := ⟨below_to XB.out.1 hb1, below_box XB.out.2.1 hb1, below_box XB.out.2.2 hb1⟩; clear hb1 p0 p1 p2)
  clear XB K21
  by_cases hfs : sz < f
  · have g1 : (sz : Int) < (f : Int) := by omega
    have HF : Hid (roomB false l f n = false) := HRB.out.trans (decide_eq_false (by omega))
    clear hfs
    go_wp2_with fail
    refine bodyPost_ret (v := .tuple #[.slice none 0 0, .bool false]) (by simp [results, Try.results23, go_sem]) rfl ?_
    exact ⟨X1.out.1, .inl ⟨HF.out, rfl⟩⟩
  have g1 : ¬ (sz : Int) < (f : Int) := by omega
  obtain ⟨df, hdf⟩ : ∃ df, sz - f = df := ⟨_, rfl⟩
  have g2 : IntKind.u64.wrap ((sz : Int) - (f : Int)) = (df : Int) := by have := HB.out; rw [wrap_u64]; omega
  by_cases hns : df < n
  · have g3 : (df : Int) < (n : Int) := by omega
    have HF : Hid (roomB false l f n = false) := HRB.out.trans (decide_eq_false (by omega))
    clear hfs hns hdf
    go_wp2_with fail
    refine bodyPost_ret (v := .tuple #[.slice none 0 0, .bool false]) (by simp [results, Try.results23, go_sem]) rfl ?_
    exact ⟨X1.out.1, .inl ⟨HF.out, rfl⟩⟩
  have g3 : ¬ (df : Int) < (n : Int) := by omega
  have hT : roomB false l f n = true := HRB.out.trans (decide_eq_true (by omega))
  have hn2 : n ≤ 2000 := HB.out.2.2.2 hT
  have hfb : f ≤ 9000000 := by have := HB.out.1; omega
  have HT : Hid (roomB false l f n = true ∧ n ≤ 2000 ∧ f ≤ 9000000) := ⟨hT, hn2, hfb⟩
  clear hfs hns hdf hT HRB
  go_upto_region 4 with fail
  go_upto_region 5 with (at_make; refine wpList_make_full _ rfl _ _ 64 rfl w1.heap.size 5 i0 (.int .u8 0) 1 Try.underlying64 hi0 hz0 hz1 _ _ _ _ n rfl rfl ?m1 ?m2 ?m3 ?m4 ?m5 ?_)
  case m1 => rfl
  case m2 => rfl
  case m3 => omega
  case m4 => unfold maxLen; omega
  intro w2 hown0 hgrow0
  have hb0 : Below w1.heap.size w1 w2 := Below.grown (Below.refl _ _) hgrow0 (Nat.le_refl _) (by simp)
  rw [toList_madeCells_one, rowK_zero] at hown0
  have hrow := whole_row hown0
  have X2 : Hid ((Below w.heap.size w w2 ∧ w2.heap[w.heap.size]? = some (.cells #[.int .u64 8192, .slice va nn vc] 32 (0, 0)) ∧ w2.heap[w.heap.size + 1]? = some (.cells #[.slice a L c, .int .u64 (ta : Int), .int .u64 (tl : Int)] 44 (0, 0))) ∧ w2.heap[w1.heap.size]? = some (.cells (rowK .u8 (fun i => if i < 0 then (gatL M l f n).getD i 0 else 0) n).toArray 5 (0, 0)) ∧ w.heap.size + 1 < w1.heap.size) := ⟨⟨below_to X1.out.1 hb0, below_box X1.out.2.1 hb0, below_box X1.out.2.2 hb0⟩, hrow, (Array.getElem?_eq_some_iff.1 X1.out.2.2).1⟩
  clear hown0 hgrow0 hrow hb0 X1
  generalize w1.heap.size = g at *
  go_wp2_with fail
  go_loopw [13] (fun x wr => ∃ j : Nat, j ≤ n ∧ x = .int .i64 (j : Int) ∧ ((Below w.heap.size w wr ∧ wr.heap[w.heap.size]? = some (.cells #[.int .u64 8192, .slice va nn vc] 32 (0, 0)) ∧ wr.heap[w.heap.size + 1]? = some (.cells #[.slice a L c, .int .u64 (ta : Int), .int .u64 (tl : Int)] 44 (0, 0))) ∧ wr.heap[g]? = some (.cells (rowK .u8 (fun i => if i < j then (gatL M l f n).getD i 0 else 0) n).toArray 5 (0, 0)) ∧ w.heap.size + 1 < g)) (fun x _ => n - (intOf x).toNat)
  case atStart => exact ⟨0, Nat.zero_le _, rfl, X2.out⟩
  case round =>
    obtain ⟨j, hj, rfl, hx⟩ := hrel
    have XR : Hid ((Below w.heap.size w wr ∧ wr.heap[w.heap.size]? = some (.cells #[.int .u64 8192, .slice va nn vc] 32 (0, 0)) ∧ wr.heap[w.heap.size + 1]? = some (.cells #[.slice a L c, .int .u64 (ta : Int), .int .u64 (tl : Int)] 44 (0, 0))) ∧ wr.heap[g]? = some (.cells (rowK .u8 (fun i => if i < j then (gatL M l f n).getD i 0 else 0) n).toArray 5 (0, 0)) ∧ w.heap.size + 1 < g) := hx
    clear hx X2
    by_cases hlt : j < n
    case neg =>
      have h1 : ¬ (j : Int) < (n : Int) := by omega
      have hjn : j = n := by omega
      subst hjn
      clear hlt hj
      have hrd : Reads .u8 wr (.slice (some ⟨g, 0, none⟩) j j) j (fun i => (gatL M l f j).getD i 0) := by
        refine .inr ⟨g, 0, j, rfl, fun i hi => ?_⟩
        rw [Nat.zero_add]
        refine cellOf XR.out.2.1 i _ ?_
        simp [rowK_get _ _ _ _ hi, hi]
      have HRD : Hid (Reads .u8 wr (.slice (some ⟨g, 0, none⟩) j j) j (fun i => (gatL M l f j).getD i 0)) := hrd
      clear hrd
      go_wp2_with fail
      refine bodyPost_ret (v := .tuple #[.slice (some ⟨g, 0, none⟩) j j, .bool true]) (by simp [results, Try.results23, go_sem]) rfl ?_
      exact ⟨XR.out.1.1, .inr ⟨HT.out.1, _, _, rfl, HRD.out⟩⟩
    case pos =>
      have h1 : (j : Int) < (n : Int) := by omega
      have hgg := gat_get (M := M) HT.out.1 hlt
      obtain ⟨m, hm⟩ : ∃ m, m = f + j := ⟨_, rfl⟩
      have e1 : IntKind.u64.wrap (j : Int) = (j : Int) := by rw [wrap_u64]; omega
      have e2 : IntKind.u64.wrap ((f : Int) + (j : Int)) = (m : Int) := by have := HB.out.1; rw [wrap_u64]; omega
      have hm2 : m < 18446744073709551616 := by have := HT.out; omega
      have K482 : Hid (∀ V, Below w.heap.size w V → Calls Try.prog 48 #[.agg #[.slice a L c, .int .u64 (ta : Int), .int .u64 (tl : Int)], .int .u64 (m : Int), .bool false] V fun e w' => e = .returned (.int .u64 ((addrs false l).getD m 0 : Nat)) ∧ Below V.heap.size V w') := K48.out m hm2
      have K472 : Hid (∀ V, Below w.heap.size w V → Calls Try.prog 47 #[.agg #[.int .u64 8192, .slice va nn vc], .int .u64 ((addrs false l).getD m 0 : Nat)] V fun e w' => e = .returned (.int .u8 (M ((addrs false l).getD m 0) : Nat)) ∧ Below V.heap.size V w') := K47.out m
      rw [← hm] at hgg
      generalize (addrs false l).getD m 0 = pl at *
      obtain ⟨y, hy⟩ : ∃ y, M pl = y := ⟨_, rfl⟩
      rw [hy] at K472 hgg
      have HJ : Hid ((gatL M l f n).getD j 0 = y ∧ j < n) := ⟨hgg, hlt⟩
      clear hgg hm hm2 hy hlt hj
      go_upto_region 8 with fail
      have Xd : Hid ((Below w.heap.size w wr.drew ∧ wr.drew.heap[w.heap.size]? = some (.cells #[.int .u64 8192, .slice va nn vc] 32 (0, 0)) ∧ wr.drew.heap[w.heap.size + 1]? = some (.cells #[.slice a L c, .int .u64 (ta : Int), .int .u64 (tl : Int)] 44 (0, 0))) ∧ wr.drew.heap[g]? = some (.cells (rowK .u8 (fun i => if i < j then (gatL M l f n).getD i 0 else 0) n).toArray 5 (0, 0)) ∧ w.heap.size + 1 < g) := ⟨⟨XR.out.1.1.drew, XR.out.1.2⟩, XR.out.2⟩
      refine wp_region_held_drew (S := fun Z => Z.cell? ⟨w.heap.size, 0, none⟩ = some (.int .u64 8192) ∧ Z.cell? ⟨w.heap.size, 1, none⟩ = some (.slice va nn vc) ∧ Z.cell? ⟨w.heap.size + 1, 0, none⟩ = some (.slice a L c) ∧ Z.cell? ⟨w.heap.size + 1, 1, none⟩ = some (.int .u64 (ta : Int)) ∧ Z.cell? ⟨w.heap.size + 1, 2, none⟩ = some (.int .u64 (tl : Int))) (by kernel_rfl) ⟨cellOf Xd.out.1.2.1 0 _ rfl, cellOf Xd.out.1.2.1 1 _ rfl, cellOf Xd.out.1.2.2 0 _ rfl, cellOf Xd.out.1.2.2 1 _ rfl, cellOf Xd.out.1.2.2 2 _ rfl⟩ ?_
      intro hS
      clear XR
      generalize wr.drew = wd at *
      refine wpAnyH_take (i := 0) (v := ?_) rfl (by kernel_rfl) (by kernel_rfl) (by kernel_rfl) (fun _ _ _ h => h) (Or.inl ⟨by kernel_rfl, ?_⟩) hS ?_
      rotate_left
      · intro w hSw; (try dsimp only at hSw); go_simp; try (with_reducible rfl)
      (try simp only [Act.put, List.getElem_toArray, List.getElem_cons_succ, List.getElem_cons_zero, List.setIfInBounds_toArray, List.set_cons_zero, List.set_cons_succ])
      refine wpAnyH_take (i := 1) (v := ?_) rfl (by kernel_rfl) (by kernel_rfl) (by kernel_rfl) (fun _ _ _ h => h) (Or.inl ⟨by kernel_rfl, ?_⟩) hS ?_
      rotate_left
      · intro w hSw; (try dsimp only at hSw); go_simp; try (with_reducible rfl)
      (try simp only [Act.put, List.getElem_toArray, List.getElem_cons_succ, List.getElem_cons_zero, List.setIfInBounds_toArray, List.set_cons_zero, List.set_cons_succ])
      refine wpAnyH_take (i := 2) (v := ?_) rfl (by kernel_rfl) (by kernel_rfl) (by kernel_rfl) (fun _ _ _ h => h) (Or.inl ⟨by kernel_rfl, ?_⟩) hS ?_
      rotate_left
      · intro w hSw; (try dsimp only at hSw); go_simp; try (with_reducible rfl)
      (try simp only [Act.put, List.getElem_toArray, List.getElem_cons_succ, List.getElem_cons_zero, List.setIfInBounds_toArray, List.set_cons_zero, List.set_cons_succ])
      refine wpAnyH_take (i := 3) (v := ?_) rfl (by kernel_rfl) (by kernel_rfl) (by kernel_rfl) (fun _ _ _ h => h) (Or.inl ⟨by kernel_rfl, ?_⟩) hS ?_
      rotate_left
      · intro w hSw; (try dsimp only at hSw); go_simp; try (with_reducible rfl)
      (try simp only [Act.put, List.getElem_toArray, List.getElem_cons_succ, List.getElem_cons_zero, List.setIfInBounds_toArray, List.set_cons_zero, List.set_cons_succ])
      refine wpAnyH_take (i := 4) (v := ?_) rfl (by kernel_rfl) (by kernel_rfl) (by kernel_rfl) (fun _ _ _ h => h) (Or.inl ⟨by kernel_rfl, ?_⟩) hS ?_
      rotate_left
      · intro w hSw; (try dsimp only at hSw); go_simp; try (with_reducible rfl)
      (try simp only [Act.put, List.getElem_toArray, List.getElem_cons_succ, List.getElem_cons_zero, List.setIfInBounds_toArray, List.set_cons_zero, List.set_cons_succ])
      refine wpAnyH_take (i := 5) (v := ?_) rfl (by kernel_rfl) (by kernel_rfl) (by kernel_rfl) (fun _ _ _ h => h) (Or.inl ⟨by kernel_rfl, ?_⟩) hS ?_
      rotate_left
      · intro w hSw; (try dsimp only at hSw); go_simp; try (with_reducible rfl)
      (try simp only [Act.put, List.getElem_toArray, List.getElem_cons_succ, List.getElem_cons_zero, List.setIfInBounds_toArray, List.set_cons_zero, List.set_cons_succ])
      refine wpAnyH_take (i := 6) (v := ?_) rfl (by kernel_rfl) (by kernel_rfl) (by kernel_rfl) (fun _ _ _ h => h) (Or.inl ⟨by kernel_rfl, ?_⟩) hS ?_
      rotate_left
      · intro w hSw; (try dsimp only at hSw); go_simp; try (with_reducible rfl)
      (try simp only [Act.put, List.getElem_toArray, List.getElem_cons_succ, List.getElem_cons_zero, List.setIfInBounds_toArray, List.set_cons_zero, List.set_cons_succ])
      refine wpAnyH_take (i := 7) (v := ?_) rfl (by kernel_rfl) (by kernel_rfl) (by kernel_rfl) (fun _ _ _ h => h) (Or.inl ⟨by kernel_rfl, ?_⟩) hS ?_
      rotate_left
      · intro w hSw; (try dsimp only at hSw); go_simp; try (with_reducible rfl)
      (try simp only [Act.put, List.getElem_toArray, List.getElem_cons_succ, List.getElem_cons_zero, List.setIfInBounds_toArray, List.set_cons_zero, List.set_cons_succ])
      refine wpAnyH_ready (rs := [8]) (by kernel_rfl) (by simp) ?_
      refine AllReadyH.cons rfl (fun K1 hK1 => ?_) AllReadyH.nil
      go_simp
      refine (K482.out _ Xd.out.1.1).mono ?_
      rintro e w3 ⟨rfl, hb⟩
      have X3 : Hid ((Below w.heap.size w w3 ∧ w3.heap[w.heap.size]? = some (.cells #[.int .u64 8192, .slice va nn vc] 32 (0, 0)) ∧ w3.heap[w.heap.size + 1]? = some (.cells #[.slice a L c, .int .u64 (ta : Int), .int .u64 (tl : Int)] 44 (0, 0))) ∧ w3.heap[g]? = some (.cells (rowK .u8 (fun i => if i < j then (gatL M l f n).getD i 0 else 0) n).toArray 5 (0, 0)) ∧ w.heap.size + 1 < g) := ⟨⟨below_to Xd.out.1.1 hb, below_box Xd.out.1.2.1 hb, below_box Xd.out.1.2.2 hb⟩, below_box Xd.out.2.1 hb, Xd.out.2.2⟩
      clear hb Xd
      refine hK1.out _ _ ⟨cellOf X3.out.1.2.1 0 _ rfl, cellOf X3.out.1.2.1 1 _ rfl, cellOf X3.out.1.2.2 0 _ rfl, cellOf X3.out.1.2.2 1 _ rfl, cellOf X3.out.1.2.2 2 _ rfl⟩ (fun h3 => ?_)
      clear hK1 K1 hS
      (try simp only [Act.put, List.getElem_toArray, List.getElem_cons_succ, List.getElem_cons_zero, List.setIfInBounds_toArray, List.set_cons_zero, List.set_cons_succ])
      refine wpAnyH_ready (rs := [9]) (by kernel_rfl) (by simp) ?_
      refine AllReadyH.cons rfl (fun K1 hK1 => ?_) AllReadyH.nil
      go_simp
      refine (K472.out _ X3.out.1.1).mono ?_
      rintro e w4 ⟨rfl, hb⟩
      have X4 : Hid ((Below w.heap.size w w4 ∧ w4.heap[w.heap.size]? = some (.cells #[.int .u64 8192, .slice va nn vc] 32 (0, 0)) ∧ w4.heap[w.heap.size + 1]? = some (.cells #[.slice a L c, .int .u64 (ta : Int), .int .u64 (tl : Int)] 44 (0, 0))) ∧ w4.heap[g]? = some (.cells (rowK .u8 (fun i => if i < j then (gatL M l f n).getD i 0 else 0) n).toArray 5 (0, 0)) ∧ w.heap.size + 1 < g) := ⟨⟨below_to X3.out.1.1 hb, below_box X3.out.1.2.1 hb, below_box X3.out.1.2.2 hb⟩, below_box X3.out.2.1 hb, X3.out.2.2⟩
      clear hb X3
      refine hK1.out _ _ ⟨cellOf X4.out.1.2.1 0 _ rfl, cellOf X4.out.1.2.1 1 _ rfl, cellOf X4.out.1.2.2 0 _ rfl, cellOf X4.out.1.2.2 1 _ rfl, cellOf X4.out.1.2.2 2 _ rfl⟩ (fun h4 => ?_)
      clear hK1 K1 h3
      (try simp only [Act.put, List.getElem_toArray, List.getElem_cons_succ, List.getElem_cons_zero, List.setIfInBounds_toArray, List.set_cons_zero, List.set_cons_succ])
      refine wpAnyH_take (i := 10) (v := ?_) rfl (by kernel_rfl) (by kernel_rfl) (by kernel_rfl) (fun _ _ _ h => h) (Or.inl ⟨by kernel_rfl, ?_⟩) h4 ?_
      rotate_left
      · intro w hSw; (try dsimp only at hSw); go_simp; try (with_reducible rfl)
      (try simp only [Act.put, List.getElem_toArray, List.getElem_cons_succ, List.getElem_cons_zero, List.setIfInBounds_toArray, List.set_cons_zero, List.set_cons_succ])
      refine wpAnyH_ready (rs := [11]) (by kernel_rfl) (by simp) ?_
      refine AllReadyH.cons rfl (fun K1 hK1 => ?_) AllReadyH.nil
      have m1 : w4.cell? ⟨g, j, none⟩ = some (.int .u8 0) := cellOf X4.out.2.1 j _ (by simp [rowK_get _ _ _ _ HJ.out.2])
      have m2 := frozenOf X4.out.2.1 j
      go_simp
      have X5 : Hid ((Below w.heap.size w (w4.setCell ⟨g, j, none⟩ (.int .u8 (y : Int))) ∧ (w4.setCell ⟨g, j, none⟩ (.int .u8 (y : Int))).heap[w.heap.size]? = some (.cells #[.int .u64 8192, .slice va nn vc] 32 (0, 0)) ∧ (w4.setCell ⟨g, j, none⟩ (.int .u8 (y : Int))).heap[w.heap.size + 1]? = some (.cells #[.slice a L c, .int .u64 (ta : Int), .int .u64 (tl : Int)] 44 (0, 0))) ∧ (w4.setCell ⟨g, j, none⟩ (.int .u8 (y : Int))).heap[g]? = some (.cells (rowK .u8 (fun i => if i < (j + 1) then (gatL M l f n).getD i 0 else 0) n).toArray 5 (0, 0)) ∧ w.heap.size + 1 < g) := by
        refine ⟨⟨X4.out.1.1.setCell (by have := X4.out.2.2; show w.heap.size ≤ g; omega) _, (heap_setCell _ _ _ _ _ (by have := X4.out.2.2; omega)).trans X4.out.1.2.1, (heap_setCell _ _ _ _ _ (by have := X4.out.2.2; omega)).trans X4.out.1.2.2⟩, ?_, X4.out.2.2⟩
        rw [setCell_eq_setRow w4 g j _ 5 (0, 0) _ X4.out.2.1, setRow_heap w4 g _ _ 5 _ X4.out.2.1, row_set, ← row_next, HJ.out.1]
      clear m1 m2 X4
      generalize w4.setCell ⟨g, j, none⟩ (.int .u8 (y : Int)) = w5 at *
      refine hK1.out _ _ ⟨cellOf X5.out.1.2.1 0 _ rfl, cellOf X5.out.1.2.1 1 _ rfl, cellOf X5.out.1.2.2 0 _ rfl, cellOf X5.out.1.2.2 1 _ rfl, cellOf X5.out.1.2.2 2 _ rfl⟩ (fun h5 => ?_)
      clear hK1 K1 h4
      (try simp only [Act.put, List.getElem_toArray, List.getElem_cons_succ, List.getElem_cons_zero, List.setIfInBounds_toArray, List.set_cons_zero, List.set_cons_succ])
      refine wpAnyH_done (by kernel_rfl) ?_ _
      clear h5
      go_wp2_with fail
      go_roundw
      case rel => exact ⟨j + 1, HJ.out.2, by go_num, X5.out⟩
      case measure => simp [intOf]; have := HJ.out.2; omega
end Go.Proofs.Ytcgjfklglckjcaa
