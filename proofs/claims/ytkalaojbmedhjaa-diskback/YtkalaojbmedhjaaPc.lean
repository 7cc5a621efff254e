/- Package disk: get: a copy of bytes from a sector on. -/
import Derived.Test.YtkalaojbmedhjaaPb
namespace Go.Proofs.Ytkalaojbmedhjaa
open Go.RowKit Go.Maps
set_option linter.unusedVariables false
set_option linter.unusedSimpArgs false
set_option maxRecDepth 100000
theorem piece_cut {g j L cap R C m : Nat} (hR : L - j = R) (hC : cap - j = C) (hm : m ≤ R) (hRC : R ≤ C) :
    (L - (j + m) = 0 ∧ ∃ a c, Value.slice (if C = m then some ⟨g, j, none⟩ else some ⟨g, j + m, none⟩) (R - m) (C - m) = .slice a 0 c) ∨ Value.slice (if C = m then some ⟨g, j, none⟩ else some ⟨g, j + m, none⟩) (R - m) (C - m) = .slice (some ⟨g, j + m, none⟩) (L - (j + m)) (cap - (j + m)) := by
  by_cases h : R = m
  · left
    refine ⟨by omega, _, C - m, by rw [show R - m = 0 from by omega]⟩
  · right
    rw [if_neg (by omega), show R - m = L - (j + m) from by omega, show C - m = cap - (j + m) from by omega]
/-- a row of bytes of its own -/
def RowAt (w : World) (g L : Nat) (f : Nat → Nat) : Prop := w.heap[g]? = some (.cells (rowK .u8 f L).toArray 5 (0, 0))
theorem RowAt.step {w w' : World} {g L : Nat} {f : Nat → Nat} (h : RowAt w g L f) (hb : Below w.heap.size w w') : RowAt w' g L f := below_box h hb
theorem RowAt.lt {w : World} {g L : Nat} {f : Nat → Nat} (h : RowAt w g L f) : g < w.heap.size := (Array.getElem?_eq_some_iff.1 h).1
theorem RowAt.reads {w : World} {g L : Nat} {f : Nat → Nat} (h : RowAt w g L f) : Reads .u8 w (.slice (some ⟨g, 0, none⟩) L L) L f := reads_row h (Nat.le_refl _)
theorem RowAt.readsF {F : Nat → Prop} {w : World} {g L : Nat} {f : Nat → Nat} (h : RowAt w g L f) (hF : ¬ F g) (hL : L ≤ 9223372036854775807) : ReadsF F w (.slice (some ⟨g, 0, none⟩) L L) L f :=
  .inr ⟨g, 0, L, rfl, hF, Nat.le_refl _, hL, fun i hi => by rw [Nat.zero_add]; exact cellOf h i _ (by rw [List.getElem?_toArray]; exact rowK_get _ _ _ _ hi)⟩
theorem RowAt.congr {w : World} {g L : Nat} {f f' : Nat → Nat} (h : RowAt w g L f) (e : ∀ i, i < L → f i = f' i) : RowAt w g L f' := by unfold RowAt at *; rw [h, rowK_congr .u8 f f' L e]
set_option maxHeartbeats 4000000 in
theorem get_any {w : World} {db bm : Nat} {K : Dk} (h : DiskAt w db bm K) (x L : Nat) (h512 : L % 512 = 0) (hL : x * 512 + L ≤ K.count * 512) :
    Calls Try.prog 33 #[.pointer (some ⟨db, 0, none⟩), .int .u64 (x : Nat), .int .u64 (L : Nat)] w fun e w' => e = .returned (.slice (some ⟨w.heap.size, 0, none⟩) L L) ∧ RowAt w' w.heap.size L (fun i => K.M (x * 512 + i)) ∧ Below w.heap.size w w' := by
  obtain ⟨i0, hi, hz0, hz1, hz2⟩ := info_parts Try.info5
  have hc := h.2.2.cnt
  have H : Hid (DiskAt w db bm K) := h
  have hlt := h.lt
  clear h
  go_enter Try.func33, Try.ntmps33
  go_wp2_with (first | (at_make; refine wpList_make_full _ rfl _ _ 25 rfl w.heap.size 5 i0 (.int .u8 0) 1 Try.underlying25 hi hz0 hz1 _ _ _ _ L rfl rfl ?m1 ?m2 ?m3 ?m4 ?m5 ?_))
  case m1 => rfl
  case m2 => rfl
  case m3 => rw [hz2]; omega
  case m4 => unfold maxLen; omega
  case m5 => omega
  intro w1 hown0 hgrow0
  have hb0 : Below w.heap.size w w1 := Below.grown (Below.refl _ _) hgrow0 (Nat.le_refl _) (by simp)
  rw [toList_madeCells_one, rowK_zero] at hown0
  have hrow := whole_row hown0
  have hnew := hown0.lt w.heap.size rfl
  have X : Hid (RowAt w1 w.heap.size L (fun _ => 0) ∧ Below w.heap.size w w1) := ⟨hrow, hb0⟩
  clear hown0 hgrow0 hb0 hrow hnew
  go_wp2
  go_loopw [1, 8] (fun a d wr => ∃ j, 512 * j ≤ L ∧ a = .int .u64 ((x + j : Nat) : Int) ∧ ((L - 512 * j = 0 ∧ ∃ a c, d = .slice a 0 c) ∨ d = .slice (some ⟨w.heap.size, 512 * j, none⟩) (L - 512 * j) (L - 512 * j)) ∧ RowAt wr w.heap.size L (fun i => if i < 512 * j then K.M (x * 512 + i) else 0) ∧ Below w.heap.size w wr) (fun a _ _ => (x + 65537) - (intOf a).toNat)
  case atStart => exact ⟨0, Nat.zero_le _, rfl, .inr (by simp), by simpa using X.out.1, X.out.2⟩
  case round =>
    obtain ⟨j, hj, rfl, hd, hrw, hb⟩ := hrel
    clear X
    by_cases hlt2 : 512 * j < L
    · rcases hd with ⟨h0, _⟩ | rfl
      · omega
      obtain ⟨y, hy⟩ : ∃ y, x + j = y := ⟨_, rfl⟩
      obtain ⟨R, hR⟩ : ∃ R, L - 512 * j = R := ⟨_, rfl⟩
      obtain ⟨J, hJ⟩ : ∃ J, 512 * j = J := ⟨_, rfl⟩
      have hD := H.out.step hb
      have c2 := hD.c2
      have hlk : (Instr.lookup 58 (.map (some bm)) (.int .u64 (y : Nat)) false).run Try.prog wr = .ok (.agg (secRow (secF K.M y))) wr := by
        obtain ⟨D, ho, hp⟩ := hD.2.1
        exact sect_look ho hp y (by omega)
      have hy2 : y < 65536 := by omega
      have hR0 : 512 ≤ R ∧ R ≤ 33554432 ∧ J + 512 ≤ L ∧ J ≤ 33554432 := by omega
      rw [hy, hR, hJ]
      have hrw2 : RowAt wr w.heap.size L (fun i => if i < J then K.M (x * 512 + i) else 0) := by rw [← hJ]; exact hrw
      have X : Hid (RowAt wr w.heap.size L (fun i => if i < J then K.M (x * 512 + i) else 0) ∧ Below w.heap.size w wr ∧ x + j = y ∧ L - 512 * j = R ∧ 512 * j = J) := ⟨hrw2, hb, hy, hR, hJ⟩
      clear hrw hrw2 hb hy hR hJ hD
      go_upto_region 5 with fail
      refine wp_region_list ?_
      (refine wpList_step (fun KK hKK => ?_); go_simp; refine hKK _ _ ?_; clear hKK KK)
      (refine wpList_step (fun KK hKK => ?_); go_simp; refine hKK _ _ ?_; clear hKK KK)
      (refine wpList_step (fun KK hKK => ?_); go_simp; refine hKK _ _ ?_; clear hKK KK)
      (refine wpList_step (fun KK hKK => ?_); go_simp; refine hKK _ _ ?_; clear hKK KK)
      (refine wpList_step (fun KK hKK => ?_); go_simp; refine hKK _ _ ?_; clear hKK KK)
      refine wpList_look_run rfl _ _ 58 false rfl rfl rfl hlk ?_
      refine wpList_alloc63 rfl rfl ?_
      refine wpList_store63 rfl _ _ rfl wr.heap.size (secF K.M y) (secRow fun _ => 0) rfl rfl (Box.new 63 wr _) (by rw [secRow_size, secRow_size]) ?_
      intro w2 B2 U2
      have g2 : Below wr.heap.size wr w2 := (((Below.refl _ _).alloc (Nat.le_refl _) _ : Below wr.heap.size wr (wr.alloc (.cells (secRow fun _ => 0) 63)))).trans (U2.below (Nat.le_refl _) (by simp))
      have T1 : Hid (w2.heap[w.heap.size]? = some (.cells (rowK .u8 (fun i => if i < J then K.M (x * 512 + i) else 0) L).toArray 5 (0, 0))) := X.out.1.step g2
      have T2 : Hid (512 = Nat.min 512 R) := by show 512 = min 512 R; omega
      have T3 : Hid (∀ i v, (rowK .u8 (secF K.M y) 512)[i]? = some v → w2.cell? ((⟨wr.heap.size, 0, none⟩ : Addr).add i) = some v) := by
        intro i v hv
        obtain ⟨hi, rfl⟩ := rowK_at _ _ _ _ _ hv
        rw [addr_add, Nat.zero_add]
        exact B2.cell i _ (secRow_get _ _ hi)
      have T4 : Hid (J + 512 ≤ ((rowK .u8 (fun i => if i < J then K.M (x * 512 + i) else 0) L).toArray).size) := by show _ ≤ _; rw [List.size_toArray, rowK_length]; omega
      have Y : Hid (Below w.heap.size w w2) := X.out.2.1.trans (g2.mono X.out.2.1.size)
      clear g2 U2 B2
      go_upto_region 6 with fail
      refine wp_region_list ?_
      (refine wpList_step (fun KK hKK => ?_); go_simp; refine hKK _ _ ?_; clear hKK KK)
      (refine wpList_step (fun KK hKK => ?_); go_simp; refine hKK _ _ ?_; clear hKK KK)
      refine wpList_slice63 rfl _ rfl wr.heap.size rfl ?_
      refine wpList_copy_at rfl _ _ 25 25 rfl 5 Try.underlying25 size5 w.heap.size J R R ⟨wr.heap.size, 0, none⟩ 512 512 rfl rfl (rowK .u8 (fun i => if i < J then K.M (x * 512 + i) else 0) L).toArray 5 T1.out (rowK .u8 (secF K.M y) 512) 512 (rowK_length _ _ _) T2.out T3.out T4.out (rowK_one _ _ _) ?_
      intro w3 hw3
      have Z : Hid (RowAt w3 w.heap.size L (fun i => if i < J + 512 then K.M (x * 512 + i) else 0) ∧ Below w.heap.size w w3) := by
        have hU : Upon w.heap.size w2 w3 := by rw [hw3.out]; exact upon_row (Upon.refl _ _) _
        refine ⟨?_, Y.out.trans (hU.below (Nat.le_refl _) Y.out.size)⟩
        have hh := setRow_heap w2 w.heap.size _ (List.take J (rowK .u8 (fun i => if i < J then K.M (x * 512 + i) else 0) L).toArray.toList ++ (rowK .u8 (secF K.M y) 512 ++ List.drop (J + (rowK .u8 (secF K.M y) 512).length) (rowK .u8 (fun i => if i < J then K.M (x * 512 + i) else 0) L).toArray.toList)).toArray 5 _ T1.out
        rw [← hw3.out] at hh
        unfold RowAt
        rw [hh, rowK_length]
        show some (Obj.cells (List.take J (rowK .u8 (fun i => if i < J then K.M (x * 512 + i) else 0) L) ++ (rowK .u8 (secF K.M y) 512 ++ List.drop (J + 512) (rowK .u8 (fun i => if i < J then K.M (x * 512 + i) else 0) L))).toArray 5 (0, 0)) = _
        rw [row_copyN L _ _ J 512 (by omega), rowK_congr .u8 _ (fun i => if i < J + 512 then K.M (x * 512 + i) else 0) L]
        intro i hi
        have e1 := X.out.2.2.1
        have e2 := X.out.2.2.2.2
        by_cases h1 : i < J
        · rw [if_neg (by omega), if_pos h1, if_pos (by omega)]
        · by_cases h2 : i < J + 512
          · rw [if_pos (by omega), if_pos h2]; show K.M _ = K.M _; congr 1; omega
          · rw [if_neg (by omega), if_neg h1, if_neg h2]
      clear hw3 T1 T2 T3 T4 Y
      go_wp2
      obtain ⟨_, _, hy, hR, hJ⟩ := X.out
      have hcut := piece_cut (g := w.heap.size) (j := J) (L := L) (cap := L) (R := R) (C := R) (m := 512) (by omega) (by omega) hR0.1 (Nat.le_refl _)
      refine ⟨⟨j + 1, by omega, by rw [← hy]; go_num, ?_, ?_, Z.out.2⟩, by simp [intOf]; omega⟩
      · rw [show 512 * (j + 1) = J + 512 from by omega]
        exact hcut
      · rw [show 512 * (j + 1) = J + 512 from by omega]
        exact Z.out.1
    · have e : L - 512 * j = 0 := by omega
      have hfin : RowAt wr w.heap.size L (fun i => K.M (x * 512 + i)) := hrw.congr (fun i hi => by rw [if_pos (by omega)])
      rw [e] at hd
      rcases hd with ⟨_, a0, c0, rfl⟩ | rfl
      all_goals
        go_wp2
        go_ret
        exact ⟨rfl, hfin, hb⟩
end Go.Proofs.Ytkalaojbmedhjaa
