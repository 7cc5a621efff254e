/- The statements' small calls: over, small; the document's Bytes. -/
import Derived.Test.YtkalaojbmedhjaaDd
import Derived.Deep.Upon
namespace Go.Proofs.Ytkalaojbmedhjaa
open Go.RowKit Go.Maps
set_option linter.unusedVariables false
set_option linter.unusedSimpArgs false
set_option maxRecDepth 100000
theorem below_drewN (w : World) (q : Nat) : Below w.heap.size w (w.drewN q) := ⟨rfl, rfl, rfl, Nat.le_refl _, fun _ _ => rfl⟩
theorem wrap64_in {x : Int} (h1 : -9223372036854775808 ≤ x) (h2 : x ≤ 9223372036854775807) : wrap64 x = x := by unfold wrap64; omega
/-- a call as the statements have it -/
structure OpD where
  z : Int
  x : Nat
  n : Int
  a : Option Addr
  l : Nat
  c : Nat
def OpD.cells (o : OpD) : Array Value := #[.int .i64 o.z, .int .u64 (o.x : Nat), .int .i64 o.n, .slice o.a o.l o.c]
def smallB (n : Int) (l : Nat) : Bool := decide (0 ≤ n ∧ n ≤ 2048 ∧ l ≤ 512 ∧ n * (l : Int) ≤ 4096)
set_option maxHeartbeats 1000000 in
theorem small_any (o : OpD) (hl : o.l ≤ 9223372036854775807) (w : World) : Calls Try.prog 15 #[.agg o.cells] w fun e w' => e = .returned (.bool (smallB o.n o.l)) ∧ Below w.heap.size w w' := by
  obtain ⟨z, x, n, a, l, c⟩ := o
  have hB : Below w.heap.size w (w.alloc (.cells (OpD.cells ⟨z, x, n, a, l, c⟩) 39)) := (Below.refl _ _).alloc (Nat.le_refl _) _
  have X : Hid (Below w.heap.size w (w.alloc (.cells (OpD.cells ⟨z, x, n, a, l, c⟩) 39))) := hB
  clear hB
  have bx : Box 39 (w.alloc (.cells (OpD.cells ⟨z, x, n, a, l, c⟩) 39)) w.heap.size (OpD.cells ⟨z, x, n, a, l, c⟩) := Box.new 39 w _
  have c2 := bx.cell 2 (.int .i64 n) rfl
  have c3 := bx.cell 3 (.slice a l c) rfl
  clear bx
  simp only at hl
  show Calls Try.prog 15 _ w fun e w' => e = .returned (.bool (smallB n l)) ∧ _
  by_cases h1 : 0 ≤ n
  · by_cases h2 : n ≤ 2048
    · by_cases h3 : l ≤ 512
      · have hp : 0 ≤ n * (l : Int) ∧ n * (l : Int) ≤ 1048576 := by
          refine ⟨Int.mul_nonneg h1 (by omega), ?_⟩
          calc n * (l : Int) ≤ 2048 * 512 := Int.mul_le_mul h2 (by omega) (by omega) (by omega)
            _ = 1048576 := by decide
        have h3a : (l : Int) ≤ 512 := by omega
        have hw : wrap64 (n * (l : Int)) = n * (l : Int) := wrap64_in (by omega) (by omega)
        by_cases h4 : n * (l : Int) ≤ 4096
        · have HE : Hid (smallB n l = true) := by show smallB n l = true; simp only [smallB, decide_eq_true_eq]; exact ⟨h1, h2, h3, h4⟩
          go_enter Try.func15, Try.ntmps15
          go_upto_region 0 with fail
          refine wp_region_list ?_
          refine wpList_box_agg 39 _ _ rfl rfl rfl ?_
          generalize w.alloc (.cells (OpD.cells ⟨z, x, n, a, l, c⟩) 39) = W at *
          go_wp2
          go_ret
          exact ⟨by rw [HE.out]; rfl, X.out⟩
        · have HE : Hid (smallB n l = false) := by show smallB n l = false; simp only [smallB, decide_eq_false_iff_not]; omega
          have h4a : decide (n * (l : Int) ≤ 4096) = false := by simpa using h4
          go_enter Try.func15, Try.ntmps15
          go_upto_region 0 with fail
          refine wp_region_list ?_
          refine wpList_box_agg 39 _ _ rfl rfl rfl ?_
          generalize w.alloc (.cells (OpD.cells ⟨z, x, n, a, l, c⟩) 39) = W at *
          go_wp2
          go_ret
          exact ⟨by rw [HE.out]; rfl, X.out⟩
      · have HE : Hid (smallB n l = false) := by show smallB n l = false; simp only [smallB, decide_eq_false_iff_not]; omega
        have h3a : decide ((l : Int) ≤ 512) = false := by simp; omega
        have h3b : decide (l ≤ 512) = false := by simp; omega
        clear h3
        go_enter Try.func15, Try.ntmps15
        go_upto_region 0 with fail
        refine wp_region_list ?_
        refine wpList_box_agg 39 _ _ rfl rfl rfl ?_
        generalize w.alloc (.cells (OpD.cells ⟨z, x, n, a, l, c⟩) 39) = W at *
        go_wp2
        go_ret
        exact ⟨by rw [HE.out]; rfl, X.out⟩
    · have HE : Hid (smallB n l = false) := by show smallB n l = false; simp only [smallB, decide_eq_false_iff_not]; omega
      have h2a : decide (n ≤ 2048) = false := by simpa using h2
      clear h2
      go_enter Try.func15, Try.ntmps15
      go_upto_region 0 with fail
      refine wp_region_list ?_
      refine wpList_box_agg 39 _ _ rfl rfl rfl ?_
      generalize w.alloc (.cells (OpD.cells ⟨z, x, n, a, l, c⟩) 39) = W at *
      go_wp2
      go_ret
      exact ⟨by rw [HE.out]; rfl, X.out⟩
  · have HE : Hid (smallB n l = false) := by show smallB n l = false; simp only [smallB, decide_eq_false_iff_not]; omega
    have h1a : decide (0 ≤ n) = false := by simpa using h1
    clear h1
    go_enter Try.func15, Try.ntmps15
    go_upto_region 0 with fail
    refine wp_region_list ?_
    refine wpList_box_agg 39 _ _ rfl rfl rfl ?_
    generalize w.alloc (.cells (OpD.cells ⟨z, x, n, a, l, c⟩) 39) = W at *
    go_wp2
    go_ret
    exact ⟨by rw [HE.out]; rfl, X.out⟩
/-- bytes, over and over -/
def overF (f : Nat → Nat) (l i : Nat) : Nat := f (i % l)
theorem overF_le {f : Nat → Nat} (l : Nat) (h : ∀ i, f i ≤ 255) (i : Nat) : overF f l i ≤ 255 := h _
theorem overF_next (f : Nat → Nat) (l k : Nat) : rowK .u8 (overF f l) (k * l) ++ rowK .u8 f l = rowK .u8 (overF f l) ((k + 1) * l) := by
  apply List.ext_getElem?
  intro i
  have e2 : (k + 1) * l = k * l + l := by rw [Nat.add_mul, Nat.one_mul]
  by_cases h : i < k * l
  · rw [List.getElem?_append_left (by rw [rowK_length]; exact h), rowK_get _ _ _ _ h, rowK_get _ _ _ _ (by omega)]
  · rw [List.getElem?_append_right (by rw [rowK_length]; omega), rowK_length]
    by_cases h2 : i < (k + 1) * l
    · rw [rowK_get _ _ _ _ (by omega), rowK_get _ _ _ _ h2]
      unfold overF
      have e3 : i % l = i - k * l := by
        obtain ⟨d, rfl⟩ : ∃ d, i = k * l + d := ⟨i - k * l, by omega⟩
        rw [Nat.add_comm, Nat.add_mul_mod_self_right, Nat.mod_eq_of_lt (by omega)]
        omega
      rw [e3]
    · rw [List.getElem?_eq_none (by rw [rowK_length]; omega), List.getElem?_eq_none (by rw [rowK_length]; omega)]
/-- 'append(out, data...)' -/
theorem wpList_append_data {w : World} {ops : Array Oper} {rest : List Oper} {o : Oper} {a : Act} {Q : Exit → Act → World → Prop} (hgd : o.guard = none) (s x : Operand) (ho : o.op = .call { callee := .builtin .append, args := #[s, x], argTypes := #[25, 25] })
    (B n : Nat) (v : Value) (xs : List Value) (hs : a.eval s = v) (hown : w.ownsRow B 5 1 v n xs) (u : Value) (hx : a.eval x = u) (L : Nat) (f : Nat → Nat) (hr : Reads .u8 w u L f) (hL : n + L ≤ 1000000) (hB : B ≤ w.heap.size)
    (h : ∀ v' w', w'.ownsRow B 5 1 v' (n + L) (xs ++ rowK .u8 f L) → w.grownBy w' v.ownBlock → wpList Try.prog ops Q rest (a.put o.dst v') w') : wpList Try.prog ops Q (o :: rest) a w := by
  obtain ⟨i0, hi, hz0, hz1, hz2⟩ := info_parts Try.info5
  rcases hr with ⟨rfl, ax, c, rfl⟩ | ⟨b, off, c, rfl, hc⟩
  · refine wpList_plain hgd fun K hK => ?_
    obtain ⟨bs, cap, rfl, hle⟩ : ∃ bs cap, v = .slice bs n cap ∧ n ≤ cap := by
      rcases hown.2 with ⟨rfl, rfl⟩ | ⟨g, cap, cur, rfl, _, _, h1, _⟩
      · exact ⟨none, 0, rfl, Nat.le_refl _⟩
      · exact ⟨_, cap, rfl, h1⟩
    have hrun := run_append_nothing (P := Try.prog) w 25 25 o.type 5 i0 Try.underlying25 hi bs n cap hle (.slice ax 0 c) (by rw [hz1]; exact src_zero)
    unfold Oper.wp
    simp [execOp, ho, resolve, invoke, builtin, hs, hx, hrun, Result.andThen]
    exact hK _ _ (h _ w (by rw [rowK_nil, List.append_nil]; exact hown) (World.grownBy.refl _ _))
  · refine wpList_append_own w hgd s x 25 ho B 5 i0 (.int .u8 0) 1 1 Try.underlying25 hi hz0 hz1 hz2 rfl (by decide) v n xs hs hown ⟨b, off, none⟩ L c (rowK .u8 f L) hx (by rw [rowK_length]; omega) (fun j u hu => by obtain ⟨h1, rfl⟩ := rowK_at _ _ _ _ _ hu; rw [addr_add]; exact hc j h1) (rowK_one _ _ _) (by unfold maxLen; omega) (by omega) hB ?_
    intro v' w' hown' hgrow _
    exact h v' w' hown' hgrow
theorem owns_form {w : World} {B : Nat} {v : Value} {n : Nat} {xs : List Value} (h : w.ownsRow B 5 1 v n xs) : ∃ a c, v = .slice a n c := by
  rcases h.2 with ⟨rfl, rfl⟩ | ⟨g, cap, cur, rfl, _⟩
  · exact ⟨_, _, rfl⟩
  · exact ⟨_, _, rfl⟩
theorem owns_readsF {F : Nat → Prop} {w : World} {base : Nat} {v : Value} {n : Nat} {f : Nat → Nat} (h : w.ownsRow base 5 1 v n (rowK .u8 f n)) (hF : ∀ k, F k → k < base) : ReadsF F w v n f := by
  rcases h.2 with ⟨rfl, rfl⟩ | ⟨g, cap, cur, rfl, hb, _, h1, h2, _⟩
  · exact .inl ⟨rfl, _, _, by omega, rfl⟩
  · refine .inr ⟨g, 0, cap, rfl, fun hf => by have := hF g hf; omega, h1, by unfold maxLen at h2; omega, fun i hi => by rw [Nat.zero_add, h.cellAt i (by omega)]; exact rowK_get _ _ _ _ hi⟩
set_option maxHeartbeats 2000000 in
theorem over_any (z : Int) (x n : Nat) (a : Option Addr) (l c : Nat) (f : Nat → Nat) (w : World) (hr : Reads .u8 w (.slice a l c) l f) (hn : n ≤ 2048) (hl : l ≤ 512) (hnl : n * l ≤ 4096) :
    Calls Try.prog 18 #[.agg #[.int .i64 z, .int .u64 (x : Nat), .int .i64 (n : Nat), .slice a l c]] w fun e w' => ∃ v, e = .returned v ∧ w'.ownsRow w.heap.size 5 1 v (n * l) (rowK .u8 (overF f l) (n * l)) ∧ Below w.heap.size w w' := by
  have H : Hid (Reads .u8 w (.slice a l c) l f) := hr
  clear hr
  have b1 : Below w.heap.size w (w.alloc (.cells #[.int .i64 z, .int .u64 (x : Nat), .int .i64 (n : Nat), .slice a l c] 39)) := (Below.refl _ _).alloc (Nat.le_refl _) _
  have X : Hid (Box 39 (w.alloc (.cells #[.int .i64 z, .int .u64 (x : Nat), .int .i64 (n : Nat), .slice a l c] 39)) w.heap.size #[.int .i64 z, .int .u64 (x : Nat), .int .i64 (n : Nat), .slice a l c] ∧ Below w.heap.size w (w.alloc (.cells #[.int .i64 z, .int .u64 (x : Nat), .int .i64 (n : Nat), .slice a l c] 39))) := ⟨Box.new 39 w _, b1⟩
  clear b1
  go_enter Try.func18, Try.ntmps18
  go_upto_region 0 with fail
  refine wp_region_list ?_
  refine wpList_box_agg 39 _ _ rfl rfl rfl ?_
  generalize w.alloc (.cells #[.int .i64 z, .int .u64 (x : Nat), .int .i64 (n : Nat), .slice a l c] 39) = W at *
  go_wp2
  go_loopw [3, 4] (fun v i wr => ∃ k : Nat, k ≤ n ∧ i = .int .i64 k ∧ wr.ownsRow (w.heap.size + 1) 5 1 v (k * l) (rowK .u8 (overF f l) (k * l)) ∧ Box 39 wr w.heap.size #[.int .i64 z, .int .u64 (x : Nat), .int .i64 (n : Nat), .slice a l c] ∧ Below w.heap.size w wr) (fun _ i _ => n - (intOf i).toNat)
  case atStart => exact ⟨0, Nat.zero_le _, rfl, by rw [Nat.zero_mul, rowK_nil]; exact World.ownsRow_nil _ _ _ _, X.out.1, X.out.2⟩
  case round =>
    obtain ⟨k, hk, rfl, hown, hbx, hb⟩ := hrel
    obtain ⟨va, vc, hv⟩ := owns_form hown
    subst hv
    clear X
    have c2 := hbx.cell 2 (.int .i64 (n : Nat)) rfl
    have c3 := hbx.cell 3 (.slice a l c) rfl
    by_cases hlt : k < n
    · have hlt2 : (k : Int) < n := by omega
      have hkl : k * l + l ≤ 4096 := by
        have := Nat.mul_le_mul_right l (show k + 1 ≤ n from hlt)
        rw [Nat.add_mul, Nat.one_mul] at this
        omega
      have Y : Hid (wr.ownsRow (w.heap.size + 1) 5 1 (.slice va (k * l) vc) (k * l) (rowK .u8 (overF f l) (k * l)) ∧ Box 39 wr w.heap.size #[.int .i64 z, .int .u64 (x : Nat), .int .i64 (n : Nat), .slice a l c] ∧ Below w.heap.size w wr) := ⟨hown, hbx, hb⟩
      have hsz : w.heap.size + 1 ≤ wr.heap.size := hbx.lt
      clear hown hbx hb
      go_upto_region 5 with fail
      refine wp_region_list ?_
      (refine wpList_step (fun KK hKK => ?_); go_simp; refine hKK _ _ ?_; clear hKK KK)
      (refine wpList_step (fun KK hKK => ?_); go_simp; refine hKK _ _ ?_; clear hKK KK)
      (refine wpList_step (fun KK hKK => ?_); go_simp; refine hKK _ _ ?_; clear hKK KK)
      refine wpList_append_data rfl _ _ rfl (w.heap.size + 1) (k * l) (.slice va (k * l) vc) _ rfl Y.out.1 (.slice a l c) rfl l f (reads_below H.out Y.out.2.2) (by omega) hsz ?_
      intro v' w' hown' hgrow
      have hown2 : w'.ownsRow (w.heap.size + 1) 5 1 v' ((k + 1) * l) (rowK .u8 (overF f l) ((k + 1) * l)) := by rw [← overF_next, Nat.add_mul, Nat.one_mul]; exact hown'
      have hne : ∀ j, (Value.slice va (k * l) vc).ownBlock = some j → w.heap.size + 1 ≤ j := fun j hj => (Y.out.1.lt j hj).1
      have Z : Hid (w'.ownsRow (w.heap.size + 1) 5 1 v' ((k + 1) * l) (rowK .u8 (overF f l) ((k + 1) * l)) ∧ Box 39 w' w.heap.size #[.int .i64 z, .int .u64 (x : Nat), .int .i64 (n : Nat), .slice a l c] ∧ Below w.heap.size w w') := ⟨hown2, (hgrow.block _ Y.out.2.1.lt (fun e => by have := hne _ e.symm; omega)).trans Y.out.2.1, Y.out.2.2.trans ((Below.refl _ _).grown hgrow Y.out.2.2.size (fun j hj => by have := hne j hj; omega))⟩
      clear hown' hown2 hgrow hne Y
      go_wp2_with fail
      go_roundw
      case rel => exact ⟨k + 1, by omega, by go_num, Z.out.1, Z.out.2.1, Z.out.2.2⟩
      case measure => simp [intOf]; omega
    · obtain rfl : k = n := by omega
      go_wp2
      go_ret
      refine ⟨_, rfl, ?_, hb⟩
      obtain ⟨h1, h2⟩ := hown
      exact ⟨h1, h2.imp id (fun ⟨g, cap, cur, e1, e2, e3⟩ => ⟨g, cap, cur, e1, by omega, e3⟩)⟩
theorem bytes_eq (f g : Nat → Nat) (n : Nat) (v1 v2 : Value) (hn : n ≤ 1000000) (w : World) (r1 : Reads .u8 w v1 n f) (r2 : Reads .u8 w v2 n g) :
    Calls Try.prog 22 #[v1, v2] w fun e w' => ∃ r, e = .returned (.bool r) ∧ (r = true ↔ ∀ i, i < n → f i = g i) ∧ Below w.heap.size w w' := by
  obtain ⟨a1, c1, rfl⟩ := reads_form r1
  obtain ⟨a2, c2, rfl⟩ := reads_form r2
  by_cases h0 : n = 0
  · subst h0
    refine (bytes_same f 0 _ _ (by omega) w r1 (.inl ⟨rfl, _, _, rfl⟩)).mono ?_
    rintro e w' ⟨rfl, q, rfl⟩
    exact ⟨true, rfl, ⟨fun _ i hi => absurd hi (Nat.not_lt_zero _), fun _ => rfl⟩, below_drewN w q⟩
  · obtain ⟨b1, o1, c1', e1, hc1⟩ := reads_some r1 (by omega)
    obtain ⟨b2, o2, c2', e2, hc2⟩ := reads_some r2 (by omega)
    simp only [Value.slice.injEq] at e1 e2
    obtain ⟨rfl, -, rfl⟩ := e1
    obtain ⟨rfl, -, rfl⟩ := e2
    have H : Hid ((∀ i, i < n → w.cell? ⟨b1, o1 + i, none⟩ = some (.int .u8 (f i : Nat))) ∧ ∀ i, i < n → w.cell? ⟨b2, o2 + i, none⟩ = some (.int .u8 (g i : Nat))) := ⟨hc1, hc2⟩
    clear hc1 hc2 r1 r2
    go_enter Try.func22, Try.ntmps22
    go_wp2
    go_loopw [5] (fun i wr => ∃ k : Nat, k ≤ n ∧ i = .int .i64 k ∧ (∀ j, j < k → f j = g j) ∧ ∃ q, wr = w.drewN q) (fun i _ => n - (intOf i).toNat)
    case atStart => exact ⟨0, by omega, rfl, fun j hj => absurd hj (Nat.not_lt_zero _), 0, rfl⟩
    case round =>
      obtain ⟨k, hk, rfl, hall, q, rfl⟩ := hrel
      have HA : Hid (∀ j, j < k → f j = g j) := hall
      clear hall
      by_cases hlt : k < n
      · have h1 := H.out.1 k hlt
        have h2 := H.out.2 k hlt
        have hkL : (k : Int) < n := by omega
        by_cases he : f k = g k
        · have he2 : ((f k : Int) == (g k : Int)) = true := by simp; omega
          go_wp2
          go_quiet (fail)
          go_wp2
          go_roundw
          case rel => exact ⟨k + 1, by omega, by go_num, fun j hj => (by
            by_cases e : j = k
            · subst e; exact he
            · exact HA.out j (by omega)), _, rfl⟩
          case measure => simp [intOf]; omega
        · have he2 : ((f k : Int) == (g k : Int)) = false := by simp; omega
          have he3 : ¬ (f k : Int) = (g k : Int) := by omega
          go_wp2
          go_quiet (fail)
          go_wp2
          go_ret
          exact ⟨false, rfl, ⟨fun h => (by cases h), fun h => absurd (h k hlt) he⟩, ⟨rfl, rfl, rfl, Nat.le_refl _, fun _ _ => rfl⟩⟩
      · go_wp2
        go_ret
        exact ⟨true, rfl, ⟨fun _ i hi => HA.out i (by omega), fun _ => rfl⟩, below_drewN w q⟩
end Go.Proofs.Ytkalaojbmedhjaa
