/- The statement on whose the bytes are returns true for every input. -/
import Derived.Test.YtbodmgihoklhiaaAwake
import Derived.Deep.AppendSrc
namespace Go.Proofs.Ytbodmgihoklhiaa
open Go.RowKit Go.Maps
set_option linter.unusedVariables false
theorem bytes_same (f : Nat → Nat) (n : Nat) (v1 v2 : Value) (hn : n ≤ 1000000) (w : World) (r1 : Reads .u8 w v1 n f) (r2 : Reads .u8 w v2 n f) :
    Calls Try.prog 28 #[v1, v2] w fun e w' => e = .returned (.bool true) ∧ ∃ q, w' = w.drewN q := by
  obtain ⟨a1, c1, rfl⟩ := reads_form r1
  obtain ⟨a2, c2, rfl⟩ := reads_form r2
  by_cases h0 : n = 0
  · subst h0
    go_enter Try.func28, Try.ntmps28
    go_wp2
    go_loopw [5] (fun i wr => i = .int .i64 0 ∧ ∃ q, wr = w.drewN q) (fun _ _ => 0)
    case atStart => exact ⟨rfl, 0, rfl⟩
    case round =>
      obtain ⟨rfl, q, rfl⟩ := hrel
      go_wp2
      go_ret
      exact ⟨rfl, q, rfl⟩
  · obtain ⟨b1, o1, c1', e1, hc1⟩ := reads_some r1 (by omega)
    obtain ⟨b2, o2, c2', e2, hc2⟩ := reads_some r2 (by omega)
    simp only [Value.slice.injEq] at e1 e2
    obtain ⟨rfl, -, rfl⟩ := e1
    obtain ⟨rfl, -, rfl⟩ := e2
    go_enter Try.func28, Try.ntmps28
    go_wp2
    go_loopw [5] (fun i wr => ∃ k : Nat, k ≤ n ∧ i = .int .i64 k ∧ ∃ q, wr = w.drewN q) (fun i _ => n - (intOf i).toNat)
    case atStart => exact ⟨0, by omega, rfl, 0, rfl⟩
    case round =>
      obtain ⟨k, hk, rfl, q, rfl⟩ := hrel
      by_cases hlt : k < n
      · have h1 := hc1 k hlt
        have h2 := hc2 k hlt
        have hkL : (k : Int) < n := by omega
        clear hc1 hc2 r1 r2
        go_wp2
        go_quiet (fail)
        go_wp2
        go_roundw
        case rel => exact ⟨k + 1, by omega, by go_num, _, rfl⟩
        case measure => simp [intOf]; omega
      · clear hc1 hc2 r1 r2
        go_wp2
        go_ret
        exact ⟨rfl, q, rfl⟩
theorem src_zero {w : World} {x : Option Addr} {c : Nat} : Src Try.prog 1 40 (.slice x 0 c) 0 [] w := by
  cases x with
  | none => exact Src.ofNil w Try.underlying40 c
  | some a => exact Src.ofSlice w Try.underlying40 a 0 c [] rfl (by simp) (by simp)
theorem rowK_nil (k : IntKind) (f : Nat → Nat) : rowK k f 0 = [] := rfl
/-- 'append([]byte{}, data...)' -/
theorem wpList_append_all {w : World} {ops : Array Oper} {rest : List Oper} {o : Oper} {a : Act} {Q : Exit → Act → World → Prop} (hgd : o.guard = none) (s x : Operand) (ho : o.op = .call { callee := .builtin .append, args := #[s, x], argTypes := #[40, 40] })
    (B g : Nat) (hs : a.eval s = .slice (some ⟨g, 0, none⟩) 0 0) (hown : w.ownsRow B 5 1 (.slice (some ⟨g, 0, none⟩) 0 0) 0 []) (v : Value) (hx : a.eval x = v) (L : Nat) (f : Nat → Nat) (hr : Reads .u8 w v L f) (hL : L ≤ 100) (hB : B ≤ w.heap.size)
    (h : ∀ g' cap w', w'.ownsRow B 5 1 (.slice (some ⟨g', 0, none⟩) L cap) L (rowK .u8 f L) → Below B w w' → B ≤ g' → wpList Try.prog ops Q rest (a.put o.dst (.slice (some ⟨g', 0, none⟩) L cap)) w') : wpList Try.prog ops Q (o :: rest) a w := by
  obtain ⟨i0, hi, hz0, hz1, hz2⟩ := info_parts Try.info5
  have hg := (hown.lt g rfl).1
  rcases hr with ⟨rfl, ax, c, rfl⟩ | ⟨b, off, c, rfl, hc⟩
  · refine wpList_plain hgd fun K hK => ?_
    have hrun := run_append_room_src (P := Try.prog) w 40 40 o.type 5 i0 Try.underlying40 hi g 0 0 0 (.slice ax 0 c) 0 [] (by rw [hz1]; exact src_zero) (by omega) (by simp) (by simp)
    unfold Oper.wp
    simp [execOp, ho, resolve, invoke, builtin, hs, hx, hrun, Result.andThen]
    exact hK _ _ (h g 0 w (by rw [rowK_nil]; exact hown) (Below.refl _ _) hg)
  · refine wpList_append_own w hgd s x 40 ho B 5 i0 (.int .u8 0) 1 1 Try.underlying40 hi hz0 hz1 hz2 rfl (by decide) _ 0 [] hs hown ⟨b, off, none⟩ L c (rowK .u8 f L) hx (by rw [rowK_length]; omega) (fun j u hu => by obtain ⟨h1, rfl⟩ := rowK_at _ _ _ _ _ hu; rw [addr_add]; exact hc j h1) (rowK_one _ _ _) (by unfold maxLen; omega) (by omega) hB ?_
    intro v' w' hown' hgrow hnil
    rw [Nat.zero_add, List.nil_append] at hown'
    rcases hown'.2 with ⟨rfl, _⟩ | ⟨g', cap, cur, rfl, hb', _⟩
    · have := hnil.1 rfl; simp at this
    · exact h g' cap w' hown' (Below.grown (Below.refl _ _) hgrow hB (fun j hj => by cases hj; exact hg)) hb'
/-- L cells of a block hold bytes, and may be written -/
def Bytey (w : World) (g L : Nat) : Prop := ∀ i, i < L → ∃ z, w.cell? ⟨g, i, none⟩ = some (.int .u8 z) ∧ w.frozen? ⟨g, i, none⟩ = false
theorem bytey_row {w : World} {base g L cap : Nat} {f : Nat → Nat} (h : w.ownsRow base 5 1 (.slice (some ⟨g, 0, none⟩) L cap) L (rowK .u8 f L)) : Bytey w g L := fun i hi =>
  ⟨f i, by rw [h.cellAt i (by omega)]; exact rowK_get _ _ _ _ hi, h.frozenAt i⟩
theorem bytey_set {w : World} {g L k : Nat} {z : Int} (h : Bytey w g L) : Bytey (w.setCell ⟨g, k, none⟩ (.int .u8 z)) g L := fun i hi => by
  obtain ⟨y, h1, h2⟩ := h i hi
  rw [World.frozen?_setCell]
  by_cases e : i = k
  · subst e
    exact ⟨z, World.cell?_setCell_same _ _ _ h1, h2⟩
  · exact ⟨y, by rw [World.cell?_setCell_other _ _ _ _ (fun h => e (by cases h; rfl))]; exact h1, h2⟩
theorem step_setCell (w : World) (g k : Nat) (v : Value) : Step (fun x => x = g) w (fun x => x = g) (w.setCell ⟨g, k, none⟩ v) :=
  ⟨rfl, rfl, rfl, by simp [World.setCell], fun x hx hne => by simp only [World.setCell]; rw [Array.getElem?_modify, if_neg (fun e => hne e.symm)], fun _ h => .inl h, fun _ h => h⟩
theorem row_step {w w' : World} {base : Nat} {e : TypeId} {g n cap : Nat} {xs : List Value} {F F' : Nat → Prop} (h : w.ownsRow base e 1 (.slice (some ⟨g, 0, none⟩) n cap) n xs) (hs : Step F w F' w') (hg : ¬ F g) : w'.ownsRow base e 1 (.slice (some ⟨g, 0, none⟩) n cap) n xs := by
  refine ⟨h.1, ?_⟩
  rcases h.2 with ⟨h1, _⟩ | ⟨g', cap', cur, hv, hb, hgg, rest⟩
  · cases h1
  · cases hv
    exact .inr ⟨g, cap, cur, rfl, hb, (hs.block g (Array.getElem?_eq_some_iff.1 hgg).1 hg).trans hgg, rest⟩
theorem over_in (M : Nat → Nat) (x L : Nat) (f : Nat → Nat) (i : Nat) (hi : i < L) : over M x L f (x + i) = f i := by
  unfold over; rw [if_pos (by omega)]; congr 1; omega
theorem read_over {w : World} {F : Nat → Prop} {rb size n : Nat} {M f : Nat → Nat} {x L : Nat} (h : RamAt w F rb size n (.pointer none) (over M x L f)) (hs : size ≤ 268435456) (hx : x < 18446744073709551616) (hL : L < 18446744073709551616) (hin : inB x L 2147483648 size = true) :
    Calls Try.prog 21 #[.pointer (some ⟨rb, 0, none⟩), .int .u64 (x : Nat), .int .u64 (L : Nat)] w fun e w' => e = .returned (.tuple #[.slice (some ⟨w.heap.size, 0, none⟩) L L, .bool true]) ∧ w'.ownsRow w.heap.size 5 1 (.slice (some ⟨w.heap.size, 0, none⟩) L L) L (rowK .u8 f L) ∧ Below w.heap.size w w' :=
  (read_in h hs x L hx hL hin).mono fun e w' ⟨he, h1, h2⟩ => by
    rw [rowK_congr .u8 _ f L (fun i hi => over_in M x L f i hi)] at h1
    exact ⟨he, h1, h2⟩
set_option maxHeartbeats 2000000 in
theorem owns_core (W : World) (v : Value) (x L : Nat) (f : Nat → Nat) (hf : ∀ i, f i ≤ 255) (hr : Reads .u8 W v L f) (hx : x < 18446744073709551616) (hL : L ≤ 100) :
    Calls Try.prog 8 #[v, .int .u64 (x : Nat)] W fun e w' => e = .returned (.bool true) ∧ Below W.heap.size W w' := by
  obtain ⟨ad, cd, rfl⟩ := reads_form hr
  have hLi : (L : Int) ≤ 100 := by omega
  have HR : Hid (_ ∧ _) := ⟨hr, hf⟩
  clear hr hf
  cases hin : inB x L 2147483648 (4096 : Nat) with
  | false =>
    have H : Hid (inB x L 2147483648 (4096 : Nat) = false) := hin
    clear hin
    go_enter Try.func8, Try.ntmps8
    go_wp2_with (first | (go_at_call 9; refine (awake_any _).mono ?_; rintro e w1 ⟨rfl, hb1⟩) | (go_at_call 11; refine (new_4096 _).mono ?_; rintro e w2 ⟨rb, F, rfl, h2, hF, hb2⟩) | (at_builtin; refine wpList_append_all rfl _ _ rfl w2.heap.size w2.heap.size rfl (World.ownsRow_made w2 #[] 0 (Nat.le_refl _) (by unfold maxLen; omega) rfl) _ rfl L f (by exact reads_below HR.out.1 ((hb1.trans (hb2.mono hb1.size)).alloc (Nat.le_trans hb1.size hb2.size) _)) hL (by simp) ?_; intro g c w3 hown3 hb3 hg3) | (go_at_call 20; refine (write_any (n := 0) (h2.below (((Below.refl _ _).alloc (Nat.le_refl _) _).trans hb3)) (by omega) x L f _ hx (reads_ownF hown3 h2.lt) (fun i _ => HR.out.2 i) (by omega)).mono ?_; rintro e w4 ⟨rfl, F4, h4, hs4⟩; rw [H.out]))
    go_ret
    have hB : Below W.heap.size W w2 := hb1.trans (hb2.mono hb1.size)
    have hB3 : Below W.heap.size W w3 := hB.trans (((Below.refl _ _).alloc hB.size _).trans (hb3.mono hB.size))
    exact ⟨rfl, hB3.trans (hs4.below hB3.size (fun k hk => Nat.le_trans hb1.size (hF k hk)))⟩
  | true =>
    have H : Hid (inB x L 2147483648 (4096 : Nat) = true) := hin
    clear hin
    go_enter Try.func8, Try.ntmps8
    go_wp2_with (first | (go_at_call 9; refine (awake_any _).mono ?_; rintro e w1 ⟨rfl, hb1⟩) | (go_at_call 11; refine (new_4096 _).mono ?_; rintro e w2 ⟨rb, F, rfl, h2, hF, hb2⟩) | (at_builtin; refine wpList_append_all rfl _ _ rfl w2.heap.size w2.heap.size rfl (World.ownsRow_made w2 #[] 0 (Nat.le_refl _) (by unfold maxLen; omega) rfl) _ rfl L f (by exact reads_below HR.out.1 ((hb1.trans (hb2.mono hb1.size)).alloc (Nat.le_trans hb1.size hb2.size) _)) hL (by simp) ?_; intro g c w3 hown3 hb3 hg3) | (go_at_call 20; refine (write_any (n := 0) (h2.below (((Below.refl _ _).alloc (Nat.le_refl _) _).trans hb3)) (by omega) x L f _ hx (reads_ownF hown3 h2.lt) (fun i _ => HR.out.2 i) (by omega)).mono ?_; rintro e w4 ⟨rfl, F4, h4, hs4⟩; rw [H.out] at h4 ⊢; rw [if_pos rfl] at h4))
    have hB : Below W.heap.size W w2 := hb1.trans (hb2.mono hb1.size)
    have hB3 : Below W.heap.size W w3 := hB.trans (((Below.refl _ _).alloc hB.size _).trans (hb3.mono hB.size))
    have hFW : ∀ k, F k → W.heap.size ≤ k := fun k hk => Nat.le_trans hb1.size (hF k hk)
    have hB4 : Below W.heap.size W w4 := hB3.trans (hs4.below hB3.size hFW)
    have hgl := hown3.lt g rfl
    have hgF0 : ¬ F g := fun hf => by have := h2.lt g hf; omega
    have hgF : ¬ F4 g := fun hf => by rcases hs4.old g hf with h | h; exact hgF0 h; omega
    have hWg : W.heap.size ≤ g := Nat.le_trans hB.size hg3
    have hby := bytey_row (row_step hown3 hs4 hgF0)
    have X : Hid (_ ∧ _ ∧ _ ∧ _) := ⟨h4, hB4, hgF, hWg⟩
    clear h4 hB4 hgF hWg hgF0 hgl hFW hB3 hB hs4 hown3 hb3 hg3 h2 hb1 hb2 hF
    go_loopw [8] (fun i wr => ∃ k : Nat, k ≤ L ∧ i = .int .i64 k ∧ Bytey wr g L ∧ Step (fun x => x = g) w4 (fun x => x = g) wr) (fun i _ => L - (intOf i).toNat)
    case atStart => exact ⟨0, by omega, rfl, hby, Step.refl _ _⟩
    case round =>
      obtain ⟨k, hk, rfl, hby1, hst1⟩ := hrel
      clear hby
      by_cases hlt : k < L
      · obtain ⟨z, hz, hfz⟩ := hby1 k hlt
        have hkL : (k : Int) < L := by omega
        go_wp2
        go_roundw
        case rel => exact ⟨k + 1, by omega, by go_num, bytey_set hby1, hst1.trans (step_setCell _ _ _ _)⟩
        case measure => simp [intOf]; omega
      · obtain ⟨h4, hB4, hgF, hWg⟩ := X.out
        have h5 : RamAt wr F4 rb 4096 (0 + L) (.pointer none) (over (fun _ => 0) x L f) := h4.step hst1 (fun q hq e => hgF (e ▸ hq))
        have hB5 : Below W.heap.size W wr := hB4.trans (hst1.below hB4.size (fun q hq => by omega))
        clear h4 hB4 hgF hWg hst1 hby1
        have Y : Hid (_ ∧ _) := ⟨h5, hB5⟩
        clear h5 hB5
        go_wp2_with (first | (go_at_call 21; refine (read_over Y.out.1 (by omega) hx (by omega) H.out).mono ?_; rintro e w6 ⟨rfl, hown6, hb6⟩) | (go_at_call 28; refine (bytes_same f L _ _ (by omega) _ (by exact reads_own hown6) (by exact reads_below HR.out.1 (Y.out.2.trans (hb6.mono Y.out.2.size)))).mono ?_; rintro e w7 ⟨rfl, q7, rfl⟩))
        obtain ⟨h5, hB5⟩ := Y.out
        have hb6' : Below wr.heap.size wr (w6.drewN q7) := below_drewN hb6 q7
        have h7 : RamAt (w6.drewN q7) F4 rb 4096 (0 + L) (.pointer none) (over (fun _ => 0) x L f) := h5.below hb6'
        have hB7 : Below W.heap.size W (w6.drewN q7) := hB5.trans (hb6'.mono hB5.size)
        have hby7 : Bytey (w6.drewN q7) wr.heap.size L := bytey_row hown6
        have hnF : ∀ q, F4 q → q ≠ wr.heap.size := fun q hq e => by have := h5.lt q hq; omega
        have Z : Hid (_ ∧ _ ∧ _ ∧ _) := ⟨h7, hB7, hnF, hB5.size⟩
        clear h5 hB5 hb6' h7 hB7 hnF hown6 hb6
        go_loopw [11] (fun i w8 => ∃ k : Nat, k ≤ L ∧ i = .int .i64 k ∧ Bytey w8 wr.heap.size L ∧ Step (fun x => x = wr.heap.size) (w6.drewN q7) (fun x => x = wr.heap.size) w8) (fun i _ => L - (intOf i).toNat)
        case atStart => exact ⟨0, by omega, rfl, hby7, Step.refl _ _⟩
        case round =>
          obtain ⟨j, hj, rfl, hby8, hst8⟩ := hrel
          clear hby7
          by_cases hlt : j < L
          · obtain ⟨z, hz, hfz⟩ := hby8 j hlt
            have hkL : (j : Int) < L := by omega
            go_wp2
            go_roundw
            case rel => exact ⟨j + 1, by omega, by go_num, bytey_set hby8, hst8.trans (step_setCell _ _ _ _)⟩
            case measure => simp [intOf]; omega
          · obtain ⟨h7, hB7, hnF, hsz⟩ := Z.out
            have h9 : RamAt wr F4 rb 4096 (0 + L) (.pointer none) (over (fun _ => 0) x L f) := h7.step hst8 hnF
            have hB9 : Below W.heap.size W wr := hB7.trans (hst8.below hB7.size (fun q hq => by subst hq; exact hsz))
            clear h7 hB7 hnF hsz hst8 hby8 Z
            have V : Hid (_ ∧ _) := ⟨h9, hB9⟩
            clear h9 hB9
            go_wp2_with (first | (go_at_call 21; refine (read_over V.out.1 (by omega) hx (by omega) H.out).mono ?_; rintro e w10 ⟨rfl, hown10, hb10⟩) | (go_at_call 28; refine (bytes_same f L _ _ (by omega) _ (by exact reads_own hown10) (by exact reads_below HR.out.1 (V.out.2.trans (hb10.mono V.out.2.size)))).mono ?_; rintro e w11 ⟨rfl, q11, rfl⟩))
            go_ret
            exact ⟨rfl, below_drewN (V.out.2.trans (hb10.mono V.out.2.size)) q11⟩
theorem owns_long (W : World) (a : Option Addr) (len cap : Nat) (x : Value) (hL : 100 < len) (hm : len ≤ 9223372036854775807) :
    Calls Try.prog 8 #[.slice a len cap, x] W fun e w' => e = .returned (.bool true) ∧ Below W.heap.size W w' := by
  have hLi : (100 : Int) < len := by omega
  go_enter Try.func8, Try.ntmps8
  go_wp2_with (first | (go_at_call 9; refine (awake_any _).mono ?_; rintro e w1 ⟨rfl, hb1⟩) | (go_at_call 11; refine (new_4096 _).mono ?_; rintro e w2 ⟨rb, F, rfl, h2, hF, hb2⟩))
  go_ret
  exact ⟨rfl, hb1.trans (hb2.mono hb1.size)⟩
theorem owns_walk (W : World) (a0 : Option Addr) (len0 cap0 : Nat) (z0 : List Int) (w0 : IsRow .u8 W a0 len0 cap0 z0) (a1 : Int) (w1 : (Lit.int .u64 a1).wf = true) :
    Calls Try.prog 8 #[.slice a0 len0 cap0, .int .u64 a1] W fun e w' => e = .returned (.bool true) ∧ Below W.heap.size W w' := by
  have hm : len0 ≤ 9223372036854775807 := by
    rcases w0 with ⟨_, rfl, _⟩ | ⟨_, _, h1, h2, _⟩
    · omega
    · unfold maxLen at h2; omega
  by_cases h : 100 < len0
  · exact owns_long W a0 len0 cap0 _ h hm
  · have b1 := bounds_u64 w1
    obtain ⟨x, rfl⟩ : ∃ x : Nat, a1 = x := ⟨a1.toNat, by omega⟩
    obtain ⟨f, hf, hr⟩ := isRow_reads w0
    exact owns_core W _ x len0 f hf hr (by omega) (by omega)
end Go.Proofs.Ytbodmgihoklhiaa
