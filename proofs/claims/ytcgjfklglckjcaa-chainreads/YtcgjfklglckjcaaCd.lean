/- A segment more. -/
import Derived.Test.YtcgjfklglckjcaaCc
namespace Go.Proofs.Ytcgjfklglckjcaa
open Go.RowKit Go.Maps
set_option linter.unusedVariables false
set_option linter.unusedSimpArgs false
set_option maxRecDepth 100000
def Tw (da dl df dx : Nat) (w V : World) (q : Nat) : Prop := V.heap[q]? = some (.cells #[.int .u64 (da : Int), .int .u32 (dl : Int), .int .u16 (df : Int), .int .u16 (dx : Int)] 92 (0, 0)) ∧ q < V.heap.size ∧ Below w.heap.size w V
def Tw2 (da dl df dx : Nat) (w V : World) (q p : Nat) (c : Array Value) : Prop := V.heap[q]? = some (.cells #[.int .u64 (da : Int), .int .u32 (dl : Int), .int .u16 (df : Int), .int .u16 (dx : Int)] 92 (0, 0)) ∧ V.heap[p]? = some (.cells c 52 (0, 0)) ∧ q ≠ p ∧ w.heap.size ≤ p ∧ Below w.heap.size w V
section
variable {da dl df dx q p : Nat} {w V V' : World} {c : Array Value}
theorem Tw.below (h : Tw da dl df dx w V q) (hb : Below V.heap.size V V') : Tw da dl df dx w V' q := ⟨below_box h.1 hb, Nat.lt_of_lt_of_le h.2.1 hb.size, below_to h.2.2 hb⟩
theorem Tw2.below (h : Tw2 da dl df dx w V q p c) (hb : Below V.heap.size V V') : Tw2 da dl df dx w V' q p c := ⟨below_box h.1 hb, below_box h.2.1 hb, h.2.2.1, h.2.2.2.1, below_to h.2.2.2.2 hb⟩
theorem Tw.alloc (h : Tw da dl df dx w V q) (c : Array Value) : Tw2 da dl df dx w (V.alloc (.cells c 52)) q V.heap.size c := by
  have hb : Below V.heap.size V (V.alloc (.cells c 52)) := (Below.refl _ _).alloc (Nat.le_refl _) _
  exact ⟨below_box h.1 hb, heap_alloc_new _ _, Nat.ne_of_lt h.2.1, h.2.2.size, below_to h.2.2 hb⟩
theorem Tw2.set (h : Tw2 da dl df dx w V q p c) (c' : Array Value) : Tw2 da dl df dx w (V.setRow p c') q p c' := ⟨(setRow_other _ _ _ _ h.2.2.1).trans h.1, setRow_heap _ _ _ _ _ _ h.2.1, h.2.2.1, h.2.2.2.1, below_setRow h.2.2.2.2 h.2.2.2.1 _⟩
end
set_option maxHeartbeats 2000000 in
theorem seg_any {rb wb : Nat} {M : Nat → Nat} {Inv : (Nat → Prop) → World → Prop} {O F : Nat → Prop} {w : World} {l : List Seg} (m : Wm rb M Inv) (h : Wd Inv O F w rb wb l) (da dl df dx : Nat) (hd : (De.mk da dl df dx).Ok) (hl : l.length ≤ 1000) :
    Calls Try.prog 59 #[.pointer (some ⟨wb, 0, none⟩), .agg #[.int .u64 (da : Int), .int .u32 (dl : Int), .int .u16 (df : Int), .int .u16 (dx : Int)]] w fun e w' => e = .returned (.int .i64 (addE l ⟨da, dl, df, dx⟩ : Int)) ∧ Wd Inv O F w' rb wb (if addE l ⟨da, dl, df, dx⟩ = 0 then l ++ [⟨da, dl, fl df 2⟩] else l) ∧ Fly O F w F w' := by
  obtain ⟨i0, hi, hz0, hz1, hz2⟩ := info_parts Try.info52s
  have hf : df ≤ 65535 := hd.f
  have hwr : IntKind.u64.wrap (dl : Int) = (dl : Int) := by have := hd.l; rw [wrap_u64]; simp at this; omega
  obtain ⟨sb, hsb⟩ : ∃ sb, fl df 2 = sb := ⟨_, rfl⟩
  have HH : Hid (∀ V, Below w.heap.size w V → Calls Try.prog 55 #[.pointer (some ⟨rb, 0, none⟩), .int .u64 (da : Int), .int .u64 (dl : Int)] V fun e w' => e = .returned (.bool (inB da dl 2147483648 8192)) ∧ w' = V) := by
    intro V hV
    obtain ⟨G, n, lg, hr⟩ := m.ram F V (m.below h.1 hV)
    exact has_any hr (by omega) da dl hd.a (by have := hd.l; simp at this; omega)
  have X0 : Hid (Tw da dl df dx w (w.alloc (.cells #[.int .u64 (da : Int), .int .u32 (dl : Int), .int .u16 (df : Int), .int .u16 (dx : Int)] 92)) w.heap.size) := ⟨heap_alloc_new _ _, by simp, (Below.refl _ _).alloc (Nat.le_refl _) _⟩
  have HW : Hid (Wd Inv O F w rb wb l) := h
  obtain ⟨a, c, hwb, hseg, hne⟩ := h.boxes
  have HA : Hid (w.heap[wb]? = some (.cells #[.pointer (some ⟨rb, 0, none⟩), .slice a l.length c] 88 (0, 0)) ∧ SegIn 0 w (.slice a l.length c) l ∧ ∀ g, (Value.slice a l.length c).ownBlock = some g → g ≠ wb ∧ ¬ F g ∧ ¬ O g) := ⟨hwb, hseg, hne⟩
  clear hwb hseg hne
  clear h hd
  go_enter Try.func59, Try.ntmps59
  go_upto_region 1 with fail
  generalize w.alloc (.cells #[.int .u64 (da : Int), .int .u32 (dl : Int), .int .u16 (df : Int), .int .u16 (dx : Int)] 92) = v0 at *
  go_cut [5] (fun x wx => ∃ p : Nat, x = .pointer (some ⟨p, 0, none⟩) ∧ Tw2 da dl df dx w wx w.heap.size p #[.int .u64 (da : Int), .int .u64 (dl : Int), .bool sb])
  case first =>
    have Xd : Hid (Tw da dl df dx w v0.drew w.heap.size) := X0.out.below (Below.refl _ _).drew
    refine wp_region_held_drew (S := fun V => V.cell? ⟨w.heap.size, 0, none⟩ = some (.int .u64 (da : Int)) ∧ V.cell? ⟨w.heap.size, 1, none⟩ = some (.int .u32 (dl : Int)) ∧ V.cell? ⟨w.heap.size, 2, none⟩ = some (.int .u16 (df : Int)) ∧ V.cell? ⟨w.heap.size, 3, none⟩ = some (.int .u16 (dx : Int))) (by kernel_rfl) ⟨cellOf Xd.out.1 0 _ rfl, cellOf Xd.out.1 1 _ rfl, cellOf Xd.out.1 2 _ rfl, cellOf Xd.out.1 3 _ rfl⟩ ?_
    intro hS
    generalize v0.drew = wd at *
    clear X0
    refine wpAnyH_take (i := 0) (v := ?_) rfl (by kernel_rfl) (by kernel_rfl) (by kernel_rfl) (fun _ _ _ h => h) (Or.inl ⟨by kernel_rfl, ?_⟩) hS ?_
    rotate_left
    · intro w hSw; (try dsimp only at hSw); go_simp; try (with_reducible rfl)
    (try simp only [Act.put, List.getElem_toArray, List.getElem_cons_succ, List.getElem_cons_zero, List.setIfInBounds_toArray, List.set_cons_zero, List.set_cons_succ])
    refine wpAnyH_take (i := 1) (v := ?_) rfl (by kernel_rfl) (by kernel_rfl) (by kernel_rfl) (fun _ _ _ h => h) (Or.inl ⟨by kernel_rfl, ?_⟩) hS ?_
    rotate_left
    · intro w hSw; (try dsimp only at hSw); go_simp; try (with_reducible rfl)
    (try simp only [Act.put, List.getElem_toArray, List.getElem_cons_succ, List.getElem_cons_zero, List.setIfInBounds_toArray, List.set_cons_zero, List.set_cons_succ])
    refine wpAnyH_take (i := 2) (v := ?_) rfl (by kernel_rfl) (by kernel_rfl) (by kernel_rfl) (fun _ _ _ h => h) (Or.inl ⟨by kernel_rfl, ?_⟩) hS ?_
    rotate_left
    · intro w hSw; (try dsimp only at hSw); go_simp; try (with_reducible rfl)
    (try simp only [Act.put, List.getElem_toArray, List.getElem_cons_succ, List.getElem_cons_zero, List.setIfInBounds_toArray, List.set_cons_zero, List.set_cons_succ])
    refine wpAnyH_take (i := 3) (v := ?_) rfl (by kernel_rfl) (by kernel_rfl) (by kernel_rfl) (fun _ _ _ h => h) (Or.inl ⟨by kernel_rfl, ?_⟩) hS ?_
    rotate_left
    · intro w hSw; (try dsimp only at hSw); go_simp; try (with_reducible rfl)
    (try simp only [Act.put, List.getElem_toArray, List.getElem_cons_succ, List.getElem_cons_zero, List.setIfInBounds_toArray, List.set_cons_zero, List.set_cons_succ])
    refine wpAnyH_take (i := 4) (v := ?_) rfl (by kernel_rfl) (by kernel_rfl) (by kernel_rfl) (fun _ _ _ h => h) (Or.inl ⟨by kernel_rfl, ?_⟩) hS ?_
    rotate_left
    · intro w hSw; (try dsimp only at hSw); go_simp; try (with_reducible rfl)
    (try simp only [Act.put, List.getElem_toArray, List.getElem_cons_succ, List.getElem_cons_zero, List.setIfInBounds_toArray, List.set_cons_zero, List.set_cons_succ])
    refine wpAnyH_take (i := 5) (v := ?_) rfl (by kernel_rfl) (by kernel_rfl) (by kernel_rfl) (fun _ _ _ h => h) (Or.inl ⟨by kernel_rfl, ?_⟩) hS ?_
    rotate_left
    · intro w hSw; (try dsimp only at hSw); go_simp; try (with_reducible rfl)
    (try simp only [Act.put, List.getElem_toArray, List.getElem_cons_succ, List.getElem_cons_zero, List.setIfInBounds_toArray, List.set_cons_zero, List.set_cons_succ])
    refine wpAnyH_ready (rs := [6, 8]) (by kernel_rfl) (by simp) ?_
    refine AllReadyH.cons rfl (fun K1 hK1 => ?_) (AllReadyH.cons rfl (fun K1 hK1 => ?_) AllReadyH.nil)
    · have _hm : True := trivial
      go_simp
      refine (hasf2 da dl df dx hf _).mono ?_
      rintro e w2 ⟨rfl, hb⟩
      rw [hsb]
      have X2 : Hid (Tw da dl df dx w w2 w.heap.size) := Xd.out.below hb
      clear hb Xd
      refine hK1.out _ _ ⟨cellOf X2.out.1 0 _ rfl, cellOf X2.out.1 1 _ rfl, cellOf X2.out.1 2 _ rfl, cellOf X2.out.1 3 _ rfl⟩ (fun h2 => ?_)
      clear hK1 K1 hS
      (try simp only [Act.put, List.getElem_toArray, List.getElem_cons_succ, List.getElem_cons_zero, List.setIfInBounds_toArray, List.set_cons_zero, List.set_cons_succ])
      refine wpAnyH_take (i := 7) (v := ?_) rfl (by kernel_rfl) (by kernel_rfl) (by kernel_rfl) (fun _ _ _ h => h) (Or.inl ⟨by kernel_rfl, ?_⟩) h2 ?_
      rotate_left
      · intro w hSw; (try dsimp only at hSw); go_simp; try (with_reducible rfl)
      (try simp only [Act.put, List.getElem_toArray, List.getElem_cons_succ, List.getElem_cons_zero, List.setIfInBounds_toArray, List.set_cons_zero, List.set_cons_succ])
      refine wpAnyH_ready (rs := [8]) (by kernel_rfl) (by simp) ?_
      refine AllReadyH.cons rfl (fun K1 hK1 => ?_) AllReadyH.nil
      go_simp
      have X3 : Hid (Tw2 da dl df dx w (w2.alloc (.cells #[.int .u64 0, .int .u64 0, .bool false] 52)) w.heap.size w2.heap.size #[.int .u64 0, .int .u64 0, .bool false]) := X2.out.alloc _
      clear X2
      generalize w2.alloc (.cells #[.int .u64 0, .int .u64 0, .bool false] 52) = w3 at *
      generalize w2.heap.size = p at *
      refine hK1.out _ _ ⟨cellOf X3.out.1 0 _ rfl, cellOf X3.out.1 1 _ rfl, cellOf X3.out.1 2 _ rfl, cellOf X3.out.1 3 _ rfl⟩ (fun h3 => ?_)
      clear hK1 K1 h2
      (try simp only [Act.put, List.getElem_toArray, List.getElem_cons_succ, List.getElem_cons_zero, List.setIfInBounds_toArray, List.set_cons_zero, List.set_cons_succ])
      refine wpAnyH_ready (rs := [9]) (by kernel_rfl) (by simp) ?_
      refine AllReadyH.cons rfl (fun K1 hK1 => ?_) AllReadyH.nil
      rw [if_pos (by kernel_rfl)]
      refine wp_store_row 52 _ _ rfl p #[.int .u64 (da : Int), .int .u64 (dl : Int), .bool sb] rfl rfl 52 #[.int .u64 0, .int .u64 0, .bool false] X3.out.2.1 info52 rfl (by simp [Value.oneCell']) ?_
      have Y : Hid (Tw2 da dl df dx w (w3.setRow p #[.int .u64 (da : Int), .int .u64 (dl : Int), .bool sb]) w.heap.size p #[.int .u64 (da : Int), .int .u64 (dl : Int), .bool sb]) := X3.out.set _
      clear X3
      generalize w3.setRow p #[.int .u64 (da : Int), .int .u64 (dl : Int), .bool sb] = w9 at *
      refine hK1.out _ _ ⟨cellOf Y.out.1 0 _ rfl, cellOf Y.out.1 1 _ rfl, cellOf Y.out.1 2 _ rfl, cellOf Y.out.1 3 _ rfl⟩ (fun h9 => ?_)
      clear hK1 K1 h3
      (try simp only [Act.put, List.getElem_toArray, List.getElem_cons_succ, List.getElem_cons_zero, List.setIfInBounds_toArray, List.set_cons_zero, List.set_cons_succ])
      refine wpAnyH_done (by kernel_rfl) ?_ _
      go_wp2_with fail
      go_meet
      exact ⟨p, rfl, Y.out⟩

    · have _hm : True := trivial
      go_simp
      have X2 : Hid (Tw2 da dl df dx w (wd.alloc (.cells #[.int .u64 0, .int .u64 0, .bool false] 52)) w.heap.size wd.heap.size #[.int .u64 0, .int .u64 0, .bool false]) := Xd.out.alloc _
      clear Xd
      generalize wd.alloc (.cells #[.int .u64 0, .int .u64 0, .bool false] 52) = w2 at *
      generalize wd.heap.size = p at *
      refine hK1.out _ _ ⟨cellOf X2.out.1 0 _ rfl, cellOf X2.out.1 1 _ rfl, cellOf X2.out.1 2 _ rfl, cellOf X2.out.1 3 _ rfl⟩ (fun h2 => ?_)
      clear hK1 K1 hS
      (try simp only [Act.put, List.getElem_toArray, List.getElem_cons_succ, List.getElem_cons_zero, List.setIfInBounds_toArray, List.set_cons_zero, List.set_cons_succ])
      refine wpAnyH_ready (rs := [6]) (by kernel_rfl) (by simp) ?_
      refine AllReadyH.cons rfl (fun K1 hK1 => ?_) AllReadyH.nil
      go_simp
      refine (hasf2 da dl df dx hf _).mono ?_
      rintro e w3 ⟨rfl, hb⟩
      rw [hsb]
      have X3 : Hid (Tw2 da dl df dx w w3 w.heap.size p #[.int .u64 0, .int .u64 0, .bool false]) := X2.out.below hb
      clear hb X2
      refine hK1.out _ _ ⟨cellOf X3.out.1 0 _ rfl, cellOf X3.out.1 1 _ rfl, cellOf X3.out.1 2 _ rfl, cellOf X3.out.1 3 _ rfl⟩ (fun h3 => ?_)
      clear hK1 K1 h2
      (try simp only [Act.put, List.getElem_toArray, List.getElem_cons_succ, List.getElem_cons_zero, List.setIfInBounds_toArray, List.set_cons_zero, List.set_cons_succ])
      refine wpAnyH_take (i := 7) (v := ?_) rfl (by kernel_rfl) (by kernel_rfl) (by kernel_rfl) (fun _ _ _ h => h) (Or.inl ⟨by kernel_rfl, ?_⟩) h3 ?_
      rotate_left
      · intro w hSw; (try dsimp only at hSw); go_simp; try (with_reducible rfl)
      (try simp only [Act.put, List.getElem_toArray, List.getElem_cons_succ, List.getElem_cons_zero, List.setIfInBounds_toArray, List.set_cons_zero, List.set_cons_succ])
      refine wpAnyH_ready (rs := [9]) (by kernel_rfl) (by simp) ?_
      refine AllReadyH.cons rfl (fun K1 hK1 => ?_) AllReadyH.nil
      rw [if_pos (by kernel_rfl)]
      refine wp_store_row 52 _ _ rfl p #[.int .u64 (da : Int), .int .u64 (dl : Int), .bool sb] rfl rfl 52 #[.int .u64 0, .int .u64 0, .bool false] X3.out.2.1 info52 rfl (by simp [Value.oneCell']) ?_
      have Y : Hid (Tw2 da dl df dx w (w3.setRow p #[.int .u64 (da : Int), .int .u64 (dl : Int), .bool sb]) w.heap.size p #[.int .u64 (da : Int), .int .u64 (dl : Int), .bool sb]) := X3.out.set _
      clear X3
      generalize w3.setRow p #[.int .u64 (da : Int), .int .u64 (dl : Int), .bool sb] = w9 at *
      refine hK1.out _ _ ⟨cellOf Y.out.1 0 _ rfl, cellOf Y.out.1 1 _ rfl, cellOf Y.out.1 2 _ rfl, cellOf Y.out.1 3 _ rfl⟩ (fun h9 => ?_)
      clear hK1 K1 h3
      (try simp only [Act.put, List.getElem_toArray, List.getElem_cons_succ, List.getElem_cons_zero, List.setIfInBounds_toArray, List.set_cons_zero, List.set_cons_succ])
      refine wpAnyH_done (by kernel_rfl) ?_ _
      go_wp2_with fail
      go_meet
      exact ⟨p, rfl, Y.out⟩

  case rest =>
  obtain ⟨p, rfl, ht⟩ := hcut
  have X1 : Hid (Tw2 da dl df dx w wc w.heap.size p #[.int .u64 (da : Int), .int .u64 (dl : Int), .bool sb]) := ht
  clear ht
  go_upto_region 2 with fail
  have Xd : Hid (Tw2 da dl df dx w wc.drew w.heap.size p #[.int .u64 (da : Int), .int .u64 (dl : Int), .bool sb]) := X1.out.below (Below.refl _ _).drew
  have W1 : Hid (Wd Inv O F wc.drew rb wb l) := HW.out.below m Xd.out.2.2.2.2
  have HB : Hid (wc.drew.heap[wb]? = some (.cells #[.pointer (some ⟨rb, 0, none⟩), .slice a l.length c] 88 (0, 0)) ∧ SegIn 0 wc.drew (.slice a l.length c) l) := ⟨below_box HA.out.1 Xd.out.2.2.2.2, HA.out.2.1.kept (fun g hg => Xd.out.2.2.2.2.block g (HA.out.2.1.lt g hg).2)⟩
  have HP : Hid (∀ g, (Value.slice a l.length c).ownBlock = some g → g ≠ wb ∧ g ≠ p) := fun g hg => ⟨(HA.out.2.2 g hg).1, fun e => by have := (HA.out.2.1.lt g hg).2; have := Xd.out.2.2.2.1; omega⟩
  clear X0 X1 HA
  obtain ⟨n, hn⟩ : ∃ n, l.length = n := ⟨_, rfl⟩
  rw [hn] at HB HP
  have HPW : Hid (p ≠ wb) := fun e => by have := HW.out.lt; have := Xd.out.2.2.2.1; omega
  have hS5 : (fun Z : World => Z.cell? ⟨wb, 0, none⟩ = some (.pointer (some ⟨rb, 0, none⟩)) ∧ Z.cell? ⟨wb, 1, none⟩ = some (.slice a n c) ∧ Z.cell? ⟨p, 0, none⟩ = some (.int .u64 (da : Int)) ∧ Z.cell? ⟨p, 1, none⟩ = some (.int .u64 (dl : Int)) ∧ Z.cell? ⟨p, 2, none⟩ = some (.bool sb)) wc.drew := ⟨cellOf HB.out.1 0 _ rfl, cellOf HB.out.1 1 _ rfl, cellOf Xd.out.2.1 0 _ rfl, cellOf Xd.out.2.1 1 _ rfl, cellOf Xd.out.2.1 2 _ rfl⟩
  obtain ⟨ib, hin⟩ : ∃ ib, inB da dl 2147483648 8192 = ib := ⟨_, rfl⟩
  have HI : Hid (inB da dl 2147483648 8192 = ib) := hin
  have HN : Hid (l.length = n ∧ l.length ≤ 1000) := ⟨hn, hl⟩
  have hn2 : n ≤ 1000 := by omega
  clear hin hn hl
  go_region_held3 (fun Z => Z.cell? ⟨wb, 0, none⟩ = some (.pointer (some ⟨rb, 0, none⟩)) ∧ Z.cell? ⟨wb, 1, none⟩ = some (.slice a n c) ∧ Z.cell? ⟨p, 0, none⟩ = some (.int .u64 (da : Int)) ∧ Z.cell? ⟨p, 1, none⟩ = some (.int .u64 (dl : Int)) ∧ Z.cell? ⟨p, 2, none⟩ = some (.bool sb)) (go_keep) (first | (go_at_call 55; refine (HH.out _ Xd.out.2.2.2.2).mono ?_; rintro e w2 ⟨rfl, hw⟩; rw [hw]; clear hw w2; rw [HI.out]))
  generalize wc.drew = V at *
  cases ib with
  | false =>
    have he : addE l ⟨da, dl, df, dx⟩ = 21 := by simp [addE, HI.out]
    go_wp2_with fail
    go_ret
    exact ⟨rfl, W1.out, Fly.of_below Xd.out.2.2.2.2 HW.out.old⟩
  | true =>
    obtain ⟨lb, hlb⟩ : ∃ lb, (lastW l && !sb) = lb := ⟨_, rfl⟩
    have HL : Hid ((lastW l && !sb) = lb) := hlb
    clear hlb
    go_upto_region 5 with fail
    go_cut [47] (fun x wx => x = .bool lb ∧ wx = V)
    case first =>
      by_cases h0 : n = 0
      · have e1 : decide ((0 : Int) < n) = false := by simp [h0]
        have e2 : decide (0 < n) = false := by simp [h0]
        have e3 : ¬ (0 : Int) < n := by omega
        have el : lb = false := by
          have : l = [] := List.length_eq_zero_iff.1 (HN.out.1.trans h0)
          rw [← HL.out, this]; rfl
        subst el
        clear h0
        go_wp2_with fail
        go_meet
        exact ⟨rfl, rfl⟩
      · obtain ⟨k, hk⟩ : ∃ k, n = k + 1 := ⟨n - 1, by omega⟩
        have hkl : k < l.length := by have := HN.out.1; omega
        have hb2 := HB.out.2
        rw [← HN.out.1] at hb2
        obtain ⟨g, c', hsl, hcl⟩ := hb2.cells (by omega)
        simp only [Value.slice.injEq, true_and] at hsl
        obtain ⟨rfl, rfl⟩ := hsl
        have hlast := (hcl k hkl).2.2
        rw [← lastW_get hkl (by have := HN.out.1; omega)] at hlast
        have e1 : (0 : Int) < n := by omega
        have e4 : (n : Int) - 1 = (k : Int) := by omega
        have e5 : wrap64 (k : Int) = (k : Int) := by unfold wrap64; omega
        have e6 : (k : Int) < n := by omega
        have hL2 := HL.out
        obtain ⟨lw, hlw⟩ : ∃ lw, lastW l = lw := ⟨_, rfl⟩
        rw [hlw] at hlast hL2
        clear hk h0 hcl hb2 hkl hlw
        cases lw with
        | false =>
          have el : lb = false := by simpa using hL2.symm
          subst el
          clear hL2
          go_wp2_with fail
          go_meet
          exact ⟨rfl, rfl⟩
        | true =>
          cases sb with
          | false =>
            have el : lb = true := by simpa using hL2.symm
            subst el
            clear hL2
            go_wp2_with fail
            go_meet
            exact ⟨rfl, rfl⟩
          | true =>
            have el : lb = false := by simpa using hL2.symm
            subst el
            clear hL2
            go_wp2_with fail
            go_meet
            exact ⟨rfl, rfl⟩
    case rest =>
    obtain ⟨rfl, hw⟩ := hcut
    rw [hw]
    clear hw
    cases lb with
    | true =>
      have he : addE l ⟨da, dl, df, dx⟩ = 155 := by
        have := HL.out
        simp only [addE, HI.out, if_true, hsb, this]
      go_wp2_with fail
      go_ret
      exact ⟨rfl, W1.out, Fly.of_below Xd.out.2.2.2.2 HW.out.old⟩
    | false =>
      have he : addE l ⟨da, dl, df, dx⟩ = 0 := by
        have := HL.out
        simp [addE, HI.out, hsb, this]
      go_upto_region 7 with fail
      have Xe : Hid (Tw2 da dl df dx w V.drew w.heap.size p #[.int .u64 (da : Int), .int .u64 (dl : Int), .bool sb]) := Xd.out.below (Below.refl _ _).drew
      have W2 : Hid (Wd Inv O F V.drew rb wb l) := W1.out.below m (Below.refl _ _).drew
      have HB2 : Hid (V.drew.heap[wb]? = some (.cells #[.pointer (some ⟨rb, 0, none⟩), .slice a n c] 88 (0, 0)) ∧ SegIn 0 V.drew (.slice a n c) l) := HB.out
      clear HB hS5
      refine wp_region_held_drew (S := fun Z => Z.cell? ⟨wb, 0, none⟩ = some (.pointer (some ⟨rb, 0, none⟩)) ∧ Z.cell? ⟨p, 0, none⟩ = some (.int .u64 (da : Int)) ∧ Z.cell? ⟨p, 1, none⟩ = some (.int .u64 (dl : Int)) ∧ Z.cell? ⟨p, 2, none⟩ = some (.bool sb)) (by kernel_rfl) ⟨cellOf HB2.out.1 0 _ rfl, cellOf Xe.out.2.1 0 _ rfl, cellOf Xe.out.2.1 1 _ rfl, cellOf Xe.out.2.1 2 _ rfl⟩ ?_
      intro hS
      clear Xd W1
      generalize V.drew = V2 at *
      refine wpAnyH_take (i := 0) (v := ?_) rfl (by kernel_rfl) (by kernel_rfl) (by kernel_rfl) (fun _ _ _ h => h) (Or.inl ⟨by kernel_rfl, ?_⟩) hS ?_
      rotate_left
      · intro w hSw; (try dsimp only at hSw); go_simp; try (with_reducible rfl)
      (try simp only [Act.put, List.getElem_toArray, List.getElem_cons_succ, List.getElem_cons_zero, List.setIfInBounds_toArray, List.set_cons_zero, List.set_cons_succ])
      refine wpAnyH_take (i := 1) (v := ?_) rfl (by kernel_rfl) (by kernel_rfl) (by kernel_rfl) (fun _ _ _ h => h) (Or.inl ⟨by kernel_rfl, ?_⟩) hS ?_
      rotate_left
      · intro w hSw; (try dsimp only at hSw); go_simp; try (with_reducible rfl)
      (try simp only [Act.put, List.getElem_toArray, List.getElem_cons_succ, List.getElem_cons_zero, List.setIfInBounds_toArray, List.set_cons_zero, List.set_cons_succ])
      refine wpAnyH_take (i := 2) (v := ?_) rfl (by kernel_rfl) (by kernel_rfl) (by kernel_rfl) (fun _ _ _ h => h) (Or.inl ⟨by kernel_rfl, ?_⟩) hS ?_
      rotate_left
      · intro w hSw; (try dsimp only at hSw); go_simp; try (with_reducible rfl)
      (try simp only [Act.put, List.getElem_toArray, List.getElem_cons_succ, List.getElem_cons_zero, List.setIfInBounds_toArray, List.set_cons_zero, List.set_cons_succ])
      refine wpAnyH_take (i := 3) (v := ?_) rfl (by kernel_rfl) (by kernel_rfl) (by kernel_rfl) (fun _ _ _ h => h) (Or.inl ⟨by kernel_rfl, ?_⟩) hS ?_
      rotate_left
      · intro w hSw; (try dsimp only at hSw); go_simp; try (with_reducible rfl)
      (try simp only [Act.put, List.getElem_toArray, List.getElem_cons_succ, List.getElem_cons_zero, List.setIfInBounds_toArray, List.set_cons_zero, List.set_cons_succ])
      refine wpAnyH_take (i := 5) (v := ?_) rfl (by kernel_rfl) (by kernel_rfl) (by kernel_rfl) (fun _ _ _ h => h) (Or.inl ⟨by kernel_rfl, ?_⟩) hS ?_
      rotate_left
      · intro w hSw; (try dsimp only at hSw); go_simp; try (with_reducible rfl)
      (try simp only [Act.put, List.getElem_toArray, List.getElem_cons_succ, List.getElem_cons_zero, List.setIfInBounds_toArray, List.set_cons_zero, List.set_cons_succ])
      refine wpAnyH_ready (rs := [4, 6]) (by kernel_rfl) (by simp) ?_
      refine AllReadyH.cons rfl (fun K1 hK1 => ?_) (AllReadyH.cons rfl (fun K1 hK1 => ?_) AllReadyH.nil)
      · have m1 := cellOf HB2.out.1 1 _ rfl
        go_simp
        refine hK1.out _ _ ⟨cellOf HB2.out.1 0 _ rfl, cellOf Xe.out.2.1 0 _ rfl, cellOf Xe.out.2.1 1 _ rfl, cellOf Xe.out.2.1 2 _ rfl⟩ (fun h2 => ?_)
        clear hK1 K1 hS m1
        (try simp only [Act.put, List.getElem_toArray, List.getElem_cons_succ, List.getElem_cons_zero, List.setIfInBounds_toArray, List.set_cons_zero, List.set_cons_succ])
        refine wpAnyH_ready (rs := [6]) (by kernel_rfl) (by simp) ?_
        refine AllReadyH.cons rfl (fun K1 hK1 => ?_) AllReadyH.nil
        go_simp
        have hb3 : Below V2.heap.size V2 (V2.alloc (.cells #[.int .u64 (da : Int), .int .u64 (dl : Int), .bool sb] 52)) := (Below.refl _ _).alloc (Nat.le_refl _) _
        have W3 : Hid (Wd Inv O F (V2.alloc (.cells #[.int .u64 (da : Int), .int .u64 (dl : Int), .bool sb] 52)) rb wb l) := W2.out.below m hb3
        have Xf : Hid (Tw2 da dl df dx w (V2.alloc (.cells #[.int .u64 (da : Int), .int .u64 (dl : Int), .bool sb] 52)) w.heap.size p #[.int .u64 (da : Int), .int .u64 (dl : Int), .bool sb]) := Xe.out.below hb3
        have HB3 : Hid ((V2.alloc (.cells #[.int .u64 (da : Int), .int .u64 (dl : Int), .bool sb] 52)).heap[wb]? = some (.cells #[.pointer (some ⟨rb, 0, none⟩), .slice a n c] 88 (0, 0)) ∧ SegIn 0 (V2.alloc (.cells #[.int .u64 (da : Int), .int .u64 (dl : Int), .bool sb] 52)) (.slice a n c) l) := ⟨below_box HB2.out.1 hb3, HB2.out.2.kept (fun g hg => hb3.block g (HB2.out.2.lt g hg).2)⟩
        have N3 := three_new V2 (.int .u64 (da : Int)) (.int .u64 (dl : Int)) (.bool sb) 52
        have HN3 : Hid (∀ j u, [Value.int .u64 (da : Int), .int .u64 (dl : Int), .bool sb][j]? = some u → (V2.alloc (.cells #[.int .u64 (da : Int), .int .u64 (dl : Int), .bool sb] 52)).cell? ((⟨V2.heap.size, 0, none⟩ : Addr).add j) = some u) := N3
        clear hb3 N3 W2 Xe HB2
        generalize V2.alloc (.cells #[.int .u64 (da : Int), .int .u64 (dl : Int), .bool sb] 52) = V3 at *
        generalize V2.heap.size = gb at *
        refine hK1.out _ _ ⟨cellOf HB3.out.1 0 _ rfl, cellOf Xf.out.2.1 0 _ rfl, cellOf Xf.out.2.1 1 _ rfl, cellOf Xf.out.2.1 2 _ rfl⟩ (fun h3 => ?_)
        clear hK1 K1 h2
        (try simp only [Act.put, List.getElem_toArray, List.getElem_cons_succ, List.getElem_cons_zero, List.setIfInBounds_toArray, List.set_cons_zero, List.set_cons_succ])
        refine wpAnyH_ready (rs := [7]) (by kernel_rfl) (by simp) ?_
        refine AllReadyH.cons rfl (fun K1 hK1 => ?_) AllReadyH.nil
        rw [if_pos (by kernel_rfl)]
        refine wp_append_lies V3 _ _ 36 rfl 0 52 i0 (.agg #[.int .u64 0, .int .u64 0, .bool false]) 3 24 Try.underlying36 hi hz0 hz1 hz2 rfl (by decide) (.slice a n c) n (segRow l) rfl (by have := HB3.out.2; unfold SegIn at this; rw [HN.out.1] at this; exact this) ⟨gb, 0, none⟩ 1 1 [.int .u64 (da : Int), .int .u64 (dl : Int), .bool sb] rfl rfl HN3.out (by intro u hu; simp at hu; rcases hu with rfl | rfl | rfl <;> rfl) (by omega) (by unfold maxLen; omega) (by omega) (Nat.zero_le _) V3.heap.size rfl ?_
        intro g cap w1 hown hgrow hat hlt
        have D1 : Hid (w1.heap[wb]? = some (.cells #[.pointer (some ⟨rb, 0, none⟩), .slice a n c] 88 (0, 0)) ∧ w1.heap[p]? = some (.cells #[.int .u64 (da : Int), .int .u64 (dl : Int), .bool sb] 52 (0, 0))) := ⟨(hgrow.block wb W3.out.lt (fun e => (HP.out wb e.symm).1 rfl)).trans HB3.out.1, (hgrow.block p (Array.getElem?_eq_some_iff.1 Xf.out.2.1).1 (fun e => (HP.out p e.symm).2 rfl)).trans Xf.out.2.1⟩
        have HM : Hid (Wd Inv O F (w1.setCell ⟨wb, 1, none⟩ (.slice (some ⟨g, 0, none⟩) (n + 1) cap)) rb wb (l ++ [⟨da, dl, sb⟩]) ∧ Fly O F V3 F (w1.setCell ⟨wb, 1, none⟩ (.slice (some ⟨g, 0, none⟩) (n + 1) cap))) := by
          obtain ⟨hn, _⟩ := HN.out
          subst hn
          exact W3.out.more m HB3.out.1 (s := ⟨da, dl, sb⟩) hown hgrow (hat.imp id (fun e => by omega))
        clear hown hgrow hat hlt
        refine hK1.out _ _ ⟨cellOf D1.out.1 0 _ rfl, cellOf D1.out.2 0 _ rfl, cellOf D1.out.2 1 _ rfl, cellOf D1.out.2 2 _ rfl⟩ (fun h4 => ?_)
        clear hK1 K1 h3
        (try simp only [Act.put, List.getElem_toArray, List.getElem_cons_succ, List.getElem_cons_zero, List.setIfInBounds_toArray, List.set_cons_zero, List.set_cons_succ])
        refine wpAnyH_take (i := 8) (v := ?_) rfl (by kernel_rfl) (by kernel_rfl) (by kernel_rfl) (fun _ _ _ h => h) (Or.inl ⟨by kernel_rfl, ?_⟩) h4 ?_
        rotate_left
        · intro w hSw; (try dsimp only at hSw); go_simp; try (with_reducible rfl)
        (try simp only [Act.put, List.getElem_toArray, List.getElem_cons_succ, List.getElem_cons_zero, List.setIfInBounds_toArray, List.set_cons_zero, List.set_cons_succ])
        refine wpAnyH_take (i := 9) (v := ?_) rfl (by kernel_rfl) (by kernel_rfl) (by kernel_rfl) (fun _ _ _ h => h) (Or.inl ⟨by kernel_rfl, ?_⟩) h4 ?_
        rotate_left
        · intro w hSw; (try dsimp only at hSw); go_simp; try (with_reducible rfl)
        (try simp only [Act.put, List.getElem_toArray, List.getElem_cons_succ, List.getElem_cons_zero, List.setIfInBounds_toArray, List.set_cons_zero, List.set_cons_succ])
        refine wpAnyH_ready (rs := [10]) (by kernel_rfl) (by simp) ?_
        refine AllReadyH.cons rfl (fun K1 hK1 => ?_) AllReadyH.nil
        have m1 := cellOf D1.out.1 1 _ rfl
        have m2 := frozenOf D1.out.1 1
        go_simp
        have HF : Hid (Fly O F w F (w1.setCell ⟨wb, 1, none⟩ (.slice (some ⟨g, 0, none⟩) (n + 1) cap))) := (Fly.of_below Xf.out.2.2.2.2 HW.out.old).trans HM.out.2
        have HM2 : Hid (Wd Inv O F (w1.setCell ⟨wb, 1, none⟩ (.slice (some ⟨g, 0, none⟩) (n + 1) cap)) rb wb (l ++ [⟨da, dl, sb⟩]) ∧ (w1.setCell ⟨wb, 1, none⟩ (.slice (some ⟨g, 0, none⟩) (n + 1) cap)).heap[wb]? = some (.cells #[.pointer (some ⟨rb, 0, none⟩), .slice (some ⟨g, 0, none⟩) (n + 1) cap] 88 (0, 0)) ∧ (w1.setCell ⟨wb, 1, none⟩ (.slice (some ⟨g, 0, none⟩) (n + 1) cap)).heap[p]? = some (.cells #[.int .u64 (da : Int), .int .u64 (dl : Int), .bool sb] 52 (0, 0))) := ⟨HM.out.1, setw_box D1.out.1, (heap_setCell _ _ _ _ _ HPW.out).trans D1.out.2⟩
        clear HM m1 m2
        generalize w1.setCell ⟨wb, 1, none⟩ (.slice (some ⟨g, 0, none⟩) (n + 1) cap) = w4 at *
        refine hK1.out _ _ ⟨cellOf HM2.out.2.1 0 _ rfl, cellOf HM2.out.2.2 0 _ rfl, cellOf HM2.out.2.2 1 _ rfl, cellOf HM2.out.2.2 2 _ rfl⟩ (fun h5 => ?_)
        clear hK1 K1 h4
        (try simp only [Act.put, List.getElem_toArray, List.getElem_cons_succ, List.getElem_cons_zero, List.setIfInBounds_toArray, List.set_cons_zero, List.set_cons_succ])
        refine wpAnyH_done (by kernel_rfl) ?_ _
        clear h5
        go_wp2_with fail
        go_ret
        exact ⟨rfl, HM2.out.1, HF.out⟩
      · have _hm : True := trivial
        go_simp
        have hb3 : Below V2.heap.size V2 (V2.alloc (.cells #[.int .u64 (da : Int), .int .u64 (dl : Int), .bool sb] 52)) := (Below.refl _ _).alloc (Nat.le_refl _) _
        have W3 : Hid (Wd Inv O F (V2.alloc (.cells #[.int .u64 (da : Int), .int .u64 (dl : Int), .bool sb] 52)) rb wb l) := W2.out.below m hb3
        have Xf : Hid (Tw2 da dl df dx w (V2.alloc (.cells #[.int .u64 (da : Int), .int .u64 (dl : Int), .bool sb] 52)) w.heap.size p #[.int .u64 (da : Int), .int .u64 (dl : Int), .bool sb]) := Xe.out.below hb3
        have HB3 : Hid ((V2.alloc (.cells #[.int .u64 (da : Int), .int .u64 (dl : Int), .bool sb] 52)).heap[wb]? = some (.cells #[.pointer (some ⟨rb, 0, none⟩), .slice a n c] 88 (0, 0)) ∧ SegIn 0 (V2.alloc (.cells #[.int .u64 (da : Int), .int .u64 (dl : Int), .bool sb] 52)) (.slice a n c) l) := ⟨below_box HB2.out.1 hb3, HB2.out.2.kept (fun g hg => hb3.block g (HB2.out.2.lt g hg).2)⟩
        have N3 := three_new V2 (.int .u64 (da : Int)) (.int .u64 (dl : Int)) (.bool sb) 52
        have HN3 : Hid (∀ j u, [Value.int .u64 (da : Int), .int .u64 (dl : Int), .bool sb][j]? = some u → (V2.alloc (.cells #[.int .u64 (da : Int), .int .u64 (dl : Int), .bool sb] 52)).cell? ((⟨V2.heap.size, 0, none⟩ : Addr).add j) = some u) := N3
        clear hb3 N3 W2 Xe HB2
        generalize V2.alloc (.cells #[.int .u64 (da : Int), .int .u64 (dl : Int), .bool sb] 52) = V3 at *
        generalize V2.heap.size = gb at *
        refine hK1.out _ _ ⟨cellOf HB3.out.1 0 _ rfl, cellOf Xf.out.2.1 0 _ rfl, cellOf Xf.out.2.1 1 _ rfl, cellOf Xf.out.2.1 2 _ rfl⟩ (fun h3 => ?_)
        clear hK1 K1 hS
        (try simp only [Act.put, List.getElem_toArray, List.getElem_cons_succ, List.getElem_cons_zero, List.setIfInBounds_toArray, List.set_cons_zero, List.set_cons_succ])
        refine wpAnyH_ready (rs := [4]) (by kernel_rfl) (by simp) ?_
        refine AllReadyH.cons rfl (fun K1 hK1 => ?_) AllReadyH.nil
        have m1 := cellOf HB3.out.1 1 _ rfl
        go_simp
        refine hK1.out _ _ ⟨cellOf HB3.out.1 0 _ rfl, cellOf Xf.out.2.1 0 _ rfl, cellOf Xf.out.2.1 1 _ rfl, cellOf Xf.out.2.1 2 _ rfl⟩ (fun h33 => ?_)
        clear hK1 K1 h3 m1
        (try simp only [Act.put, List.getElem_toArray, List.getElem_cons_succ, List.getElem_cons_zero, List.setIfInBounds_toArray, List.set_cons_zero, List.set_cons_succ])
        have h3 := h33
        clear h33
        refine wpAnyH_ready (rs := [7]) (by kernel_rfl) (by simp) ?_
        refine AllReadyH.cons rfl (fun K1 hK1 => ?_) AllReadyH.nil
        rw [if_pos (by kernel_rfl)]
        refine wp_append_lies V3 _ _ 36 rfl 0 52 i0 (.agg #[.int .u64 0, .int .u64 0, .bool false]) 3 24 Try.underlying36 hi hz0 hz1 hz2 rfl (by decide) (.slice a n c) n (segRow l) rfl (by have := HB3.out.2; unfold SegIn at this; rw [HN.out.1] at this; exact this) ⟨gb, 0, none⟩ 1 1 [.int .u64 (da : Int), .int .u64 (dl : Int), .bool sb] rfl rfl HN3.out (by intro u hu; simp at hu; rcases hu with rfl | rfl | rfl <;> rfl) (by omega) (by unfold maxLen; omega) (by omega) (Nat.zero_le _) V3.heap.size rfl ?_
        intro g cap w1 hown hgrow hat hlt
        have D1 : Hid (w1.heap[wb]? = some (.cells #[.pointer (some ⟨rb, 0, none⟩), .slice a n c] 88 (0, 0)) ∧ w1.heap[p]? = some (.cells #[.int .u64 (da : Int), .int .u64 (dl : Int), .bool sb] 52 (0, 0))) := ⟨(hgrow.block wb W3.out.lt (fun e => (HP.out wb e.symm).1 rfl)).trans HB3.out.1, (hgrow.block p (Array.getElem?_eq_some_iff.1 Xf.out.2.1).1 (fun e => (HP.out p e.symm).2 rfl)).trans Xf.out.2.1⟩
        have HM : Hid (Wd Inv O F (w1.setCell ⟨wb, 1, none⟩ (.slice (some ⟨g, 0, none⟩) (n + 1) cap)) rb wb (l ++ [⟨da, dl, sb⟩]) ∧ Fly O F V3 F (w1.setCell ⟨wb, 1, none⟩ (.slice (some ⟨g, 0, none⟩) (n + 1) cap))) := by
          obtain ⟨hn, _⟩ := HN.out
          subst hn
          exact W3.out.more m HB3.out.1 (s := ⟨da, dl, sb⟩) hown hgrow (hat.imp id (fun e => by omega))
        clear hown hgrow hat hlt
        refine hK1.out _ _ ⟨cellOf D1.out.1 0 _ rfl, cellOf D1.out.2 0 _ rfl, cellOf D1.out.2 1 _ rfl, cellOf D1.out.2 2 _ rfl⟩ (fun h4 => ?_)
        clear hK1 K1 h3
        (try simp only [Act.put, List.getElem_toArray, List.getElem_cons_succ, List.getElem_cons_zero, List.setIfInBounds_toArray, List.set_cons_zero, List.set_cons_succ])
        refine wpAnyH_take (i := 8) (v := ?_) rfl (by kernel_rfl) (by kernel_rfl) (by kernel_rfl) (fun _ _ _ h => h) (Or.inl ⟨by kernel_rfl, ?_⟩) h4 ?_
        rotate_left
        · intro w hSw; (try dsimp only at hSw); go_simp; try (with_reducible rfl)
        (try simp only [Act.put, List.getElem_toArray, List.getElem_cons_succ, List.getElem_cons_zero, List.setIfInBounds_toArray, List.set_cons_zero, List.set_cons_succ])
        refine wpAnyH_take (i := 9) (v := ?_) rfl (by kernel_rfl) (by kernel_rfl) (by kernel_rfl) (fun _ _ _ h => h) (Or.inl ⟨by kernel_rfl, ?_⟩) h4 ?_
        rotate_left
        · intro w hSw; (try dsimp only at hSw); go_simp; try (with_reducible rfl)
        (try simp only [Act.put, List.getElem_toArray, List.getElem_cons_succ, List.getElem_cons_zero, List.setIfInBounds_toArray, List.set_cons_zero, List.set_cons_succ])
        refine wpAnyH_ready (rs := [10]) (by kernel_rfl) (by simp) ?_
        refine AllReadyH.cons rfl (fun K1 hK1 => ?_) AllReadyH.nil
        have m1 := cellOf D1.out.1 1 _ rfl
        have m2 := frozenOf D1.out.1 1
        go_simp
        have HF : Hid (Fly O F w F (w1.setCell ⟨wb, 1, none⟩ (.slice (some ⟨g, 0, none⟩) (n + 1) cap))) := (Fly.of_below Xf.out.2.2.2.2 HW.out.old).trans HM.out.2
        have HM2 : Hid (Wd Inv O F (w1.setCell ⟨wb, 1, none⟩ (.slice (some ⟨g, 0, none⟩) (n + 1) cap)) rb wb (l ++ [⟨da, dl, sb⟩]) ∧ (w1.setCell ⟨wb, 1, none⟩ (.slice (some ⟨g, 0, none⟩) (n + 1) cap)).heap[wb]? = some (.cells #[.pointer (some ⟨rb, 0, none⟩), .slice (some ⟨g, 0, none⟩) (n + 1) cap] 88 (0, 0)) ∧ (w1.setCell ⟨wb, 1, none⟩ (.slice (some ⟨g, 0, none⟩) (n + 1) cap)).heap[p]? = some (.cells #[.int .u64 (da : Int), .int .u64 (dl : Int), .bool sb] 52 (0, 0))) := ⟨HM.out.1, setw_box D1.out.1, (heap_setCell _ _ _ _ _ HPW.out).trans D1.out.2⟩
        clear HM m1 m2
        generalize w1.setCell ⟨wb, 1, none⟩ (.slice (some ⟨g, 0, none⟩) (n + 1) cap) = w4 at *
        refine hK1.out _ _ ⟨cellOf HM2.out.2.1 0 _ rfl, cellOf HM2.out.2.2 0 _ rfl, cellOf HM2.out.2.2 1 _ rfl, cellOf HM2.out.2.2 2 _ rfl⟩ (fun h5 => ?_)
        clear hK1 K1 h4
        (try simp only [Act.put, List.getElem_toArray, List.getElem_cons_succ, List.getElem_cons_zero, List.setIfInBounds_toArray, List.set_cons_zero, List.set_cons_succ])
        refine wpAnyH_done (by kernel_rfl) ?_ _
        clear h5
        go_wp2_with fail
        go_ret
        exact ⟨rfl, HM2.out.1, HF.out⟩
end Go.Proofs.Ytcgjfklglckjcaa
