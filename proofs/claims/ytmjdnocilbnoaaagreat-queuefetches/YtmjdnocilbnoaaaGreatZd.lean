/- Texts put together. -/
import Derived.Test.YtmjdnocilbnoaaaGreatZc
/- The bytes that a chain names, in plain lists. -/
namespace Go.Proofs.YtmjdnocilbnoaaaGreat
open Go.RowKit Go.Maps
set_option linter.unusedVariables false
set_option linter.unusedSimpArgs false
set_option maxRecDepth 100000
/-- the addresses of all that is to be read, or written -/
def addrs (b : Bool) (l : List Seg) : List Nat := l.flatMap fun s => if s.wr = b then (List.range s.l).map (s.a + ·) else []
def sizeN (b : Bool) (l : List Seg) : Nat := (l.map fun s => if s.wr = b then s.l else 0).sum
theorem addrs_length (b : Bool) (l : List Seg) : (addrs b l).length = sizeN b l := by
  induction l with
  | nil => rfl
  | cons s l ih =>
    have e : addrs b (s :: l) = (if s.wr = b then (List.range s.l).map (s.a + ·) else []) ++ addrs b l := by simp [addrs]
    have e2 : sizeN b (s :: l) = (if s.wr = b then s.l else 0) + sizeN b l := by simp [sizeN]
    rw [e, e2, List.length_append, ih]
    split <;> simp
theorem sizeN_cons (b : Bool) (s : Seg) (l : List Seg) : sizeN b (s :: l) = (if s.wr = b then s.l else 0) + sizeN b l := by simp [sizeN]
theorem addrs_cons (b : Bool) (s : Seg) (l : List Seg) : addrs b (s :: l) = (if s.wr = b then (List.range s.l).map (s.a + ·) else []) ++ addrs b l := by simp [addrs]
theorem sizeN_take (b : Bool) (l : List Seg) (i : Nat) (hi : i < l.length) : sizeN b (l.take (i + 1)) = sizeN b (l.take i) + (if (l[i]).wr = b then (l[i]).l else 0) := by
  rw [List.take_add_one, List.getElem?_eq_getElem hi]
  simp only [sizeN, List.map_append, List.sum_append, Option.toList_some, List.map_cons, List.map_nil, List.sum_cons, List.sum_nil, Nat.add_zero]
theorem sizeN_le (b : Bool) (l : List Seg) (h : ∀ s ∈ l, SegOk s) : sizeN b l ≤ l.length * 8192 := by
  induction l with
  | nil => simp [sizeN]
  | cons s l ih =>
    have h1 := ih (fun x hx => h x (List.mem_cons_of_mem _ hx))
    have h2 := (h s (List.mem_cons_self)).l
    rw [sizeN_cons, List.length_cons]
    split <;> omega
def pcs (b : Bool) : List Seg → Nat → Nat → List (Nat × Nat) × Nat × Nat
  | [], f, n => ([], f, n)
  | s :: l, f, n => if s.wr = b then ((if min n (s.l - min f s.l) = 0 then (pcs b l (f - min f s.l) (n - min n (s.l - min f s.l))).1 else (s.a + min f s.l, min n (s.l - min f s.l)) :: (pcs b l (f - min f s.l) (n - min n (s.l - min f s.l))).1), (pcs b l (f - min f s.l) (n - min n (s.l - min f s.l))).2) else pcs b l f n
theorem pcs_other {b : Bool} {s : Seg} {l : List Seg} {f n : Nat} (h : ¬ s.wr = b) : pcs b (s :: l) f n = pcs b l f n := by simp [pcs, h]
theorem pcs_none {b : Bool} {s : Seg} {l : List Seg} {f n sk tk : Nat} (h : s.wr = b) (h1 : sk = min f s.l) (h2 : tk = min n (s.l - sk)) (h0 : tk = 0) : pcs b (s :: l) f n = pcs b l (f - sk) (n - tk) := by
  subst h1
  rw [h0] at h2
  subst h0
  simp only [pcs, h, if_true, ← h2]
theorem pcs_some {b : Bool} {s : Seg} {l : List Seg} {f n sk tk : Nat} (h : s.wr = b) (h1 : sk = min f s.l) (h2 : tk = min n (s.l - sk)) (h0 : ¬ tk = 0) : pcs b (s :: l) f n = ((s.a + sk, tk) :: (pcs b l (f - sk) (n - tk)).1, (pcs b l (f - sk) (n - tk)).2) := by
  subst h1 h2
  simp only [pcs, h, if_true, h0, if_false]
theorem pcs_rest (b : Bool) : ∀ (l : List Seg) (f n : Nat), (pcs b l f n).2 = (f - sizeN b l, n - (sizeN b l - f)) := by
  intro l
  induction l with
  | nil => intro f n; simp [pcs, sizeN]
  | cons s l ih =>
    intro f n
    rw [sizeN_cons]
    by_cases h : s.wr = b
    · simp only [pcs, h, if_true]
      rw [ih]
      simp only [Prod.mk.injEq]
      omega
    · rw [pcs_other h, ih, if_neg h, Nat.zero_add]
def spanA (ps : List (Nat × Nat)) : List Nat := ps.flatMap fun p => (List.range p.2).map (p.1 + ·)
theorem spanA_cons (p : Nat × Nat) (l : List (Nat × Nat)) : spanA (p :: l) = (List.range p.2).map (p.1 + ·) ++ spanA l := by simp [spanA]
theorem spanA_append (k l : List (Nat × Nat)) : spanA (k ++ l) = spanA k ++ spanA l := by simp [spanA]
theorem range_cut (a L f n : Nat) : ((((List.range L).map (a + ·)).drop f).take n) = (List.range (min n (L - f))).map (a + f + ·) := by
  apply List.ext_getElem?
  intro i
  simp only [List.getElem?_take, List.getElem?_drop, List.getElem?_map, List.getElem?_range']
  by_cases h : i < min n (L - f)
  · rw [if_pos (by omega), List.getElem?_range (by omega), List.getElem?_range h]
    simp; omega
  · rw [List.getElem?_eq_none (l := List.range (min n (L - f))) (by simp; omega)]
    split
    · rw [List.getElem?_eq_none (by simp; omega)]; rfl
    · rfl
theorem pcs_span (b : Bool) : ∀ (l : List Seg) (f n : Nat), spanA (pcs b l f n).1 = ((addrs b l).drop f).take n := by
  intro l
  induction l with
  | nil => intro f n; simp [pcs, addrs, spanA]
  | cons s l ih =>
    intro f n
    rw [addrs_cons]
    by_cases h : s.wr = b
    · rw [if_pos h, List.drop_append, List.take_append, range_cut]
      have e1 : f - ((List.range s.l).map (s.a + ·)).length = f - min f s.l := by simp; omega
      have e2 : n - (((List.range s.l).map (s.a + ·)).drop f).length = n - min n (s.l - min f s.l) := by simp; omega
      rw [e1, e2, ← ih]
      have e3 : min n (s.l - f) = min n (s.l - min f s.l) := by omega
      rw [e3]
      by_cases h0 : min n (s.l - min f s.l) = 0
      · rw [pcs_none h rfl rfl h0, h0]; simp
      · rw [pcs_some h rfl rfl h0, spanA_cons]
        have e4 : min f s.l = f := by omega
        simp only [e4]
    · rw [if_neg h, List.nil_append, pcs_other h]
      exact ih f n
theorem pcs_ok {b : Bool} {l : List Seg} (h : ∀ s ∈ l, SegOk s) : ∀ (f n : Nat), ∀ p ∈ (pcs b l f n).1, inB p.1 p.2 2147483648 8192 = true ∧ 0 < p.2 ∧ p.1 < 18446744073709551616 ∧ p.2 ≤ 8192 := by
  induction l with
  | nil => intro f n p hp; simp [pcs] at hp
  | cons s l ih =>
    intro f n p hp
    have ih2 := ih (fun x hx => h x (List.mem_cons_of_mem _ hx))
    by_cases hb : s.wr = b
    · by_cases h0 : min n (s.l - min f s.l) = 0
      · rw [pcs_none hb rfl rfl h0] at hp
        exact ih2 _ _ p hp
      · rw [pcs_some hb rfl rfl h0] at hp
        rcases List.mem_cons.1 hp with rfl | hp
        · have hs := h s List.mem_cons_self
          have h1 := in_len hs.i
          have h3 : min f s.l + min n (s.l - min f s.l) ≤ s.l := by omega
          refine ⟨?_, by simp only; omega, by simp only; omega, by simp only; omega⟩
          simp only [inB, Bool.and_eq_true, decide_eq_true_iff]
          omega
        · exact ih2 _ _ p hp
    · rw [pcs_other hb] at hp
      exact ih2 _ _ p hp
theorem pcs_len (b : Bool) : ∀ (l : List Seg) (f n : Nat), (pcs b l f n).1.length ≤ l.length := by
  intro l
  induction l with
  | nil => intro f n; simp [pcs]
  | cons s l ih =>
    intro f n
    by_cases hb : s.wr = b
    · by_cases h0 : min n (s.l - min f s.l) = 0
      · rw [pcs_none hb rfl rfl h0]
        have := ih (f - min f s.l) (n - min n (s.l - min f s.l))
        simp only [List.length_cons]
        omega
      · rw [pcs_some hb rfl rfl h0]
        have := ih (f - min f s.l) (n - min n (s.l - min f s.l))
        simp only [List.length_cons]
        omega
    · rw [pcs_other hb]
      have := ih f n
      simp only [List.length_cons]
      omega
/-- is there so much? -/
def roomB (b : Bool) (l : List Seg) (f n : Nat) : Bool := decide (f ≤ sizeN b l ∧ n ≤ sizeN b l - f)
theorem room_iff (b : Bool) (l : List Seg) (f n : Nat) : roomB b l f n = true ↔ (pcs b l f n).2 = (0, 0) := by
  rw [pcs_rest]
  simp only [roomB, decide_eq_true_iff, Prod.mk.injEq]
  omega
end Go.Proofs.YtmjdnocilbnoaaaGreat

/- A segment more. -/
namespace Go.Proofs.YtmjdnocilbnoaaaGreat
open Go.RowKit Go.Maps
set_option linter.unusedVariables false
set_option linter.unusedSimpArgs false
set_option maxRecDepth 100000
def Tw (da dl df dx : Nat) (w V : World) (q : Nat) : Prop := V.heap[q]? = some (.cells #[.int .u64 (da : Int), .int .u32 (dl : Int), .int .u16 (df : Int), .int .u16 (dx : Int)] 150 (0, 0)) ∧ q < V.heap.size ∧ Below w.heap.size w V
def Tw2 (da dl df dx : Nat) (w V : World) (q p : Nat) (c : Array Value) : Prop := V.heap[q]? = some (.cells #[.int .u64 (da : Int), .int .u32 (dl : Int), .int .u16 (df : Int), .int .u16 (dx : Int)] 150 (0, 0)) ∧ V.heap[p]? = some (.cells c 118 (0, 0)) ∧ q ≠ p ∧ w.heap.size ≤ p ∧ Below w.heap.size w V
section
variable {da dl df dx q p : Nat} {w V V' : World} {c : Array Value}
theorem Tw.below (h : Tw da dl df dx w V q) (hb : Below V.heap.size V V') : Tw da dl df dx w V' q := ⟨below_box h.1 hb, Nat.lt_of_lt_of_le h.2.1 hb.size, below_to h.2.2 hb⟩
theorem Tw2.below (h : Tw2 da dl df dx w V q p c) (hb : Below V.heap.size V V') : Tw2 da dl df dx w V' q p c := ⟨below_box h.1 hb, below_box h.2.1 hb, h.2.2.1, h.2.2.2.1, below_to h.2.2.2.2 hb⟩
theorem Tw.alloc (h : Tw da dl df dx w V q) (c : Array Value) : Tw2 da dl df dx w (V.alloc (.cells c 118)) q V.heap.size c := by
  have hb : Below V.heap.size V (V.alloc (.cells c 118)) := (Below.refl _ _).alloc (Nat.le_refl _) _
  exact ⟨below_box h.1 hb, heap_alloc_new _ _, Nat.ne_of_lt h.2.1, h.2.2.size, below_to h.2.2 hb⟩
theorem Tw2.set (h : Tw2 da dl df dx w V q p c) (c' : Array Value) : Tw2 da dl df dx w (V.setRow p c') q p c' := ⟨(setRow_other _ _ _ _ h.2.2.1).trans h.1, setRow_heap _ _ _ _ _ _ h.2.1, h.2.2.1, h.2.2.2.1, below_setRow h.2.2.2.2 h.2.2.2.1 _⟩
end
set_option maxHeartbeats 2000000 in
theorem seg_any {rb wb : Nat} {M : Nat → Nat} {Inv : (Nat → Prop) → World → Prop} {O F : Nat → Prop} {w : World} {l : List Seg} (m : Wm rb M Inv) (h : Wd Inv O F w rb wb l) (da dl df dx : Nat) (hd : (De.mk da dl df dx).Ok) (hl : l.length ≤ 1000) :
    Calls Tryz.prog 105 #[.pointer (some ⟨wb, 0, none⟩), .agg #[.int .u64 (da : Int), .int .u32 (dl : Int), .int .u16 (df : Int), .int .u16 (dx : Int)]] w fun e w' => e = .returned (.int .i64 (addE l ⟨da, dl, df, dx⟩ : Int)) ∧ Wd Inv O F w' rb wb (if addE l ⟨da, dl, df, dx⟩ = 0 then l ++ [⟨da, dl, fl df 2⟩] else l) ∧ Fly O F w F w' := by
  obtain ⟨i0, hi, hz0, hz1, hz2⟩ := info_parts Tryz.info52s
  have hf : df ≤ 65535 := hd.f
  have hwr : IntKind.u64.wrap (dl : Int) = (dl : Int) := by have := hd.l; rw [wrap_u64]; simp at this; omega
  obtain ⟨sb, hsb⟩ : ∃ sb, fl df 2 = sb := ⟨_, rfl⟩
  have HH : Hid (∀ V, Below w.heap.size w V → Calls Tryz.prog 69 #[.pointer (some ⟨rb, 0, none⟩), .int .u64 (da : Int), .int .u64 (dl : Int)] V fun e w' => e = .returned (.bool (inB da dl 2147483648 8192)) ∧ w' = V) := by
    intro V hV
    obtain ⟨G, n, lg, hr⟩ := m.ram F V (m.below h.1 hV)
    exact has_any hr (by omega) da dl hd.a (by have := hd.l; simp at this; omega)
  have X0 : Hid (Tw da dl df dx w (w.alloc (.cells #[.int .u64 (da : Int), .int .u32 (dl : Int), .int .u16 (df : Int), .int .u16 (dx : Int)] 150)) w.heap.size) := ⟨heap_alloc_new _ _, by simp, (Below.refl _ _).alloc (Nat.le_refl _) _⟩
  have HW : Hid (Wd Inv O F w rb wb l) := h
  obtain ⟨a, c, hwb, hseg, hne⟩ := h.boxes
  have HA : Hid (w.heap[wb]? = some (.cells #[.pointer (some ⟨rb, 0, none⟩), .slice a l.length c] 148 (0, 0)) ∧ SegIn 0 w (.slice a l.length c) l ∧ ∀ g, (Value.slice a l.length c).ownBlock = some g → g ≠ wb ∧ ¬ F g ∧ ¬ O g) := ⟨hwb, hseg, hne⟩
  clear hwb hseg hne
  clear h hd
  go_enter Tryz.func105, Tryz.ntmps105
  go_upto_region 1 with fail
  generalize w.alloc (.cells #[.int .u64 (da : Int), .int .u32 (dl : Int), .int .u16 (df : Int), .int .u16 (dx : Int)] 150) = v0 at *
  go_cut [5] (fun x wx => ∃ p : Nat, x = .pointer (some ⟨p, 0, none⟩) ∧ Tw2 da dl df dx w wx w.heap.size p #[.int .u64 (da : Int), .int .u64 (dl : Int), .bool sb])
  case first =>
    have Xd : Hid (Tw da dl df dx w v0.drew w.heap.size) := X0.out.below (Below.refl _ _).drew
    refine wp_region_held_drew (S := fun V => V.cell? ⟨w.heap.size, 0, none⟩ = some (.int .u64 (da : Int)) ∧ V.cell? ⟨w.heap.size, 1, none⟩ = some (.int .u32 (dl : Int)) ∧ V.cell? ⟨w.heap.size, 2, none⟩ = some (.int .u16 (df : Int)) ∧ V.cell? ⟨w.heap.size, 3, none⟩ = some (.int .u16 (dx : Int))) (by kernel_rfl) ⟨cellOf Xd.out.1 0 _ rfl, cellOf Xd.out.1 1 _ rfl, cellOf Xd.out.1 2 _ rfl, cellOf Xd.out.1 3 _ rfl⟩ ?_
    intro hS
    generalize v0.drew = wd at *
    clear X0
    refine wpAnyH_take (i := 0) (v := ?_) rfl (by kernel_rfl) (by kernel_rfl) (by kernel_rfl) (fun _ _ _ h => h) (Or.inl ⟨by kernel_rfl, ?_⟩) hS ?_
    rotate_left
    · intro w hSw; (try dsimp only at hSw); go_simp; try (with_reducible rfl)
    (try simp only [Act.put, List.getElem_toArray, List.getElem_cons_succ, List.getElem_cons_zero, List.setIfInBounds_toArray, List.set_cons_zero, List.set_cons_succ])
    refine wpAnyH_take (i := 1) (v := ?_) rfl (by kernel_rfl) (by kernel_rfl) (by kernel_rfl) (fun _ _ _ h => h) (Or.inl ⟨by kernel_rfl, ?_⟩) hS ?_
    rotate_left
    · intro w hSw; (try dsimp only at hSw); go_simp; try (with_reducible rfl)
    (try simp only [Act.put, List.getElem_toArray, List.getElem_cons_succ, List.getElem_cons_zero, List.setIfInBounds_toArray, List.set_cons_zero, List.set_cons_succ])
    refine wpAnyH_take (i := 2) (v := ?_) rfl (by kernel_rfl) (by kernel_rfl) (by kernel_rfl) (fun _ _ _ h => h) (Or.inl ⟨by kernel_rfl, ?_⟩) hS ?_
    rotate_left
    · intro w hSw; (try dsimp only at hSw); go_simp; try (with_reducible rfl)
    (try simp only [Act.put, List.getElem_toArray, List.getElem_cons_succ, List.getElem_cons_zero, List.setIfInBounds_toArray, List.set_cons_zero, List.set_cons_succ])
    refine wpAnyH_take (i := 3) (v := ?_) rfl (by kernel_rfl) (by kernel_rfl) (by kernel_rfl) (fun _ _ _ h => h) (Or.inl ⟨by kernel_rfl, ?_⟩) hS ?_
    rotate_left
    · intro w hSw; (try dsimp only at hSw); go_simp; try (with_reducible rfl)
    (try simp only [Act.put, List.getElem_toArray, List.getElem_cons_succ, List.getElem_cons_zero, List.setIfInBounds_toArray, List.set_cons_zero, List.set_cons_succ])
    refine wpAnyH_take (i := 4) (v := ?_) rfl (by kernel_rfl) (by kernel_rfl) (by kernel_rfl) (fun _ _ _ h => h) (Or.inl ⟨by kernel_rfl, ?_⟩) hS ?_
    rotate_left
    · intro w hSw; (try dsimp only at hSw); go_simp; try (with_reducible rfl)
    (try simp only [Act.put, List.getElem_toArray, List.getElem_cons_succ, List.getElem_cons_zero, List.setIfInBounds_toArray, List.set_cons_zero, List.set_cons_succ])
    refine wpAnyH_take (i := 5) (v := ?_) rfl (by kernel_rfl) (by kernel_rfl) (by kernel_rfl) (fun _ _ _ h => h) (Or.inl ⟨by kernel_rfl, ?_⟩) hS ?_
    rotate_left
    · intro w hSw; (try dsimp only at hSw); go_simp; try (with_reducible rfl)
    (try simp only [Act.put, List.getElem_toArray, List.getElem_cons_succ, List.getElem_cons_zero, List.setIfInBounds_toArray, List.set_cons_zero, List.set_cons_succ])
    refine wpAnyH_ready (rs := [6, 8]) (by kernel_rfl) (by simp) ?_
    refine AllReadyH.cons rfl (fun K1 hK1 => ?_) (AllReadyH.cons rfl (fun K1 hK1 => ?_) AllReadyH.nil)
    · have _hm : True := trivial
      go_simp
      refine (hasf2 da dl df dx hf _).mono ?_
      rintro e w2 ⟨rfl, hb⟩
      rw [hsb]
      have X2 : Hid (Tw da dl df dx w w2 w.heap.size) := Xd.out.below hb
      clear hb Xd
      refine hK1.out _ _ ⟨cellOf X2.out.1 0 _ rfl, cellOf X2.out.1 1 _ rfl, cellOf X2.out.1 2 _ rfl, cellOf X2.out.1 3 _ rfl⟩ (fun h2 => ?_)
      clear hK1 K1 hS
      (try simp only [Act.put, List.getElem_toArray, List.getElem_cons_succ, List.getElem_cons_zero, List.setIfInBounds_toArray, List.set_cons_zero, List.set_cons_succ])
      refine wpAnyH_take (i := 7) (v := ?_) rfl (by kernel_rfl) (by kernel_rfl) (by kernel_rfl) (fun _ _ _ h => h) (Or.inl ⟨by kernel_rfl, ?_⟩) h2 ?_
      rotate_left
      · intro w hSw; (try dsimp only at hSw); go_simp; try (with_reducible rfl)
      (try simp only [Act.put, List.getElem_toArray, List.getElem_cons_succ, List.getElem_cons_zero, List.setIfInBounds_toArray, List.set_cons_zero, List.set_cons_succ])
      refine wpAnyH_ready (rs := [8]) (by kernel_rfl) (by simp) ?_
      refine AllReadyH.cons rfl (fun K1 hK1 => ?_) AllReadyH.nil
      go_simp
      have X3 : Hid (Tw2 da dl df dx w (w2.alloc (.cells #[.int .u64 0, .int .u64 0, .bool false] 118)) w.heap.size w2.heap.size #[.int .u64 0, .int .u64 0, .bool false]) := X2.out.alloc _
      clear X2
      generalize w2.alloc (.cells #[.int .u64 0, .int .u64 0, .bool false] 118) = w3 at *
      generalize w2.heap.size = p at *
      refine hK1.out _ _ ⟨cellOf X3.out.1 0 _ rfl, cellOf X3.out.1 1 _ rfl, cellOf X3.out.1 2 _ rfl, cellOf X3.out.1 3 _ rfl⟩ (fun h3 => ?_)
      clear hK1 K1 h2
      (try simp only [Act.put, List.getElem_toArray, List.getElem_cons_succ, List.getElem_cons_zero, List.setIfInBounds_toArray, List.set_cons_zero, List.set_cons_succ])
      refine wpAnyH_ready (rs := [9]) (by kernel_rfl) (by simp) ?_
      refine AllReadyH.cons rfl (fun K1 hK1 => ?_) AllReadyH.nil
      rw [if_pos (by kernel_rfl)]
      refine wp_store_row 118 _ _ rfl p #[.int .u64 (da : Int), .int .u64 (dl : Int), .bool sb] rfl rfl 118 #[.int .u64 0, .int .u64 0, .bool false] X3.out.2.1 info52 rfl (by simp [Value.oneCell']) ?_
      have Y : Hid (Tw2 da dl df dx w (w3.setRow p #[.int .u64 (da : Int), .int .u64 (dl : Int), .bool sb]) w.heap.size p #[.int .u64 (da : Int), .int .u64 (dl : Int), .bool sb]) := X3.out.set _
      clear X3
      generalize w3.setRow p #[.int .u64 (da : Int), .int .u64 (dl : Int), .bool sb] = w9 at *
      refine hK1.out _ _ ⟨cellOf Y.out.1 0 _ rfl, cellOf Y.out.1 1 _ rfl, cellOf Y.out.1 2 _ rfl, cellOf Y.out.1 3 _ rfl⟩ (fun h9 => ?_)
      clear hK1 K1 h3
      (try simp only [Act.put, List.getElem_toArray, List.getElem_cons_succ, List.getElem_cons_zero, List.setIfInBounds_toArray, List.set_cons_zero, List.set_cons_succ])
      refine wpAnyH_done (by kernel_rfl) ?_ _
      go_wp2_with fail
      go_meet
      exact ⟨p, rfl, Y.out⟩

    · have _hm : True := trivial
      go_simp
      have X2 : Hid (Tw2 da dl df dx w (wd.alloc (.cells #[.int .u64 0, .int .u64 0, .bool false] 118)) w.heap.size wd.heap.size #[.int .u64 0, .int .u64 0, .bool false]) := Xd.out.alloc _
      clear Xd
      generalize wd.alloc (.cells #[.int .u64 0, .int .u64 0, .bool false] 118) = w2 at *
      generalize wd.heap.size = p at *
      refine hK1.out _ _ ⟨cellOf X2.out.1 0 _ rfl, cellOf X2.out.1 1 _ rfl, cellOf X2.out.1 2 _ rfl, cellOf X2.out.1 3 _ rfl⟩ (fun h2 => ?_)
      clear hK1 K1 hS
      (try simp only [Act.put, List.getElem_toArray, List.getElem_cons_succ, List.getElem_cons_zero, List.setIfInBounds_toArray, List.set_cons_zero, List.set_cons_succ])
      refine wpAnyH_ready (rs := [6]) (by kernel_rfl) (by simp) ?_
      refine AllReadyH.cons rfl (fun K1 hK1 => ?_) AllReadyH.nil
      go_simp
      refine (hasf2 da dl df dx hf _).mono ?_
      rintro e w3 ⟨rfl, hb⟩
      rw [hsb]
      have X3 : Hid (Tw2 da dl df dx w w3 w.heap.size p #[.int .u64 0, .int .u64 0, .bool false]) := X2.out.below hb
      clear hb X2
      refine hK1.out _ _ ⟨cellOf X3.out.1 0 _ rfl, cellOf X3.out.1 1 _ rfl, cellOf X3.out.1 2 _ rfl, cellOf X3.out.1 3 _ rfl⟩ (fun h3 => ?_)
      clear hK1 K1 h2
      (try simp only [Act.put, List.getElem_toArray, List.getElem_cons_succ, List.getElem_cons_zero, List.setIfInBounds_toArray, List.set_cons_zero, List.set_cons_succ])
      refine wpAnyH_take (i := 7) (v := ?_) rfl (by kernel_rfl) (by kernel_rfl) (by kernel_rfl) (fun _ _ _ h => h) (Or.inl ⟨by kernel_rfl, ?_⟩) h3 ?_
      rotate_left
      · intro w hSw; (try dsimp only at hSw); go_simp; try (with_reducible rfl)
      (try simp only [Act.put, List.getElem_toArray, List.getElem_cons_succ, List.getElem_cons_zero, List.setIfInBounds_toArray, List.set_cons_zero, List.set_cons_succ])
      refine wpAnyH_ready (rs := [9]) (by kernel_rfl) (by simp) ?_
      refine AllReadyH.cons rfl (fun K1 hK1 => ?_) AllReadyH.nil
      rw [if_pos (by kernel_rfl)]
      refine wp_store_row 118 _ _ rfl p #[.int .u64 (da : Int), .int .u64 (dl : Int), .bool sb] rfl rfl 118 #[.int .u64 0, .int .u64 0, .bool false] X3.out.2.1 info52 rfl (by simp [Value.oneCell']) ?_
      have Y : Hid (Tw2 da dl df dx w (w3.setRow p #[.int .u64 (da : Int), .int .u64 (dl : Int), .bool sb]) w.heap.size p #[.int .u64 (da : Int), .int .u64 (dl : Int), .bool sb]) := X3.out.set _
      clear X3
      generalize w3.setRow p #[.int .u64 (da : Int), .int .u64 (dl : Int), .bool sb] = w9 at *
      refine hK1.out _ _ ⟨cellOf Y.out.1 0 _ rfl, cellOf Y.out.1 1 _ rfl, cellOf Y.out.1 2 _ rfl, cellOf Y.out.1 3 _ rfl⟩ (fun h9 => ?_)
      clear hK1 K1 h3
      (try simp only [Act.put, List.getElem_toArray, List.getElem_cons_succ, List.getElem_cons_zero, List.setIfInBounds_toArray, List.set_cons_zero, List.set_cons_succ])
      refine wpAnyH_done (by kernel_rfl) ?_ _
      go_wp2_with fail
      go_meet
      exact ⟨p, rfl, Y.out⟩

  case rest =>
  obtain ⟨p, rfl, ht⟩ := hcut
  have X1 : Hid (Tw2 da dl df dx w wc w.heap.size p #[.int .u64 (da : Int), .int .u64 (dl : Int), .bool sb]) := ht
  clear ht
  go_upto_region 2 with fail
  have Xd : Hid (Tw2 da dl df dx w wc.drew w.heap.size p #[.int .u64 (da : Int), .int .u64 (dl : Int), .bool sb]) := X1.out.below (Below.refl _ _).drew
  have W1 : Hid (Wd Inv O F wc.drew rb wb l) := HW.out.below m Xd.out.2.2.2.2
  have HB : Hid (wc.drew.heap[wb]? = some (.cells #[.pointer (some ⟨rb, 0, none⟩), .slice a l.length c] 148 (0, 0)) ∧ SegIn 0 wc.drew (.slice a l.length c) l) := ⟨below_box HA.out.1 Xd.out.2.2.2.2, HA.out.2.1.kept (fun g hg => Xd.out.2.2.2.2.block g (HA.out.2.1.lt g hg).2)⟩
  have HP : Hid (∀ g, (Value.slice a l.length c).ownBlock = some g → g ≠ wb ∧ g ≠ p) := fun g hg => ⟨(HA.out.2.2 g hg).1, fun e => by have := (HA.out.2.1.lt g hg).2; have := Xd.out.2.2.2.1; omega⟩
  clear X0 X1 HA
  obtain ⟨n, hn⟩ : ∃ n, l.length = n := ⟨_, rfl⟩
  rw [hn] at HB HP
  have HPW : Hid (p ≠ wb) := fun e => by have := HW.out.lt; have := Xd.out.2.2.2.1; omega
  have hS5 : (fun Z : World => Z.cell? ⟨wb, 0, none⟩ = some (.pointer (some ⟨rb, 0, none⟩)) ∧ Z.cell? ⟨wb, 1, none⟩ = some (.slice a n c) ∧ Z.cell? ⟨p, 0, none⟩ = some (.int .u64 (da : Int)) ∧ Z.cell? ⟨p, 1, none⟩ = some (.int .u64 (dl : Int)) ∧ Z.cell? ⟨p, 2, none⟩ = some (.bool sb)) wc.drew := ⟨cellOf HB.out.1 0 _ rfl, cellOf HB.out.1 1 _ rfl, cellOf Xd.out.2.1 0 _ rfl, cellOf Xd.out.2.1 1 _ rfl, cellOf Xd.out.2.1 2 _ rfl⟩
  obtain ⟨ib, hin⟩ : ∃ ib, inB da dl 2147483648 8192 = ib := ⟨_, rfl⟩
  have HI : Hid (inB da dl 2147483648 8192 = ib) := hin
  have HN : Hid (l.length = n ∧ l.length ≤ 1000) := ⟨hn, hl⟩
  have hn2 : n ≤ 1000 := by omega
  clear hin hn hl
  go_region_held3 (fun Z => Z.cell? ⟨wb, 0, none⟩ = some (.pointer (some ⟨rb, 0, none⟩)) ∧ Z.cell? ⟨wb, 1, none⟩ = some (.slice a n c) ∧ Z.cell? ⟨p, 0, none⟩ = some (.int .u64 (da : Int)) ∧ Z.cell? ⟨p, 1, none⟩ = some (.int .u64 (dl : Int)) ∧ Z.cell? ⟨p, 2, none⟩ = some (.bool sb)) (go_keep) (first | (go_at_call 69; refine (HH.out _ Xd.out.2.2.2.2).mono ?_; rintro e w2 ⟨rfl, hw⟩; rw [hw]; clear hw w2; rw [HI.out]))
  generalize wc.drew = V at *
  cases ib with
  | false =>
    have he : addE l ⟨da, dl, df, dx⟩ = 21 := by simp [addE, HI.out]
    go_wp2_with fail
    go_ret
    exact ⟨rfl, W1.out, Fly.of_below Xd.out.2.2.2.2 HW.out.old⟩
  | true =>
    obtain ⟨lb, hlb⟩ : ∃ lb, (lastW l && !sb) = lb := ⟨_, rfl⟩
    have HL : Hid ((lastW l && !sb) = lb) := hlb
    clear hlb
    go_upto_region 5 with fail
    go_cut [47] (fun x wx => x = .bool lb ∧ wx = V)
    case first =>
      by_cases h0 : n = 0
      · have e1 : decide ((0 : Int) < n) = false := by simp [h0]
        have e2 : decide (0 < n) = false := by simp [h0]
        have e3 : ¬ (0 : Int) < n := by omega
        have el : lb = false := by
          have : l = [] := List.length_eq_zero_iff.1 (HN.out.1.trans h0)
          rw [← HL.out, this]; rfl
        subst el
        clear h0
        go_wp2_with fail
        go_meet
        exact ⟨rfl, rfl⟩
      · obtain ⟨k, hk⟩ : ∃ k, n = k + 1 := ⟨n - 1, by omega⟩
        have hkl : k < l.length := by have := HN.out.1; omega
        have hb2 := HB.out.2
        rw [← HN.out.1] at hb2
        obtain ⟨g, c', hsl, hcl⟩ := hb2.cells (by omega)
        simp only [Value.slice.injEq, true_and] at hsl
        obtain ⟨rfl, rfl⟩ := hsl
        have hlast := (hcl k hkl).2.2
        rw [← lastW_get hkl (by have := HN.out.1; omega)] at hlast
        have e1 : (0 : Int) < n := by omega
        have e4 : (n : Int) - 1 = (k : Int) := by omega
        have e5 : wrap64 (k : Int) = (k : Int) := by unfold wrap64; omega
        have e6 : (k : Int) < n := by omega
        have hL2 := HL.out
        obtain ⟨lw, hlw⟩ : ∃ lw, lastW l = lw := ⟨_, rfl⟩
        rw [hlw] at hlast hL2
        clear hk h0 hcl hb2 hkl hlw
        cases lw with
        | false =>
          have el : lb = false := by simpa using hL2.symm
          subst el
          clear hL2
          go_wp2_with fail
          go_meet
          exact ⟨rfl, rfl⟩
        | true =>
          cases sb with
          | false =>
            have el : lb = true := by simpa using hL2.symm
            subst el
            clear hL2
            go_wp2_with fail
            go_meet
            exact ⟨rfl, rfl⟩
          | true =>
            have el : lb = false := by simpa using hL2.symm
            subst el
            clear hL2
            go_wp2_with fail
            go_meet
            exact ⟨rfl, rfl⟩
    case rest =>
    obtain ⟨rfl, hw⟩ := hcut
    rw [hw]
    clear hw
    cases lb with
    | true =>
      have he : addE l ⟨da, dl, df, dx⟩ = 155 := by
        have := HL.out
        simp only [addE, HI.out, if_true, hsb, this]
      go_wp2_with fail
      go_ret
      exact ⟨rfl, W1.out, Fly.of_below Xd.out.2.2.2.2 HW.out.old⟩
    | false =>
      have he : addE l ⟨da, dl, df, dx⟩ = 0 := by
        have := HL.out
        simp [addE, HI.out, hsb, this]
      go_upto_region 7 with fail
      have Xe : Hid (Tw2 da dl df dx w V.drew w.heap.size p #[.int .u64 (da : Int), .int .u64 (dl : Int), .bool sb]) := Xd.out.below (Below.refl _ _).drew
      have W2 : Hid (Wd Inv O F V.drew rb wb l) := W1.out.below m (Below.refl _ _).drew
      have HB2 : Hid (V.drew.heap[wb]? = some (.cells #[.pointer (some ⟨rb, 0, none⟩), .slice a n c] 148 (0, 0)) ∧ SegIn 0 V.drew (.slice a n c) l) := HB.out
      clear HB hS5
      refine wp_region_held_drew (S := fun Z => Z.cell? ⟨wb, 0, none⟩ = some (.pointer (some ⟨rb, 0, none⟩)) ∧ Z.cell? ⟨p, 0, none⟩ = some (.int .u64 (da : Int)) ∧ Z.cell? ⟨p, 1, none⟩ = some (.int .u64 (dl : Int)) ∧ Z.cell? ⟨p, 2, none⟩ = some (.bool sb)) (by kernel_rfl) ⟨cellOf HB2.out.1 0 _ rfl, cellOf Xe.out.2.1 0 _ rfl, cellOf Xe.out.2.1 1 _ rfl, cellOf Xe.out.2.1 2 _ rfl⟩ ?_
      intro hS
      clear Xd W1
      generalize V.drew = V2 at *
      refine wpAnyH_take (i := 0) (v := ?_) rfl (by kernel_rfl) (by kernel_rfl) (by kernel_rfl) (fun _ _ _ h => h) (Or.inl ⟨by kernel_rfl, ?_⟩) hS ?_
      rotate_left
      · intro w hSw; (try dsimp only at hSw); go_simp; try (with_reducible rfl)
      (try simp only [Act.put, List.getElem_toArray, List.getElem_cons_succ, List.getElem_cons_zero, List.setIfInBounds_toArray, List.set_cons_zero, List.set_cons_succ])
      refine wpAnyH_take (i := 1) (v := ?_) rfl (by kernel_rfl) (by kernel_rfl) (by kernel_rfl) (fun _ _ _ h => h) (Or.inl ⟨by kernel_rfl, ?_⟩) hS ?_
      rotate_left
      · intro w hSw; (try dsimp only at hSw); go_simp; try (with_reducible rfl)
      (try simp only [Act.put, List.getElem_toArray, List.getElem_cons_succ, List.getElem_cons_zero, List.setIfInBounds_toArray, List.set_cons_zero, List.set_cons_succ])
      refine wpAnyH_take (i := 2) (v := ?_) rfl (by kernel_rfl) (by kernel_rfl) (by kernel_rfl) (fun _ _ _ h => h) (Or.inl ⟨by kernel_rfl, ?_⟩) hS ?_
      rotate_left
      · intro w hSw; (try dsimp only at hSw); go_simp; try (with_reducible rfl)
      (try simp only [Act.put, List.getElem_toArray, List.getElem_cons_succ, List.getElem_cons_zero, List.setIfInBounds_toArray, List.set_cons_zero, List.set_cons_succ])
      refine wpAnyH_take (i := 3) (v := ?_) rfl (by kernel_rfl) (by kernel_rfl) (by kernel_rfl) (fun _ _ _ h => h) (Or.inl ⟨by kernel_rfl, ?_⟩) hS ?_
      rotate_left
      · intro w hSw; (try dsimp only at hSw); go_simp; try (with_reducible rfl)
      (try simp only [Act.put, List.getElem_toArray, List.getElem_cons_succ, List.getElem_cons_zero, List.setIfInBounds_toArray, List.set_cons_zero, List.set_cons_succ])
      refine wpAnyH_take (i := 5) (v := ?_) rfl (by kernel_rfl) (by kernel_rfl) (by kernel_rfl) (fun _ _ _ h => h) (Or.inl ⟨by kernel_rfl, ?_⟩) hS ?_
      rotate_left
      · intro w hSw; (try dsimp only at hSw); go_simp; try (with_reducible rfl)
      (try simp only [Act.put, List.getElem_toArray, List.getElem_cons_succ, List.getElem_cons_zero, List.setIfInBounds_toArray, List.set_cons_zero, List.set_cons_succ])
      refine wpAnyH_ready (rs := [4, 6]) (by kernel_rfl) (by simp) ?_
      refine AllReadyH.cons rfl (fun K1 hK1 => ?_) (AllReadyH.cons rfl (fun K1 hK1 => ?_) AllReadyH.nil)
      · have m1 := cellOf HB2.out.1 1 _ rfl
        go_simp
        refine hK1.out _ _ ⟨cellOf HB2.out.1 0 _ rfl, cellOf Xe.out.2.1 0 _ rfl, cellOf Xe.out.2.1 1 _ rfl, cellOf Xe.out.2.1 2 _ rfl⟩ (fun h2 => ?_)
        clear hK1 K1 hS m1
        (try simp only [Act.put, List.getElem_toArray, List.getElem_cons_succ, List.getElem_cons_zero, List.setIfInBounds_toArray, List.set_cons_zero, List.set_cons_succ])
        refine wpAnyH_ready (rs := [6]) (by kernel_rfl) (by simp) ?_
        refine AllReadyH.cons rfl (fun K1 hK1 => ?_) AllReadyH.nil
        go_simp
        have hb3 : Below V2.heap.size V2 (V2.alloc (.cells #[.int .u64 (da : Int), .int .u64 (dl : Int), .bool sb] 118)) := (Below.refl _ _).alloc (Nat.le_refl _) _
        have W3 : Hid (Wd Inv O F (V2.alloc (.cells #[.int .u64 (da : Int), .int .u64 (dl : Int), .bool sb] 118)) rb wb l) := W2.out.below m hb3
        have Xf : Hid (Tw2 da dl df dx w (V2.alloc (.cells #[.int .u64 (da : Int), .int .u64 (dl : Int), .bool sb] 118)) w.heap.size p #[.int .u64 (da : Int), .int .u64 (dl : Int), .bool sb]) := Xe.out.below hb3
        have HB3 : Hid ((V2.alloc (.cells #[.int .u64 (da : Int), .int .u64 (dl : Int), .bool sb] 118)).heap[wb]? = some (.cells #[.pointer (some ⟨rb, 0, none⟩), .slice a n c] 148 (0, 0)) ∧ SegIn 0 (V2.alloc (.cells #[.int .u64 (da : Int), .int .u64 (dl : Int), .bool sb] 118)) (.slice a n c) l) := ⟨below_box HB2.out.1 hb3, HB2.out.2.kept (fun g hg => hb3.block g (HB2.out.2.lt g hg).2)⟩
        have N3 := three_new V2 (.int .u64 (da : Int)) (.int .u64 (dl : Int)) (.bool sb) 118
        have HN3 : Hid (∀ j u, [Value.int .u64 (da : Int), .int .u64 (dl : Int), .bool sb][j]? = some u → (V2.alloc (.cells #[.int .u64 (da : Int), .int .u64 (dl : Int), .bool sb] 118)).cell? ((⟨V2.heap.size, 0, none⟩ : Addr).add j) = some u) := N3
        clear hb3 N3 W2 Xe HB2
        generalize V2.alloc (.cells #[.int .u64 (da : Int), .int .u64 (dl : Int), .bool sb] 118) = V3 at *
        generalize V2.heap.size = gb at *
        refine hK1.out _ _ ⟨cellOf HB3.out.1 0 _ rfl, cellOf Xf.out.2.1 0 _ rfl, cellOf Xf.out.2.1 1 _ rfl, cellOf Xf.out.2.1 2 _ rfl⟩ (fun h3 => ?_)
        clear hK1 K1 h2
        (try simp only [Act.put, List.getElem_toArray, List.getElem_cons_succ, List.getElem_cons_zero, List.setIfInBounds_toArray, List.set_cons_zero, List.set_cons_succ])
        refine wpAnyH_ready (rs := [7]) (by kernel_rfl) (by simp) ?_
        refine AllReadyH.cons rfl (fun K1 hK1 => ?_) AllReadyH.nil
        rw [if_pos (by kernel_rfl)]
        refine wp_append_lies V3 _ _ 55 rfl 0 118 i0 (.agg #[.int .u64 0, .int .u64 0, .bool false]) 3 24 Tryz.underlying55 hi hz0 hz1 hz2 rfl (by decide) (.slice a n c) n (segRow l) rfl (by have := HB3.out.2; unfold SegIn at this; rw [HN.out.1] at this; exact this) ⟨gb, 0, none⟩ 1 1 [.int .u64 (da : Int), .int .u64 (dl : Int), .bool sb] rfl rfl HN3.out (by intro u hu; simp at hu; rcases hu with rfl | rfl | rfl <;> rfl) (by omega) (by unfold maxLen; omega) (by omega) (Nat.zero_le _) V3.heap.size rfl ?_
        intro g cap w1 hown hgrow hat hlt
        have D1 : Hid (w1.heap[wb]? = some (.cells #[.pointer (some ⟨rb, 0, none⟩), .slice a n c] 148 (0, 0)) ∧ w1.heap[p]? = some (.cells #[.int .u64 (da : Int), .int .u64 (dl : Int), .bool sb] 118 (0, 0))) := ⟨(hgrow.block wb W3.out.lt (fun e => (HP.out wb e.symm).1 rfl)).trans HB3.out.1, (hgrow.block p (Array.getElem?_eq_some_iff.1 Xf.out.2.1).1 (fun e => (HP.out p e.symm).2 rfl)).trans Xf.out.2.1⟩
        have HM : Hid (Wd Inv O F (w1.setCell ⟨wb, 1, none⟩ (.slice (some ⟨g, 0, none⟩) (n + 1) cap)) rb wb (l ++ [⟨da, dl, sb⟩]) ∧ Fly O F V3 F (w1.setCell ⟨wb, 1, none⟩ (.slice (some ⟨g, 0, none⟩) (n + 1) cap))) := by
          obtain ⟨hn, _⟩ := HN.out
          subst hn
          exact W3.out.more m HB3.out.1 (s := ⟨da, dl, sb⟩) hown hgrow (hat.imp id (fun e => by omega))
        clear hown hgrow hat hlt
        refine hK1.out _ _ ⟨cellOf D1.out.1 0 _ rfl, cellOf D1.out.2 0 _ rfl, cellOf D1.out.2 1 _ rfl, cellOf D1.out.2 2 _ rfl⟩ (fun h4 => ?_)
        clear hK1 K1 h3
        (try simp only [Act.put, List.getElem_toArray, List.getElem_cons_succ, List.getElem_cons_zero, List.setIfInBounds_toArray, List.set_cons_zero, List.set_cons_succ])
        refine wpAnyH_take (i := 8) (v := ?_) rfl (by kernel_rfl) (by kernel_rfl) (by kernel_rfl) (fun _ _ _ h => h) (Or.inl ⟨by kernel_rfl, ?_⟩) h4 ?_
        rotate_left
        · intro w hSw; (try dsimp only at hSw); go_simp; try (with_reducible rfl)
        (try simp only [Act.put, List.getElem_toArray, List.getElem_cons_succ, List.getElem_cons_zero, List.setIfInBounds_toArray, List.set_cons_zero, List.set_cons_succ])
        refine wpAnyH_take (i := 9) (v := ?_) rfl (by kernel_rfl) (by kernel_rfl) (by kernel_rfl) (fun _ _ _ h => h) (Or.inl ⟨by kernel_rfl, ?_⟩) h4 ?_
        rotate_left
        · intro w hSw; (try dsimp only at hSw); go_simp; try (with_reducible rfl)
        (try simp only [Act.put, List.getElem_toArray, List.getElem_cons_succ, List.getElem_cons_zero, List.setIfInBounds_toArray, List.set_cons_zero, List.set_cons_succ])
        refine wpAnyH_ready (rs := [10]) (by kernel_rfl) (by simp) ?_
        refine AllReadyH.cons rfl (fun K1 hK1 => ?_) AllReadyH.nil
        have m1 := cellOf D1.out.1 1 _ rfl
        have m2 := frozenOf D1.out.1 1
        go_simp
        have HF : Hid (Fly O F w F (w1.setCell ⟨wb, 1, none⟩ (.slice (some ⟨g, 0, none⟩) (n + 1) cap))) := (Fly.of_below Xf.out.2.2.2.2 HW.out.old).trans HM.out.2
        have HM2 : Hid (Wd Inv O F (w1.setCell ⟨wb, 1, none⟩ (.slice (some ⟨g, 0, none⟩) (n + 1) cap)) rb wb (l ++ [⟨da, dl, sb⟩]) ∧ (w1.setCell ⟨wb, 1, none⟩ (.slice (some ⟨g, 0, none⟩) (n + 1) cap)).heap[wb]? = some (.cells #[.pointer (some ⟨rb, 0, none⟩), .slice (some ⟨g, 0, none⟩) (n + 1) cap] 148 (0, 0)) ∧ (w1.setCell ⟨wb, 1, none⟩ (.slice (some ⟨g, 0, none⟩) (n + 1) cap)).heap[p]? = some (.cells #[.int .u64 (da : Int), .int .u64 (dl : Int), .bool sb] 118 (0, 0))) := ⟨HM.out.1, setw_box D1.out.1, (heap_setCell _ _ _ _ _ HPW.out).trans D1.out.2⟩
        clear HM m1 m2
        generalize w1.setCell ⟨wb, 1, none⟩ (.slice (some ⟨g, 0, none⟩) (n + 1) cap) = w4 at *
        refine hK1.out _ _ ⟨cellOf HM2.out.2.1 0 _ rfl, cellOf HM2.out.2.2 0 _ rfl, cellOf HM2.out.2.2 1 _ rfl, cellOf HM2.out.2.2 2 _ rfl⟩ (fun h5 => ?_)
        clear hK1 K1 h4
        (try simp only [Act.put, List.getElem_toArray, List.getElem_cons_succ, List.getElem_cons_zero, List.setIfInBounds_toArray, List.set_cons_zero, List.set_cons_succ])
        refine wpAnyH_done (by kernel_rfl) ?_ _
        clear h5
        go_wp2_with fail
        go_ret
        exact ⟨rfl, HM2.out.1, HF.out⟩
      · have _hm : True := trivial
        go_simp
        have hb3 : Below V2.heap.size V2 (V2.alloc (.cells #[.int .u64 (da : Int), .int .u64 (dl : Int), .bool sb] 118)) := (Below.refl _ _).alloc (Nat.le_refl _) _
        have W3 : Hid (Wd Inv O F (V2.alloc (.cells #[.int .u64 (da : Int), .int .u64 (dl : Int), .bool sb] 118)) rb wb l) := W2.out.below m hb3
        have Xf : Hid (Tw2 da dl df dx w (V2.alloc (.cells #[.int .u64 (da : Int), .int .u64 (dl : Int), .bool sb] 118)) w.heap.size p #[.int .u64 (da : Int), .int .u64 (dl : Int), .bool sb]) := Xe.out.below hb3
        have HB3 : Hid ((V2.alloc (.cells #[.int .u64 (da : Int), .int .u64 (dl : Int), .bool sb] 118)).heap[wb]? = some (.cells #[.pointer (some ⟨rb, 0, none⟩), .slice a n c] 148 (0, 0)) ∧ SegIn 0 (V2.alloc (.cells #[.int .u64 (da : Int), .int .u64 (dl : Int), .bool sb] 118)) (.slice a n c) l) := ⟨below_box HB2.out.1 hb3, HB2.out.2.kept (fun g hg => hb3.block g (HB2.out.2.lt g hg).2)⟩
        have N3 := three_new V2 (.int .u64 (da : Int)) (.int .u64 (dl : Int)) (.bool sb) 118
        have HN3 : Hid (∀ j u, [Value.int .u64 (da : Int), .int .u64 (dl : Int), .bool sb][j]? = some u → (V2.alloc (.cells #[.int .u64 (da : Int), .int .u64 (dl : Int), .bool sb] 118)).cell? ((⟨V2.heap.size, 0, none⟩ : Addr).add j) = some u) := N3
        clear hb3 N3 W2 Xe HB2
        generalize V2.alloc (.cells #[.int .u64 (da : Int), .int .u64 (dl : Int), .bool sb] 118) = V3 at *
        generalize V2.heap.size = gb at *
        refine hK1.out _ _ ⟨cellOf HB3.out.1 0 _ rfl, cellOf Xf.out.2.1 0 _ rfl, cellOf Xf.out.2.1 1 _ rfl, cellOf Xf.out.2.1 2 _ rfl⟩ (fun h3 => ?_)
        clear hK1 K1 hS
        (try simp only [Act.put, List.getElem_toArray, List.getElem_cons_succ, List.getElem_cons_zero, List.setIfInBounds_toArray, List.set_cons_zero, List.set_cons_succ])
        refine wpAnyH_ready (rs := [4]) (by kernel_rfl) (by simp) ?_
        refine AllReadyH.cons rfl (fun K1 hK1 => ?_) AllReadyH.nil
        have m1 := cellOf HB3.out.1 1 _ rfl
        go_simp
        refine hK1.out _ _ ⟨cellOf HB3.out.1 0 _ rfl, cellOf Xf.out.2.1 0 _ rfl, cellOf Xf.out.2.1 1 _ rfl, cellOf Xf.out.2.1 2 _ rfl⟩ (fun h33 => ?_)
        clear hK1 K1 h3 m1
        (try simp only [Act.put, List.getElem_toArray, List.getElem_cons_succ, List.getElem_cons_zero, List.setIfInBounds_toArray, List.set_cons_zero, List.set_cons_succ])
        have h3 := h33
        clear h33
        refine wpAnyH_ready (rs := [7]) (by kernel_rfl) (by simp) ?_
        refine AllReadyH.cons rfl (fun K1 hK1 => ?_) AllReadyH.nil
        rw [if_pos (by kernel_rfl)]
        refine wp_append_lies V3 _ _ 55 rfl 0 118 i0 (.agg #[.int .u64 0, .int .u64 0, .bool false]) 3 24 Tryz.underlying55 hi hz0 hz1 hz2 rfl (by decide) (.slice a n c) n (segRow l) rfl (by have := HB3.out.2; unfold SegIn at this; rw [HN.out.1] at this; exact this) ⟨gb, 0, none⟩ 1 1 [.int .u64 (da : Int), .int .u64 (dl : Int), .bool sb] rfl rfl HN3.out (by intro u hu; simp at hu; rcases hu with rfl | rfl | rfl <;> rfl) (by omega) (by unfold maxLen; omega) (by omega) (Nat.zero_le _) V3.heap.size rfl ?_
        intro g cap w1 hown hgrow hat hlt
        have D1 : Hid (w1.heap[wb]? = some (.cells #[.pointer (some ⟨rb, 0, none⟩), .slice a n c] 148 (0, 0)) ∧ w1.heap[p]? = some (.cells #[.int .u64 (da : Int), .int .u64 (dl : Int), .bool sb] 118 (0, 0))) := ⟨(hgrow.block wb W3.out.lt (fun e => (HP.out wb e.symm).1 rfl)).trans HB3.out.1, (hgrow.block p (Array.getElem?_eq_some_iff.1 Xf.out.2.1).1 (fun e => (HP.out p e.symm).2 rfl)).trans Xf.out.2.1⟩
        have HM : Hid (Wd Inv O F (w1.setCell ⟨wb, 1, none⟩ (.slice (some ⟨g, 0, none⟩) (n + 1) cap)) rb wb (l ++ [⟨da, dl, sb⟩]) ∧ Fly O F V3 F (w1.setCell ⟨wb, 1, none⟩ (.slice (some ⟨g, 0, none⟩) (n + 1) cap))) := by
          obtain ⟨hn, _⟩ := HN.out
          subst hn
          exact W3.out.more m HB3.out.1 (s := ⟨da, dl, sb⟩) hown hgrow (hat.imp id (fun e => by omega))
        clear hown hgrow hat hlt
        refine hK1.out _ _ ⟨cellOf D1.out.1 0 _ rfl, cellOf D1.out.2 0 _ rfl, cellOf D1.out.2 1 _ rfl, cellOf D1.out.2 2 _ rfl⟩ (fun h4 => ?_)
        clear hK1 K1 h3
        (try simp only [Act.put, List.getElem_toArray, List.getElem_cons_succ, List.getElem_cons_zero, List.setIfInBounds_toArray, List.set_cons_zero, List.set_cons_succ])
        refine wpAnyH_take (i := 8) (v := ?_) rfl (by kernel_rfl) (by kernel_rfl) (by kernel_rfl) (fun _ _ _ h => h) (Or.inl ⟨by kernel_rfl, ?_⟩) h4 ?_
        rotate_left
        · intro w hSw; (try dsimp only at hSw); go_simp; try (with_reducible rfl)
        (try simp only [Act.put, List.getElem_toArray, List.getElem_cons_succ, List.getElem_cons_zero, List.setIfInBounds_toArray, List.set_cons_zero, List.set_cons_succ])
        refine wpAnyH_take (i := 9) (v := ?_) rfl (by kernel_rfl) (by kernel_rfl) (by kernel_rfl) (fun _ _ _ h => h) (Or.inl ⟨by kernel_rfl, ?_⟩) h4 ?_
        rotate_left
        · intro w hSw; (try dsimp only at hSw); go_simp; try (with_reducible rfl)
        (try simp only [Act.put, List.getElem_toArray, List.getElem_cons_succ, List.getElem_cons_zero, List.setIfInBounds_toArray, List.set_cons_zero, List.set_cons_succ])
        refine wpAnyH_ready (rs := [10]) (by kernel_rfl) (by simp) ?_
        refine AllReadyH.cons rfl (fun K1 hK1 => ?_) AllReadyH.nil
        have m1 := cellOf D1.out.1 1 _ rfl
        have m2 := frozenOf D1.out.1 1
        go_simp
        have HF : Hid (Fly O F w F (w1.setCell ⟨wb, 1, none⟩ (.slice (some ⟨g, 0, none⟩) (n + 1) cap))) := (Fly.of_below Xf.out.2.2.2.2 HW.out.old).trans HM.out.2
        have HM2 : Hid (Wd Inv O F (w1.setCell ⟨wb, 1, none⟩ (.slice (some ⟨g, 0, none⟩) (n + 1) cap)) rb wb (l ++ [⟨da, dl, sb⟩]) ∧ (w1.setCell ⟨wb, 1, none⟩ (.slice (some ⟨g, 0, none⟩) (n + 1) cap)).heap[wb]? = some (.cells #[.pointer (some ⟨rb, 0, none⟩), .slice (some ⟨g, 0, none⟩) (n + 1) cap] 148 (0, 0)) ∧ (w1.setCell ⟨wb, 1, none⟩ (.slice (some ⟨g, 0, none⟩) (n + 1) cap)).heap[p]? = some (.cells #[.int .u64 (da : Int), .int .u64 (dl : Int), .bool sb] 118 (0, 0))) := ⟨HM.out.1, setw_box D1.out.1, (heap_setCell _ _ _ _ _ HPW.out).trans D1.out.2⟩
        clear HM m1 m2
        generalize w1.setCell ⟨wb, 1, none⟩ (.slice (some ⟨g, 0, none⟩) (n + 1) cap) = w4 at *
        refine hK1.out _ _ ⟨cellOf HM2.out.2.1 0 _ rfl, cellOf HM2.out.2.2 0 _ rfl, cellOf HM2.out.2.2 1 _ rfl, cellOf HM2.out.2.2 2 _ rfl⟩ (fun h5 => ?_)
        clear hK1 K1 h4
        (try simp only [Act.put, List.getElem_toArray, List.getElem_cons_succ, List.getElem_cons_zero, List.setIfInBounds_toArray, List.set_cons_zero, List.set_cons_succ])
        refine wpAnyH_done (by kernel_rfl) ?_ _
        clear h5
        go_wp2_with fail
        go_ret
        exact ⟨rfl, HM2.out.1, HF.out⟩
end Go.Proofs.YtmjdnocilbnoaaaGreat

/- A walk along one table. -/
namespace Go.Proofs.YtmjdnocilbnoaaaGreat
open Go.RowKit Go.Maps
set_option linter.unusedVariables false
set_option linter.unusedSimpArgs false
set_option maxRecDepth 100000
theorem wrapi (y : Nat) (h : y < 9223372036854775808) : IntKind.i64.wrap (y : Int) = (y : Int) := by
  simp [IntKind.wrap, IntKind.signed, IntKind.bits]
  omega
/-- what Desc tells of the descriptors of one table -/
def DescOk (rb : Nat) (M : Nat → Nat) (Inv : (Nat → Prop) → World → Prop) (t n : Nat) : Prop := ∀ (F : Nat → Prop) (w : World) (i : Nat), i < n → Inv F w → Calls Tryz.prog 104 #[.pointer (some ⟨rb, 0, none⟩), .int .u64 (t : Int), .int .i64 (i : Int)] w fun e w' => e = .returned (.tuple #[.agg #[.int .u64 ((deN M t i).a : Int), .int .u32 ((deN M t i).l : Int), .int .u16 ((deN M t i).f : Int), .int .u16 ((deN M t i).x : Int)], .bool (deB t i)]) ∧ ∃ F', Inv F' w' ∧ Step F w F' w'
def AlS (rb wb : Nat) (M : Nat → Nat) (Inv : (Nat → Prop) → World → Prop) (O F : Nat → Prop) (w w1 : World) (t n : Nat) (i : Int) (l : List Seg) (k : Nat) (i' : Int) (l' : List Seg) (F' : Nat → Prop) (V : World) : Prop := alongR M t n n i l = alongR M t n (n - k) i' l' ∧ Wd Inv (fun k => O k ∨ k = w.heap.size) F' V rb wb l' ∧ Fly (fun k => O k ∨ k = w.heap.size) F w1 F' V ∧ V.heap[w.heap.size]? = some (.cells #[.int .u64 0, .int .u32 0, .int .u16 0, .int .u16 0] 150 (0, 0)) ∧ ¬ F' w.heap.size ∧ l'.length ≤ 300 + k
theorem AlS.told {rb wb : Nat} {M : Nat → Nat} {Inv : (Nat → Prop) → World → Prop} {O F : Nat → Prop} {w w1 : World} {t n : Nat} {i : Int} {l : List Seg} {k : Nat} {i' : Int} {l' : List Seg} {F' F2 : Nat → Prop} {V V2 : World} (h : AlS rb wb M Inv O F w w1 t n i l k i' l' F' V) (hi : Inv F2 V2) (hs : Step F' V F2 V2) : AlS rb wb M Inv O F w w1 t n i l k i' l' F2 V2 := by
  obtain ⟨h1, h2, h3, h4, h5, h6⟩ := h
  have hlt : w.heap.size < V.heap.size := (Array.getElem?_eq_some_iff.1 h4).1
  refine ⟨h1, h2.told hi hs, h3.trans (Fly.of_step hs h2.old), (hs.block _ hlt h5).trans h4, fun hf => ?_, h6⟩
  rcases hs.old _ hf with h | h
  · exact h5 h
  · omega
theorem AlS.below {rb wb : Nat} {M : Nat → Nat} {Inv : (Nat → Prop) → World → Prop} {O F : Nat → Prop} {w w1 : World} {t n : Nat} {i : Int} {l : List Seg} {k : Nat} {i' : Int} {l' : List Seg} {F' : Nat → Prop} {V V2 : World} (m : Wm rb M Inv) (h : AlS rb wb M Inv O F w w1 t n i l k i' l' F' V) (hb : Below V.heap.size V V2) : AlS rb wb M Inv O F w w1 t n i l k i' l' F' V2 := h.told (m.below h.2.1.1 hb) (Step.of_below hb)
theorem AlS.ret {rb wb : Nat} {M : Nat → Nat} {Inv : (Nat → Prop) → World → Prop} {O F : Nat → Prop} {w w1 : World} {t n : Nat} {i : Int} {l : List Seg} {k : Nat} {i' : Int} {l' : List Seg} {F' : Nat → Prop} {V : World} (m : Wm rb M Inv) (hO : ∀ k, O k → k < w.heap.size) (h : AlS rb wb M Inv O F w w1 t n i l k i' l' F' V) (c : Array Value) : Wd Inv O F' (V.setRow w.heap.size c) rb wb l' ∧ Fly O F w1 F' (V.setRow w.heap.size c) ∧ (V.setRow w.heap.size c).heap[w.heap.size]? = some (.cells c 150 (0, 0)) := by
  obtain ⟨h1, h2, h3, h4, h5, h6⟩ := h
  have hsz : (V.setRow w.heap.size c).heap.size = V.heap.size := by simp [World.setRow]
  have hst : Step (fun k => k = w.heap.size) V (fun k => k = w.heap.size) (V.setRow w.heap.size c) := ⟨rfl, rfl, rfl, by omega, fun k _ hk => setRow_other _ _ _ _ hk, fun _ h => .inl h, fun _ h => h⟩
  obtain ⟨k1, k2, k3, v, k4, k5, k6⟩ := h2
  refine ⟨⟨m.step F' V _ _ _ k1 hst (fun k hk e => h5 (e ▸ hk)), ⟨fun k hk => by rw [hsz]; exact k2.1 k (.inl hk), fun hk => k2.2 (.inl hk)⟩, k3, v, (setRow_other _ _ _ _ (fun e => k2.2 (.inr e))).trans k4, k5.kept (fun g hg => setRow_other _ _ _ _ (fun e => (k6 g hg).2.2 (.inr e))), fun g hg => ⟨(k6 g hg).1, (k6 g hg).2.1, fun hk => (k6 g hg).2.2 (.inl hk)⟩⟩, (h3.mono (fun k hk => .inl hk)).trans ⟨rfl, rfl, rfl, by omega, fun k hk _ => setRow_other _ _ _ _ (fun e => by have := hO k hk; omega), fun _ h => .inl h, fun _ h => h⟩, setRow_heap _ _ _ _ _ _ h4⟩
def Al3 (rb wb : Nat) (Inv : (Nat → Prop) → World → Prop) (O F : Nat → Prop) (w w1 : World) (l' : List Seg) (F' : Nat → Prop) (V : World) (p da dl df dx : Nat) : Prop :=
  (True ∧ Wd Inv (fun k => O k ∨ k = w.heap.size) F' V rb wb l' ∧ Fly (fun k => O k ∨ k = w.heap.size) F w1 F' V ∧ V.heap[w.heap.size]? = some (.cells #[.int .u64 0, .int .u32 0, .int .u16 0, .int .u16 0] 150 (0, 0)) ∧ ¬ F' w.heap.size) ∧ V.heap[p]? = some (.cells #[.int .u64 (da : Int), .int .u32 (dl : Int), .int .u16 (df : Int), .int .u16 (dx : Int)] 150 (0, 0))
def Al2 (rb wb : Nat) (M : Nat → Nat) (Inv : (Nat → Prop) → World → Prop) (O F : Nat → Prop) (w w1 : World) (t n : Nat) (i : Int) (l : List Seg) (k : Nat) (i' : Int) (l' : List Seg) (F' : Nat → Prop) (V : World) (p da dl df dx : Nat) : Prop :=
  AlS rb wb M Inv O F w w1 t n i l k i' l' F' V ∧ V.heap[p]? = some (.cells #[.int .u64 (da : Int), .int .u32 (dl : Int), .int .u16 (df : Int), .int .u16 (dx : Int)] 150 (0, 0)) ∧ Wd Inv (fun z => (O z ∨ z = w.heap.size) ∨ z = p) F' V rb wb l' ∧ ¬ F' p
section
variable {rb wb : Nat} {M : Nat → Nat} {Inv : (Nat → Prop) → World → Prop} {O F : Nat → Prop} {w w1 : World} {t n : Nat} {i : Int} {l : List Seg} {k k' : Nat} {i' i2 : Int} {l' l2 : List Seg} {F' : Nat → Prop} {V V2 : World} {p da dl df dx : Nat}
theorem Al2.below (m : Wm rb M Inv) (h : Al2 rb wb M Inv O F w w1 t n i l k i' l' F' V p da dl df dx) (hb : Below V.heap.size V V2) : Al2 rb wb M Inv O F w w1 t n i l k i' l' F' V2 p da dl df dx := ⟨h.1.below m hb, below_box h.2.1 hb, h.2.2.1.below m hb, h.2.2.2⟩
theorem Al2.flew (h : Al2 rb wb M Inv O F w w1 t n i l k i' l' F' V p da dl df dx) (hw : Wd Inv (fun z => (O z ∨ z = w.heap.size) ∨ z = p) F' V2 rb wb l2) (hf : Fly (fun z => (O z ∨ z = w.heap.size) ∨ z = p) F' V F' V2) (he : alongR M t n n i l = alongR M t n (n - k') i2 l2) (hl : l2.length ≤ 300 + k') : Al2 rb wb M Inv O F w w1 t n i l k' i2 l2 F' V2 p da dl df dx :=
  ⟨⟨he, hw.mono (fun _ h => .inl h), h.1.2.2.1.trans (hf.mono (fun _ h => .inl h)), (hf.block _ (.inl (.inr rfl)) h.1.2.2.2.2.1).trans h.1.2.2.2.1, h.1.2.2.2.2.1, hl⟩, (hf.block _ (.inr rfl) h.2.2.2).trans h.2.1, hw, h.2.2.2⟩
theorem Al2.flew3 (h : Al2 rb wb M Inv O F w w1 t n i l k i' l' F' V p da dl df dx) (hw : Wd Inv (fun z => (O z ∨ z = w.heap.size) ∨ z = p) F' V2 rb wb l2) (hf : Fly (fun z => (O z ∨ z = w.heap.size) ∨ z = p) F' V F' V2) : Al3 rb wb Inv O F w w1 l2 F' V2 p da dl df dx :=
  ⟨⟨trivial, hw.mono (fun _ h => .inl h), h.1.2.2.1.trans (hf.mono (fun _ h => .inl h)), (hf.block _ (.inl (.inr rfl)) h.1.2.2.2.2.1).trans h.1.2.2.2.1, h.1.2.2.2.2.1⟩, (hf.block _ (.inr rfl) h.2.2.2).trans h.2.1⟩
theorem Al3.below (m : Wm rb M Inv) (h : Al3 rb wb Inv O F w w1 l' F' V p da dl df dx) (hb : Below V.heap.size V V2) : Al3 rb wb Inv O F w w1 l' F' V2 p da dl df dx :=
  ⟨⟨trivial, h.1.2.1.below m hb, h.1.2.2.1.trans (Fly.of_below hb h.1.2.1.old), below_box h.1.2.2.2.1 hb, h.1.2.2.2.2⟩, below_box h.2 hb⟩
theorem Al3.ret (m : Wm rb M Inv) (hO : ∀ k, O k → k < w.heap.size) (h : Al3 rb wb Inv O F w w1 l' F' V p da dl df dx) (c : Array Value) : Wd Inv O F' (V.setRow w.heap.size c) rb wb l' ∧ Fly O F w1 F' (V.setRow w.heap.size c) ∧ (V.setRow w.heap.size c).heap[w.heap.size]? = some (.cells c 150 (0, 0)) := by
  obtain ⟨⟨_, h2, h3, h4, h5⟩, _⟩ := h
  have hsz : (V.setRow w.heap.size c).heap.size = V.heap.size := by simp [World.setRow]
  have hst : Step (fun k => k = w.heap.size) V (fun k => k = w.heap.size) (V.setRow w.heap.size c) := ⟨rfl, rfl, rfl, by omega, fun k _ hk => setRow_other _ _ _ _ hk, fun _ h => .inl h, fun _ h => h⟩
  obtain ⟨k1, k2, k3, v, k4, k5, k6⟩ := h2
  refine ⟨⟨m.step F' V _ _ _ k1 hst (fun k hk e => h5 (e ▸ hk)), ⟨fun k hk => by rw [hsz]; exact k2.1 k (.inl hk), fun hk => k2.2 (.inl hk)⟩, k3, v, (setRow_other _ _ _ _ (fun e => k2.2 (.inr e))).trans k4, k5.kept (fun g hg => setRow_other _ _ _ _ (fun e => (k6 g hg).2.2 (.inr e))), fun g hg => ⟨(k6 g hg).1, (k6 g hg).2.1, fun hk => (k6 g hg).2.2 (.inl hk)⟩⟩, (h3.mono (fun k hk => .inl hk)).trans ⟨rfl, rfl, rfl, by omega, fun k hk _ => setRow_other _ _ _ _ (fun e => by have := hO k hk; omega), fun _ h => .inl h, fun _ h => h⟩, setRow_heap _ _ _ _ _ _ h4⟩
theorem Al2.to3 (h : Al2 rb wb M Inv O F w w1 t n i l k i' l' F' V p da dl df dx) : Al3 rb wb Inv O F w w1 l' F' V p da dl df dx := ⟨⟨trivial, h.1.2.1, h.1.2.2.1, h.1.2.2.2.1, h.1.2.2.2.2.1⟩, h.2.1⟩
theorem AlS.to (h : AlS rb wb M Inv O F w w1 t n i l k i' l' F' V) : True ∧ Wd Inv (fun k => O k ∨ k = w.heap.size) F' V rb wb l' ∧ Fly (fun k => O k ∨ k = w.heap.size) F w1 F' V ∧ V.heap[w.heap.size]? = some (.cells #[.int .u64 0, .int .u32 0, .int .u16 0, .int .u16 0] 150 (0, 0)) ∧ ¬ F' w.heap.size := ⟨trivial, h.2.1, h.2.2.1, h.2.2.2.1, h.2.2.2.2.1⟩
end
set_option maxHeartbeats 4000000 in
theorem along_any {rb wb : Nat} {M : Nat → Nat} {Inv : (Nat → Prop) → World → Prop} {O F : Nat → Prop} {w : World} {l : List Seg} (m : Wm rb M Inv) (hM : ∀ a, M a ≤ 255) (t n : Nat) (hn : n ≤ 256) (hD : DescOk rb M Inv t n) (h : Wd Inv O F w rb wb l) (hl : l.length ≤ 300) (i : Int) :
    Calls Tryz.prog 82 #[.pointer (some ⟨wb, 0, none⟩), .int .u64 (t : Int), .int .i64 (n : Int), .int .i64 i] w fun e w' => e = .returned (.tuple #[.agg #[.int .u64 ((alongR M t n n i l).d.a : Int), .int .u32 ((alongR M t n n i l).d.l : Int), .int .u16 ((alongR M t n n i l).d.f : Int), .int .u16 ((alongR M t n n i l).d.x : Int)], .int .i64 ((alongR M t n n i l).e : Int)]) ∧ ∃ F', Wd Inv O F' w' rb wb (alongR M t n n i l).l ∧ Fly O F w F' w' := by
  obtain ⟨r, hr⟩ : ∃ r, alongR M t n n i l = r := ⟨_, rfl⟩
  rw [hr]
  have hb0 : Below w.heap.size w (w.alloc (.cells #[.int .u64 0, .int .u32 0, .int .u16 0, .int .u16 0] 150)) := (Below.refl _ _).alloc (Nat.le_refl _) _
  have A0 : Hid (AlS rb wb M Inv O F w (w.alloc (.cells #[.int .u64 0, .int .u32 0, .int .u16 0, .int .u16 0] 150)) t n i l 0 i l F (w.alloc (.cells #[.int .u64 0, .int .u32 0, .int .u16 0, .int .u16 0] 150))) := ⟨rfl, h.box m hb0 (Nat.le_refl _) (by simp), Fly.refl _ _ _, heap_alloc_new _ _, fun hf => by have := m.lt F w h.1 _ hf; omega, by omega⟩
  have HF0 : Hid (Fly O F w F (w.alloc (.cells #[.int .u64 0, .int .u32 0, .int .u16 0, .int .u16 0] 150))) := Fly.of_below hb0 h.old
  have HR : Hid (alongR M t n n i l = r) := hr
  have HOO : Hid (∀ k, O k → k < w.heap.size) := h.old
  have HMD : Hid ((∀ a, M a ≤ 255) ∧ DescOk rb M Inv t n) := ⟨hM, hD⟩
  clear hr hb0 h hM hD hl
  go_enter Tryz.func82, Tryz.ntmps82
  go_upto_region 1 with fail
  generalize w.alloc (.cells #[.int .u64 0, .int .u32 0, .int .u16 0, .int .u16 0] 150) = w1 at *
  go_wp2_with fail
  go_loopw [3, 10] (fun v3 v10 wr => ∃ (k : Nat) (i' : Int) (l' : List Seg) (F' : Nat → Prop), v3 = .int .i64 i' ∧ v10 = .int .i64 (k : Int) ∧ k ≤ n ∧ AlS rb wb M Inv O F w w1 t n i l k i' l' F' wr) (fun _ v10 _ => n - (intOf v10).toNat)
  case atStart => exact ⟨0, i, l, F, rfl, rfl, Nat.zero_le _, A0.out⟩
  case round =>
    obtain ⟨k, i', l', F', rfl, rfl, hk, ha⟩ := hrel
    have A1 : Hid (AlS rb wb M Inv O F w w1 t n i l k i' l' F' wr) := ha
    clear ha A0
    by_cases hi : 0 ≤ i' ∧ i' < (n : Int)
    case neg =>
      have HRR : Hid (r = ⟨151, De.zero, l'⟩) := by
        show r = _
        rw [← HR.out, A1.out.1]
        exact along_out hi
      by_cases h1 : i' < 0
      · clear hi
        go_upto_region 4 with fail
        refine wp_region_list ?_
        (refine wpList_step (fun KK hKK => ?_); go_simp; refine hKK _ _ ?_; clear hKK KK)
        refine wpList_store_row rfl 150 _ _ rfl w.heap.size #[.int .u64 0, .int .u32 0, .int .u16 0, .int .u16 0] rfl rfl 150 #[.int .u64 0, .int .u32 0, .int .u16 0, .int .u16 0] A1.out.2.2.2.1 info47 rfl (by simp [Value.oneCell']) ?_
        have Y := (A1.out).ret m HOO.out #[.int .u64 0, .int .u32 0, .int .u16 0, .int .u16 0]
        have HY : Hid (Wd Inv O F' (wr.setRow w.heap.size #[.int .u64 0, .int .u32 0, .int .u16 0, .int .u16 0]) rb wb l' ∧ Fly O F w1 F' (wr.setRow w.heap.size #[.int .u64 0, .int .u32 0, .int .u16 0, .int .u16 0]) ∧ (wr.setRow w.heap.size #[.int .u64 0, .int .u32 0, .int .u16 0, .int .u16 0]).heap[w.heap.size]? = some (.cells #[.int .u64 0, .int .u32 0, .int .u16 0, .int .u16 0] 150 (0, 0))) := Y
        clear Y
        generalize wr.setRow w.heap.size #[.int .u64 0, .int .u32 0, .int .u16 0, .int .u16 0] = w9 at *
        obtain ⟨c0, c1, c2, c3⟩ := box4_facts HY.out.2.2
        go_wp2_with fail
        refine bodyPost_ret (v := .tuple #[.agg #[.int .u64 0, .int .u32 0, .int .u16 0, .int .u16 0], .int .i64 151]) (by simp [results, Tryz.results82, go_sem, c0, c1, c2, c3]) rfl ?_
        rw [HRR.out]
        exact ⟨rfl, F', HY.out.1, HF0.out.trans HY.out.2.1⟩
      · have h2 : (n : Int) ≤ i' := by omega
        clear hi
        go_upto_region 4 with fail
        refine wp_region_list ?_
        (refine wpList_step (fun KK hKK => ?_); go_simp; refine hKK _ _ ?_; clear hKK KK)
        refine wpList_store_row rfl 150 _ _ rfl w.heap.size #[.int .u64 0, .int .u32 0, .int .u16 0, .int .u16 0] rfl rfl 150 #[.int .u64 0, .int .u32 0, .int .u16 0, .int .u16 0] A1.out.2.2.2.1 info47 rfl (by simp [Value.oneCell']) ?_
        have Y := (A1.out).ret m HOO.out #[.int .u64 0, .int .u32 0, .int .u16 0, .int .u16 0]
        have HY : Hid (Wd Inv O F' (wr.setRow w.heap.size #[.int .u64 0, .int .u32 0, .int .u16 0, .int .u16 0]) rb wb l' ∧ Fly O F w1 F' (wr.setRow w.heap.size #[.int .u64 0, .int .u32 0, .int .u16 0, .int .u16 0]) ∧ (wr.setRow w.heap.size #[.int .u64 0, .int .u32 0, .int .u16 0, .int .u16 0]).heap[w.heap.size]? = some (.cells #[.int .u64 0, .int .u32 0, .int .u16 0, .int .u16 0] 150 (0, 0))) := Y
        clear Y
        generalize wr.setRow w.heap.size #[.int .u64 0, .int .u32 0, .int .u16 0, .int .u16 0] = w9 at *
        obtain ⟨c0, c1, c2, c3⟩ := box4_facts HY.out.2.2
        go_wp2_with fail
        refine bodyPost_ret (v := .tuple #[.agg #[.int .u64 0, .int .u32 0, .int .u16 0, .int .u16 0], .int .i64 151]) (by simp [results, Tryz.results82, go_sem, c0, c1, c2, c3]) rfl ?_
        rw [HRR.out]
        exact ⟨rfl, F', HY.out.1, HF0.out.trans HY.out.2.1⟩
    obtain ⟨j, hj⟩ : ∃ j : Nat, i' = j := ⟨i'.toNat, by omega⟩
    subst hj
    have h1 : ¬ (j : Int) < 0 := by omega
    have h2 : ¬ (n : Int) ≤ (j : Int) := by omega
    have hjn : j < n := by omega
    clear hi
    by_cases hkn : k = n
    case pos =>
      have HRR : Hid (r = ⟨152, De.zero, l'⟩) := by
        show r = _
        rw [← HR.out, A1.out.1, hkn, Nat.sub_self]
        exact along_loop (by omega)
      have h3 : (n : Int) ≤ (k : Int) := by omega
      clear hkn
      go_upto_region 6 with fail
      refine wp_region_list ?_
      (refine wpList_step (fun KK hKK => ?_); go_simp; refine hKK _ _ ?_; clear hKK KK)
      refine wpList_store_row rfl 150 _ _ rfl w.heap.size #[.int .u64 0, .int .u32 0, .int .u16 0, .int .u16 0] rfl rfl 150 #[.int .u64 0, .int .u32 0, .int .u16 0, .int .u16 0] A1.out.2.2.2.1 info47 rfl (by simp [Value.oneCell']) ?_
      have Y := (A1.out).ret m HOO.out #[.int .u64 0, .int .u32 0, .int .u16 0, .int .u16 0]
      have HY : Hid (Wd Inv O F' (wr.setRow w.heap.size #[.int .u64 0, .int .u32 0, .int .u16 0, .int .u16 0]) rb wb l' ∧ Fly O F w1 F' (wr.setRow w.heap.size #[.int .u64 0, .int .u32 0, .int .u16 0, .int .u16 0]) ∧ (wr.setRow w.heap.size #[.int .u64 0, .int .u32 0, .int .u16 0, .int .u16 0]).heap[w.heap.size]? = some (.cells #[.int .u64 0, .int .u32 0, .int .u16 0, .int .u16 0] 150 (0, 0))) := Y
      clear Y
      generalize wr.setRow w.heap.size #[.int .u64 0, .int .u32 0, .int .u16 0, .int .u16 0] = w9 at *
      obtain ⟨c0, c1, c2, c3⟩ := box4_facts HY.out.2.2
      go_wp2_with fail
      refine bodyPost_ret (v := .tuple #[.agg #[.int .u64 0, .int .u32 0, .int .u16 0, .int .u16 0], .int .i64 152]) (by simp [results, Tryz.results82, go_sem, c0, c1, c2, c3]) rfl ?_
      rw [HRR.out]
      exact ⟨rfl, F', HY.out.1, HF0.out.trans HY.out.2.1⟩
    have h3 : ¬ (n : Int) ≤ (k : Int) := by omega
    obtain ⟨q, hq⟩ : ∃ q, n - k = q + 1 := ⟨n - k - 1, by omega⟩
    have A1' : Hid (AlS rb wb M Inv O F w w1 t n i l k (j : Int) l' F' wr ∧ n - k = q + 1) := ⟨A1.out, hq⟩
    clear A1 hq
    have p0 : wr.cell? ⟨wb, 0, none⟩ = some (.pointer (some ⟨rb, 0, none⟩)) := by
      obtain ⟨a, c, hwb, _⟩ := A1'.out.1.2.1.boxes
      exact cellOf hwb 0 _ rfl
    obtain ⟨⟨da, dl, df, dx⟩, hde⟩ : ∃ d, deN M t j = d := ⟨_, rfl⟩
    obtain ⟨ok, hok⟩ : ∃ ok, deB t j = ok := ⟨_, rfl⟩
    have HO : Hid (deN M t j = ⟨da, dl, df, dx⟩ ∧ deB t j = ok ∧ (De.mk da dl df dx).Ok) := ⟨hde, hok, hde ▸ deN_ok HMD.out.1 t j⟩
    have hf : df ≤ 65535 := HO.out.2.2.f
    have hx5 : dx ≤ 65535 := HO.out.2.2.x
    have hdc := HMD.out.2 F' wr j hjn A1'.out.1.2.1.1
    rw [hde, hok] at hdc
    have HDD : Hid (_root_.True ∧ Calls Tryz.prog 104 #[.pointer (some ⟨rb, 0, none⟩), .int .u64 (t : Int), .int .i64 (j : Int)] wr fun e w' => e = .returned (.tuple #[.agg #[.int .u64 (da : Int), .int .u32 (dl : Int), .int .u16 (df : Int), .int .u16 (dx : Int)], .bool ok]) ∧ ∃ F2, Inv F2 w' ∧ Step F' wr F2 w') := ⟨trivial, hdc⟩
    clear hdc hde hok
    go_upto_region 7 with fail
    go_upto_region 8 with (go_at_call 104; refine (HDD.out.2).mono ?_; rintro e w2 ⟨rfl, F2, hi2, hs2⟩; have A2 : Hid (AlS rb wb M Inv O F w w1 t n i l k (j : Int) l' F2 w2 ∧ n - k = q + 1) := ⟨A1'.out.1.told hi2 hs2, A1'.out.2⟩; clear hi2 hs2 HDD)
    clear A1' p0
    have hb3 : Below w2.heap.size w2 (w2.alloc (.cells #[.int .u64 (da : Int), .int .u32 (dl : Int), .int .u16 (df : Int), .int .u16 (dx : Int)] 150)) := (Below.refl _ _).alloc (Nat.le_refl _) _
    have A3 : Hid (Al2 rb wb M Inv O F w w1 t n i l k (j : Int) l' F2 (w2.alloc (.cells #[.int .u64 (da : Int), .int .u32 (dl : Int), .int .u16 (df : Int), .int .u16 (dx : Int)] 150)) w2.heap.size da dl df dx) := ⟨A2.out.1.below m hb3, heap_alloc_new _ _, A2.out.1.2.1.box m hb3 (Nat.le_refl _) (by simp), fun hf => by have := m.lt F2 w2 A2.out.1.2.1.1 _ hf; omega⟩
    have HQ : Hid (n - k = q + 1) := A2.out.2
    clear hb3 A2
    generalize w2.alloc (.cells #[.int .u64 (da : Int), .int .u32 (dl : Int), .int .u16 (df : Int), .int .u16 (dx : Int)] 150) = w3 at *
    generalize w2.heap.size = p at *
    cases ok with
    | false =>
      have HRR : Hid (r = ⟨21, De.zero, l'⟩) := by
        show r = _
        rw [← HR.out, A3.out.1.1, HQ.out]
        exact along_not hjn HO.out.2.1
      go_upto_region 9 with fail
      refine wp_region_list ?_
      (refine wpList_step (fun KK hKK => ?_); go_simp; refine hKK _ _ ?_; clear hKK KK)
      refine wpList_store_row rfl 150 _ _ rfl w.heap.size #[.int .u64 0, .int .u32 0, .int .u16 0, .int .u16 0] rfl rfl 150 #[.int .u64 0, .int .u32 0, .int .u16 0, .int .u16 0] A3.out.1.2.2.2.1 info47 rfl (by simp [Value.oneCell']) ?_
      have Y := (A3.out.to3).ret m HOO.out #[.int .u64 0, .int .u32 0, .int .u16 0, .int .u16 0]
      have HY : Hid (Wd Inv O F2 (w3.setRow w.heap.size #[.int .u64 0, .int .u32 0, .int .u16 0, .int .u16 0]) rb wb l' ∧ Fly O F w1 F2 (w3.setRow w.heap.size #[.int .u64 0, .int .u32 0, .int .u16 0, .int .u16 0]) ∧ (w3.setRow w.heap.size #[.int .u64 0, .int .u32 0, .int .u16 0, .int .u16 0]).heap[w.heap.size]? = some (.cells #[.int .u64 0, .int .u32 0, .int .u16 0, .int .u16 0] 150 (0, 0))) := Y
      clear Y
      generalize w3.setRow w.heap.size #[.int .u64 0, .int .u32 0, .int .u16 0, .int .u16 0] = w9 at *
      obtain ⟨c0, c1, c2, c3⟩ := box4_facts HY.out.2.2
      go_wp2_with fail
      refine bodyPost_ret (v := .tuple #[.agg #[.int .u64 0, .int .u32 0, .int .u16 0, .int .u16 0], .int .i64 21]) (by simp [results, Tryz.results82, go_sem, c0, c1, c2, c3]) rfl ?_
      rw [HRR.out]
      exact ⟨rfl, F2, HY.out.1, HF0.out.trans HY.out.2.1⟩
    | true =>
      obtain ⟨f4, hf4⟩ : ∃ b, fl df 4 = b := ⟨_, rfl⟩
      have H4 : Hid (∀ V, Calls Tryz.prog 83 #[.agg #[.int .u64 (da : Int), .int .u32 (dl : Int), .int .u16 (df : Int), .int .u16 (dx : Int)], .int .u16 4] V fun e w' => e = .returned (.bool f4) ∧ Below V.heap.size V w') := by
        intro V; rw [← hf4]; exact hasf4 da dl df dx hf V
      have HF4 : Hid (fl df 4 = f4) := hf4
      clear hf4
      obtain ⟨d0, d1, d2, d3⟩ := box4_facts A3.out.2.1
      cases f4 with
      | true =>
        have HRR : Hid (r = ⟨0, ⟨da, dl, df, dx⟩, l'⟩) := by
          show r = _
          rw [← HR.out, A3.out.1.1, HQ.out]
          exact along_ind hjn HO.out.2.1 HO.out.1 HF4.out
        go_upto_region 11 with (go_at_call 83; refine (H4.out _).mono ?_; rintro e w4 ⟨rfl, hb4⟩; have A4 : Hid (Al2 rb wb M Inv O F w w1 t n i l k (j : Int) l' F2 w4 p da dl df dx) := A3.out.below m hb4; clear hb4 A3 d0 d1 d2 d3; obtain ⟨d0, d1, d2, d3⟩ := box4_facts A4.out.2.1)
        go_upto_region 11 with fail
        refine wp_region_list ?_
        (refine wpList_step (fun KK hKK => ?_); go_simp; refine hKK _ _ ?_; clear hKK KK)
        refine wpList_store_row rfl 150 _ _ rfl w.heap.size #[.int .u64 (da : Int), .int .u32 (dl : Int), .int .u16 (df : Int), .int .u16 (dx : Int)] rfl rfl 150 #[.int .u64 0, .int .u32 0, .int .u16 0, .int .u16 0] A4.out.1.2.2.2.1 info47 rfl (by simp [Value.oneCell']) ?_
        have Y := (A4.out.to3).ret m HOO.out #[.int .u64 (da : Int), .int .u32 (dl : Int), .int .u16 (df : Int), .int .u16 (dx : Int)]
        have HY : Hid (Wd Inv O F2 (w4.setRow w.heap.size #[.int .u64 (da : Int), .int .u32 (dl : Int), .int .u16 (df : Int), .int .u16 (dx : Int)]) rb wb l' ∧ Fly O F w1 F2 (w4.setRow w.heap.size #[.int .u64 (da : Int), .int .u32 (dl : Int), .int .u16 (df : Int), .int .u16 (dx : Int)]) ∧ (w4.setRow w.heap.size #[.int .u64 (da : Int), .int .u32 (dl : Int), .int .u16 (df : Int), .int .u16 (dx : Int)]).heap[w.heap.size]? = some (.cells #[.int .u64 (da : Int), .int .u32 (dl : Int), .int .u16 (df : Int), .int .u16 (dx : Int)] 150 (0, 0))) := Y
        clear Y
        generalize w4.setRow w.heap.size #[.int .u64 (da : Int), .int .u32 (dl : Int), .int .u16 (df : Int), .int .u16 (dx : Int)] = w9 at *
        obtain ⟨c0, c1, c2, c3⟩ := box4_facts HY.out.2.2
        go_wp2_with fail
        refine bodyPost_ret (v := .tuple #[.agg #[.int .u64 (da : Int), .int .u32 (dl : Int), .int .u16 (df : Int), .int .u16 (dx : Int)], .int .i64 0]) (by simp [results, Tryz.results82, go_sem, c0, c1, c2, c3]) rfl ?_
        rw [HRR.out]
        exact ⟨rfl, F2, HY.out.1, HF0.out.trans HY.out.2.1⟩
      | false =>
        by_cases hz : addE l' ⟨da, dl, df, dx⟩ = 0
        case neg =>
          obtain ⟨ae, hae⟩ : ∃ ae, addE l' ⟨da, dl, df, dx⟩ = ae := ⟨_, rfl⟩
          rw [hae] at hz
          have HRR : Hid (r = ⟨ae, De.zero, l'⟩) := by
            show r = _
            rw [← HR.out, A3.out.1.1, HQ.out]
            exact along_err hjn HO.out.2.1 HO.out.1 HF4.out hae hz
          have H59 : Hid (∀ V, Wd Inv (fun z => (O z ∨ z = w.heap.size) ∨ z = p) F2 V rb wb l' → Calls Tryz.prog 105 #[.pointer (some ⟨wb, 0, none⟩), .agg #[.int .u64 (da : Int), .int .u32 (dl : Int), .int .u16 (df : Int), .int .u16 (dx : Int)]] V fun e w' => e = .returned (.int .i64 (ae : Int)) ∧ Wd Inv (fun z => (O z ∨ z = w.heap.size) ∨ z = p) F2 w' rb wb l' ∧ Fly (fun z => (O z ∨ z = w.heap.size) ∨ z = p) F2 V F2 w') := by
            intro V hV
            have := seg_any m hV da dl df dx HO.out.2.2 (by have := A3.out.1.2.2.2.2.2; omega)
            rw [hae, if_neg hz] at this
            exact this
          have hz1 : ((ae : Int) != 0) = true := by simp; omega
          have hz2 : ¬ (ae : Int) = 0 := by omega
          clear hz hae
          go_upto_region 14 with (first | (go_at_call 83; refine (H4.out _).mono ?_; rintro e w4 ⟨rfl, hb4⟩; have A4 : Hid (Al2 rb wb M Inv O F w w1 t n i l k (j : Int) l' F2 w4 p da dl df dx) := A3.out.below m hb4; clear hb4 A3 d0 d1 d2 d3; obtain ⟨d0, d1, d2, d3⟩ := box4_facts A4.out.2.1) | (go_at_call 105; refine (H59.out _ A4.out.2.2.1).mono ?_; rintro e w5 ⟨rfl, hw5, hy5⟩; have A5 : Hid (Al2 rb wb M Inv O F w w1 t n i l k (j : Int) l' F2 w5 p da dl df dx) := A4.out.flew hw5 hy5 A4.out.1.1 A4.out.1.2.2.2.2.2; clear hw5 hy5 A4 d0 d1 d2 d3; obtain ⟨d0, d1, d2, d3⟩ := box4_facts A5.out.2.1))
          go_upto_region 14 with fail
          refine wp_region_list ?_
          (refine wpList_step (fun KK hKK => ?_); go_simp; refine hKK _ _ ?_; clear hKK KK)
          (refine wpList_step (fun KK hKK => ?_); go_simp; refine hKK _ _ ?_; clear hKK KK)
          refine wpList_store_row rfl 150 _ _ rfl w.heap.size #[.int .u64 0, .int .u32 0, .int .u16 0, .int .u16 0] rfl rfl 150 #[.int .u64 0, .int .u32 0, .int .u16 0, .int .u16 0] A5.out.1.2.2.2.1 info47 rfl (by simp [Value.oneCell']) ?_
          have Y := (A5.out.to3).ret m HOO.out #[.int .u64 0, .int .u32 0, .int .u16 0, .int .u16 0]
          have HY : Hid (Wd Inv O F2 (w5.setRow w.heap.size #[.int .u64 0, .int .u32 0, .int .u16 0, .int .u16 0]) rb wb l' ∧ Fly O F w1 F2 (w5.setRow w.heap.size #[.int .u64 0, .int .u32 0, .int .u16 0, .int .u16 0]) ∧ (w5.setRow w.heap.size #[.int .u64 0, .int .u32 0, .int .u16 0, .int .u16 0]).heap[w.heap.size]? = some (.cells #[.int .u64 0, .int .u32 0, .int .u16 0, .int .u16 0] 150 (0, 0))) := Y
          clear Y
          generalize w5.setRow w.heap.size #[.int .u64 0, .int .u32 0, .int .u16 0, .int .u16 0] = w9 at *
          obtain ⟨c0, c1, c2, c3⟩ := box4_facts HY.out.2.2
          go_wp2_with fail
          refine bodyPost_ret (v := .tuple #[.agg #[.int .u64 0, .int .u32 0, .int .u16 0, .int .u16 0], .int .i64 (ae : Int)]) (by simp [results, Tryz.results82, go_sem, c0, c1, c2, c3]) rfl ?_
          rw [HRR.out]
          exact ⟨rfl, F2, HY.out.1, HF0.out.trans HY.out.2.1⟩
        case pos =>
          have H59 : Hid (∀ V, Wd Inv (fun z => (O z ∨ z = w.heap.size) ∨ z = p) F2 V rb wb l' → Calls Tryz.prog 105 #[.pointer (some ⟨wb, 0, none⟩), .agg #[.int .u64 (da : Int), .int .u32 (dl : Int), .int .u16 (df : Int), .int .u16 (dx : Int)]] V fun e w' => e = .returned (.int .i64 0) ∧ Wd Inv (fun z => (O z ∨ z = w.heap.size) ∨ z = p) F2 w' rb wb (l' ++ [⟨da, dl, fl df 2⟩]) ∧ Fly (fun z => (O z ∨ z = w.heap.size) ∨ z = p) F2 V F2 w') := by
            intro V hV
            have := seg_any m hV da dl df dx HO.out.2.2 (by have := A3.out.1.2.2.2.2.2; omega)
            rw [hz, if_pos rfl] at this
            exact this
          obtain ⟨f1, hf1⟩ : ∃ b, fl df 1 = b := ⟨_, rfl⟩
          have H1 : Hid (∀ V, Calls Tryz.prog 83 #[.agg #[.int .u64 (da : Int), .int .u32 (dl : Int), .int .u16 (df : Int), .int .u16 (dx : Int)], .int .u16 1] V fun e w' => e = .returned (.bool f1) ∧ Below V.heap.size V w') := by
            intro V; rw [← hf1]; exact hasf1 da dl df dx hf V
          have HF1 : Hid (fl df 1 = f1 ∧ addE l' ⟨da, dl, df, dx⟩ = 0) := ⟨hf1, hz⟩
          clear hf1 hz
          go_upto_region 15 with (first | (go_at_call 83; refine (H4.out _).mono ?_; rintro e w4 ⟨rfl, hb4⟩; have A4 : Hid (Al2 rb wb M Inv O F w w1 t n i l k (j : Int) l' F2 w4 p da dl df dx) := A3.out.below m hb4; clear hb4 A3 d0 d1 d2 d3; obtain ⟨d0, d1, d2, d3⟩ := box4_facts A4.out.2.1) | (go_at_call 105; refine (H59.out _ A4.out.2.2.1).mono ?_; rintro e w5 ⟨rfl, hw5, hy5⟩))
          cases f1 with
          | false =>
            have HRR : Hid (r = ⟨0, ⟨da, dl, df, dx⟩, l' ++ [⟨da, dl, fl df 2⟩]⟩) := by
              show r = _
              rw [← HR.out, A4.out.1.1, HQ.out]
              exact along_end hjn HO.out.2.1 HO.out.1 HF4.out HF1.out.2 HF1.out.1
            have A5 : Hid (Al3 rb wb Inv O F w w1 (l' ++ [⟨da, dl, fl df 2⟩]) F2 w5 p da dl df dx) := A4.out.flew3 hw5 hy5
            clear hw5 hy5 A4 d0 d1 d2 d3
            obtain ⟨d0, d1, d2, d3⟩ := box4_facts A5.out.2
            go_upto_region 16 with (go_at_call 83; refine (H1.out _).mono ?_; rintro e w6 ⟨rfl, hb6⟩; have A6 : Hid (Al3 rb wb Inv O F w w1 (l' ++ [⟨da, dl, fl df 2⟩]) F2 w6 p da dl df dx) := A5.out.below m hb6; clear hb6 A5 d0 d1 d2 d3; obtain ⟨d0, d1, d2, d3⟩ := box4_facts A6.out.2)
            go_upto_region 16 with fail
            refine wp_region_list ?_
            (refine wpList_step (fun KK hKK => ?_); go_simp; refine hKK _ _ ?_; clear hKK KK)
            refine wpList_store_row rfl 150 _ _ rfl w.heap.size #[.int .u64 (da : Int), .int .u32 (dl : Int), .int .u16 (df : Int), .int .u16 (dx : Int)] rfl rfl 150 #[.int .u64 0, .int .u32 0, .int .u16 0, .int .u16 0] A6.out.1.2.2.2.1 info47 rfl (by simp [Value.oneCell']) ?_
            have Y := (A6.out).ret m HOO.out #[.int .u64 (da : Int), .int .u32 (dl : Int), .int .u16 (df : Int), .int .u16 (dx : Int)]
            have HY : Hid (Wd Inv O F2 (w6.setRow w.heap.size #[.int .u64 (da : Int), .int .u32 (dl : Int), .int .u16 (df : Int), .int .u16 (dx : Int)]) rb wb (l' ++ [⟨da, dl, fl df 2⟩]) ∧ Fly O F w1 F2 (w6.setRow w.heap.size #[.int .u64 (da : Int), .int .u32 (dl : Int), .int .u16 (df : Int), .int .u16 (dx : Int)]) ∧ (w6.setRow w.heap.size #[.int .u64 (da : Int), .int .u32 (dl : Int), .int .u16 (df : Int), .int .u16 (dx : Int)]).heap[w.heap.size]? = some (.cells #[.int .u64 (da : Int), .int .u32 (dl : Int), .int .u16 (df : Int), .int .u16 (dx : Int)] 150 (0, 0))) := Y
            clear Y
            generalize w6.setRow w.heap.size #[.int .u64 (da : Int), .int .u32 (dl : Int), .int .u16 (df : Int), .int .u16 (dx : Int)] = w9 at *
            obtain ⟨c0, c1, c2, c3⟩ := box4_facts HY.out.2.2
            go_wp2_with fail
            refine bodyPost_ret (v := .tuple #[.agg #[.int .u64 (da : Int), .int .u32 (dl : Int), .int .u16 (df : Int), .int .u16 (dx : Int)], .int .i64 0]) (by simp [results, Tryz.results82, go_sem, c0, c1, c2, c3]) rfl ?_
            rw [HRR.out]
            exact ⟨rfl, F2, HY.out.1, HF0.out.trans HY.out.2.1⟩
          | true =>
            have A5 : Hid (Al2 rb wb M Inv O F w w1 t n i l (k + 1) (dx : Int) (l' ++ [⟨da, dl, fl df 2⟩]) F2 w5 p da dl df dx) := A4.out.flew hw5 hy5 (by
              rw [A4.out.1.1, HQ.out, show n - (k + 1) = q from by have := HQ.out; omega]
              exact along_next hjn HO.out.2.1 HO.out.1 HF4.out HF1.out.2 HF1.out.1) (by have := A4.out.1.2.2.2.2.2; simp; omega)
            clear hw5 hy5 A4 d0 d1 d2 d3
            obtain ⟨d0, d1, d2, d3⟩ := box4_facts A5.out.2.1
            have e3 : IntKind.i64.wrap (dx : Int) = (dx : Int) := wrapi dx (by omega)
            go_wp2_with (go_at_call 83; refine (H1.out _).mono ?_; rintro e w6 ⟨rfl, hb6⟩; have A6 : Hid (Al2 rb wb M Inv O F w w1 t n i l (k + 1) (dx : Int) (l' ++ [⟨da, dl, fl df 2⟩]) F2 w6 p da dl df dx) := A5.out.below m hb6; clear hb6 A5 d0 d1 d2 d3; obtain ⟨d0, d1, d2, d3⟩ := box4_facts A6.out.2.1)
            go_roundw
            case rel => exact ⟨k + 1, (dx : Int), l' ++ [⟨da, dl, fl df 2⟩], F2, rfl, by go_num, by omega, A6.out.1⟩
            case measure => simp [intOf]; omega
end Go.Proofs.YtmjdnocilbnoaaaGreat

/- The table that a descriptor names. -/
namespace Go.Proofs.YtmjdnocilbnoaaaGreat
open Go.RowKit Go.Maps
set_option linter.unusedVariables false
set_option linter.unusedSimpArgs false
set_option maxRecDepth 100000
theorem info38 : (Tryz.prog.info? 57).map (·.size) = some 2 := by kernel_rfl
theorem three_in (w : World) (o1 o2 o3 : Obj) : (((w.alloc o1).alloc o2).alloc o3).heap[w.heap.size]? = some o1 ∧ (((w.alloc o1).alloc o2).alloc o3).heap[w.heap.size + 1]? = some o2 ∧ (((w.alloc o1).alloc o2).alloc o3).heap[w.heap.size + 1 + 1]? = some o3 ∧ Below w.heap.size w (((w.alloc o1).alloc o2).alloc o3) := by
  have h := two_in w o1 o2
  have hb : Below ((w.alloc o1).alloc o2).heap.size ((w.alloc o1).alloc o2) (((w.alloc o1).alloc o2).alloc o3) := (Below.refl _ _).alloc (Nat.le_refl _) _
  have hs : ((w.alloc o1).alloc o2).heap.size = w.heap.size + 1 + 1 := by simp
  refine ⟨below_box h.1 hb, below_box h.2 hb, ?_, (((Below.refl _ _).alloc (Nat.le_refl _) _).alloc (by simp) _).alloc (by simp; omega) _⟩
  rw [← hs]; exact heap_alloc_new _ _
theorem tabE_nest {d : De} {al : Bool} (h : (!al || fl d.f 1) = true) : tabE d al = 153 := by simp only [tabE, h, if_true]
theorem tabE_bad {d : De} {al : Bool} (h : (!al || fl d.f 1) = false) (h2 : d.l = 0 ∨ 4096 < d.l ∨ ¬ d.l % 16 = 0) : tabE d al = 154 := by
  have : (decide (d.l = 0) || decide (4096 < d.l) || decide (¬ d.l % 16 = 0)) = true := by
    simp only [Bool.or_eq_true, decide_eq_true_iff]
    omega
  rw [tabE, h, if_neg (by decide), this, if_pos rfl]
theorem tabE_go {d : De} {al : Bool} (h : (!al || fl d.f 1) = false) (h2 : ¬ (d.l = 0 ∨ 4096 < d.l ∨ ¬ d.l % 16 = 0)) : tabE d al = if inB d.a d.l 2147483648 8192 = true then 0 else 21 := by
  have : (decide (d.l = 0) || decide (4096 < d.l) || decide (¬ d.l % 16 = 0)) = false := by
    simp only [Bool.or_eq_false_iff, decide_eq_false_iff_not]
    omega
  rw [tabE, h, if_neg (by decide), this, if_neg (by decide)]
/-- the piece that is told -/
def tabV (e da dl : Nat) : Value := if e = 0 then .agg #[.int .u64 (da : Int), .int .u64 (dl : Int)] else .agg #[.int .u64 0, .int .u64 0]
set_option maxHeartbeats 2000000 in
theorem tab_any {rb wb : Nat} {w : World} {v : Value} (da dl df dx : Nat) (hd : (De.mk da dl df dx).Ok) (al : Bool) (hwb : w.heap[wb]? = some (.cells #[.pointer (some ⟨rb, 0, none⟩), v] 148 (0, 0))) (hh : ∀ V, Below w.heap.size w V → Calls Tryz.prog 69 #[.pointer (some ⟨rb, 0, none⟩), .int .u64 (da : Int), .int .u64 (dl : Int)] V fun e w' => e = .returned (.bool (inB da dl 2147483648 8192)) ∧ w' = V) :
    Calls Tryz.prog 84 #[.pointer (some ⟨wb, 0, none⟩), .agg #[.int .u64 (da : Int), .int .u32 (dl : Int), .int .u16 (df : Int), .int .u16 (dx : Int)], .bool al] w fun e w' => e = .returned (.tuple #[tabV (tabE ⟨da, dl, df, dx⟩ al) da dl, .int .i64 (tabE ⟨da, dl, df, dx⟩ al : Int)]) ∧ Below w.heap.size w w' := by
  have hf : df ≤ 65535 := hd.f
  have hl5 : dl ≤ 4294967295 := hd.l
  have hwr : IntKind.u64.wrap (dl : Int) = (dl : Int) := by rw [wrap_u64]; omega
  have X0 : Hid ((((w.alloc (.cells #[.int .u64 (da : Int), .int .u32 (dl : Int), .int .u16 (df : Int), .int .u16 (dx : Int)] 150)).alloc (.cells #[.int .u64 0, .int .u64 0] 57)).alloc (.cells #[.int .u64 (da : Int), .int .u64 (dl : Int)] 57)).heap[w.heap.size]? = some (.cells #[.int .u64 (da : Int), .int .u32 (dl : Int), .int .u16 (df : Int), .int .u16 (dx : Int)] 150 (0, 0)) ∧ (((w.alloc (.cells #[.int .u64 (da : Int), .int .u32 (dl : Int), .int .u16 (df : Int), .int .u16 (dx : Int)] 150)).alloc (.cells #[.int .u64 0, .int .u64 0] 57)).alloc (.cells #[.int .u64 (da : Int), .int .u64 (dl : Int)] 57)).heap[w.heap.size + 1]? = some (.cells #[.int .u64 0, .int .u64 0] 57 (0, 0)) ∧ (((w.alloc (.cells #[.int .u64 (da : Int), .int .u32 (dl : Int), .int .u16 (df : Int), .int .u16 (dx : Int)] 150)).alloc (.cells #[.int .u64 0, .int .u64 0] 57)).alloc (.cells #[.int .u64 (da : Int), .int .u64 (dl : Int)] 57)).heap[w.heap.size + 1 + 1]? = some (.cells #[.int .u64 (da : Int), .int .u64 (dl : Int)] 57 (0, 0)) ∧ Below w.heap.size w (((w.alloc (.cells #[.int .u64 (da : Int), .int .u32 (dl : Int), .int .u16 (df : Int), .int .u16 (dx : Int)] 150)).alloc (.cells #[.int .u64 0, .int .u64 0] 57)).alloc (.cells #[.int .u64 (da : Int), .int .u64 (dl : Int)] 57))) := three_in w _ _ _
  have HW : Hid (∀ V, Below w.heap.size w V → V.cell? ⟨wb, 0, none⟩ = some (.pointer (some ⟨rb, 0, none⟩))) := fun V hV => cellOf (below_box hwb hV) 0 _ rfl
  have HH : Hid (∀ V, Below w.heap.size w V → Calls Tryz.prog 69 #[.pointer (some ⟨rb, 0, none⟩), .int .u64 (da : Int), .int .u64 (dl : Int)] V fun e w' => e = .returned (.bool (inB da dl 2147483648 8192)) ∧ w' = V) := hh
  obtain ⟨te, hte⟩ : ∃ te, tabE ⟨da, dl, df, dx⟩ al = te := ⟨_, rfl⟩
  rw [hte]
  have HT : Hid (tabE ⟨da, dl, df, dx⟩ al = te) := hte
  clear hte hwb hh hd
  go_enter Tryz.func84, Tryz.ntmps84
  go_upto_region 2 with fail
  generalize ((w.alloc (.cells #[.int .u64 (da : Int), .int .u32 (dl : Int), .int .u16 (df : Int), .int .u16 (dx : Int)] 150)).alloc (.cells #[.int .u64 0, .int .u64 0] 57)).alloc (.cells #[.int .u64 (da : Int), .int .u64 (dl : Int)] 57) = v0 at *
  obtain ⟨d0, d1, d2, d3⟩ := box4_facts X0.out.1
  obtain ⟨p0, p1, _, _⟩ := box_facts X0.out.2.2.1
  cases al with
  | false =>
    have HE : Hid (te = 153) := HT.out.symm.trans (tabE_nest rfl)
    go_upto_region 3 with fail
    refine wp_region_list ?_
    (refine wpList_step (fun KK hKK => ?_); go_simp; refine hKK _ _ ?_; clear hKK KK)
    refine wpList_store_row rfl 57 _ _ rfl (w.heap.size + 1) #[.int .u64 0, .int .u64 0] rfl rfl 57 #[.int .u64 0, .int .u64 0] X0.out.2.1 info38 rfl (by simp [Value.oneCell']) ?_
    have HY : Hid (Below w.heap.size w (v0.setRow (w.heap.size + 1) #[.int .u64 0, .int .u64 0]) ∧ (v0.setRow (w.heap.size + 1) #[.int .u64 0, .int .u64 0]).heap[w.heap.size + 1]? = some (.cells #[.int .u64 0, .int .u64 0] 57 (0, 0))) := ⟨below_setRow X0.out.2.2.2 (Nat.le_succ _) _, setRow_heap _ _ _ _ _ _ X0.out.2.1⟩
    generalize v0.setRow (w.heap.size + 1) #[.int .u64 0, .int .u64 0] = w9 at *
    obtain ⟨c0, c1, _, _⟩ := box_facts HY.out.2
    go_wp2_with fail
    refine bodyPost_ret (v := .tuple #[.agg #[.int .u64 0, .int .u64 0], .int .i64 153]) (by simp [results, Tryz.results84, go_sem, c0, c1]) rfl ?_
    rw [HE.out]
    exact ⟨rfl, HY.out.1⟩
  | true =>
    obtain ⟨f1, hf1⟩ : ∃ b, fl df 1 = b := ⟨_, rfl⟩
    have H1 : Hid (∀ V, Calls Tryz.prog 83 #[.agg #[.int .u64 (da : Int), .int .u32 (dl : Int), .int .u16 (df : Int), .int .u16 (dx : Int)], .int .u16 1] V fun e w' => e = .returned (.bool f1) ∧ Below V.heap.size V w') := by
      intro V; rw [← hf1]; exact hasf1 da dl df dx hf V
    have HF1 : Hid ((!true || fl (De.mk da dl df dx).f 1) = f1) := hf1
    clear hf1
    have ARM : True := trivial
    cases f1 with
    | true =>
      have HE : Hid (te = 153) := HT.out.symm.trans (tabE_nest HF1.out)
      go_upto_region 3 with (go_at_call 83; refine (H1.out _).mono ?_; rintro e v1 ⟨rfl, hb⟩; have X1 : Hid (v1.heap[w.heap.size]? = some (.cells #[.int .u64 (da : Int), .int .u32 (dl : Int), .int .u16 (df : Int), .int .u16 (dx : Int)] 150 (0, 0)) ∧ v1.heap[w.heap.size + 1]? = some (.cells #[.int .u64 0, .int .u64 0] 57 (0, 0)) ∧ v1.heap[w.heap.size + 1 + 1]? = some (.cells #[.int .u64 (da : Int), .int .u64 (dl : Int)] 57 (0, 0)) ∧ Below w.heap.size w v1) := ⟨below_box X0.out.1 hb, below_box X0.out.2.1 hb, below_box X0.out.2.2.1 hb, below_to X0.out.2.2.2 hb⟩; clear hb)
      go_upto_region 3 with fail
      refine wp_region_list ?_
      (refine wpList_step (fun KK hKK => ?_); go_simp; refine hKK _ _ ?_; clear hKK KK)
      refine wpList_store_row rfl 57 _ _ rfl (w.heap.size + 1) #[.int .u64 0, .int .u64 0] rfl rfl 57 #[.int .u64 0, .int .u64 0] X1.out.2.1 info38 rfl (by simp [Value.oneCell']) ?_
      have HY : Hid (Below w.heap.size w (v1.setRow (w.heap.size + 1) #[.int .u64 0, .int .u64 0]) ∧ (v1.setRow (w.heap.size + 1) #[.int .u64 0, .int .u64 0]).heap[w.heap.size + 1]? = some (.cells #[.int .u64 0, .int .u64 0] 57 (0, 0))) := ⟨below_setRow X1.out.2.2.2 (Nat.le_succ _) _, setRow_heap _ _ _ _ _ _ X1.out.2.1⟩
      generalize v1.setRow (w.heap.size + 1) #[.int .u64 0, .int .u64 0] = w9 at *
      obtain ⟨c0, c1, _, _⟩ := box_facts HY.out.2
      go_wp2_with fail
      refine bodyPost_ret (v := .tuple #[.agg #[.int .u64 0, .int .u64 0], .int .i64 153]) (by simp [results, Tryz.results84, go_sem, c0, c1]) rfl ?_
      rw [HE.out]
      exact ⟨rfl, HY.out.1⟩
    | false =>
      go_upto_region 4 with (go_at_call 83; refine (H1.out _).mono ?_; rintro e v1 ⟨rfl, hb⟩; have X1 : Hid (v1.heap[w.heap.size]? = some (.cells #[.int .u64 (da : Int), .int .u32 (dl : Int), .int .u16 (df : Int), .int .u16 (dx : Int)] 150 (0, 0)) ∧ v1.heap[w.heap.size + 1]? = some (.cells #[.int .u64 0, .int .u64 0] 57 (0, 0)) ∧ v1.heap[w.heap.size + 1 + 1]? = some (.cells #[.int .u64 (da : Int), .int .u64 (dl : Int)] 57 (0, 0)) ∧ Below w.heap.size w v1) := ⟨below_box X0.out.1 hb, below_box X0.out.2.1 hb, below_box X0.out.2.2.1 hb, below_to X0.out.2.2.2 hb⟩; clear hb)
      clear X0 d0 d1 d2 d3 p0 p1
      obtain ⟨d0, d1, d2, d3⟩ := box4_facts X1.out.1
      obtain ⟨p0, p1, _, _⟩ := box_facts X1.out.2.2.1
      by_cases hbad : dl = 0 ∨ 4096 < dl ∨ ¬ dl % 16 = 0
      · have HE : Hid (te = 154) := HT.out.symm.trans (tabE_bad HF1.out hbad)
        by_cases z0 : dl = 0
        · have e0 : ((dl : Int) == 0) = true := by simp [z0]
          clear z0 hbad
          go_upto_region 5 with fail
          refine wp_region_list ?_
          (refine wpList_step (fun KK hKK => ?_); go_simp; refine hKK _ _ ?_; clear hKK KK)
          refine wpList_store_row rfl 57 _ _ rfl (w.heap.size + 1) #[.int .u64 0, .int .u64 0] rfl rfl 57 #[.int .u64 0, .int .u64 0] X1.out.2.1 info38 rfl (by simp [Value.oneCell']) ?_
          have HY : Hid (Below w.heap.size w (v1.setRow (w.heap.size + 1) #[.int .u64 0, .int .u64 0]) ∧ (v1.setRow (w.heap.size + 1) #[.int .u64 0, .int .u64 0]).heap[w.heap.size + 1]? = some (.cells #[.int .u64 0, .int .u64 0] 57 (0, 0))) := ⟨below_setRow X1.out.2.2.2 (Nat.le_succ _) _, setRow_heap _ _ _ _ _ _ X1.out.2.1⟩
          generalize v1.setRow (w.heap.size + 1) #[.int .u64 0, .int .u64 0] = w9 at *
          obtain ⟨c0, c1, _, _⟩ := box_facts HY.out.2
          go_wp2_with fail
          refine bodyPost_ret (v := .tuple #[.agg #[.int .u64 0, .int .u64 0], .int .i64 154]) (by simp [results, Tryz.results84, go_sem, c0, c1]) rfl ?_
          rw [HE.out]
          exact ⟨rfl, HY.out.1⟩
        · have e0 : ((dl : Int) == 0) = false := by simp [z0]
          by_cases z1 : 4096 < dl
          · have e1 : (4096 : Int) < dl := by omega
            clear z0 hbad z1
            go_upto_region 5 with fail
            refine wp_region_list ?_
            (refine wpList_step (fun KK hKK => ?_); go_simp; refine hKK _ _ ?_; clear hKK KK)
            refine wpList_store_row rfl 57 _ _ rfl (w.heap.size + 1) #[.int .u64 0, .int .u64 0] rfl rfl 57 #[.int .u64 0, .int .u64 0] X1.out.2.1 info38 rfl (by simp [Value.oneCell']) ?_
            have HY : Hid (Below w.heap.size w (v1.setRow (w.heap.size + 1) #[.int .u64 0, .int .u64 0]) ∧ (v1.setRow (w.heap.size + 1) #[.int .u64 0, .int .u64 0]).heap[w.heap.size + 1]? = some (.cells #[.int .u64 0, .int .u64 0] 57 (0, 0))) := ⟨below_setRow X1.out.2.2.2 (Nat.le_succ _) _, setRow_heap _ _ _ _ _ _ X1.out.2.1⟩
            generalize v1.setRow (w.heap.size + 1) #[.int .u64 0, .int .u64 0] = w9 at *
            obtain ⟨c0, c1, _, _⟩ := box_facts HY.out.2
            go_wp2_with fail
            refine bodyPost_ret (v := .tuple #[.agg #[.int .u64 0, .int .u64 0], .int .i64 154]) (by simp [results, Tryz.results84, go_sem, c0, c1]) rfl ?_
            rw [HE.out]
            exact ⟨rfl, HY.out.1⟩
          · have e1 : ¬ (4096 : Int) < dl := by omega
            obtain ⟨y, hy⟩ : ∃ y, dl % 16 = y := ⟨_, rfl⟩
            have e2 : (dl : Int) % 16 = (y : Int) := by omega
            have e2' : (dl : Int).tmod 16 = (y : Int) := by rw [Int.tmod_eq_emod_of_nonneg (by omega)]; exact e2
            have e3 : ((y : Int) != 0) = true := by simp; omega
            clear z0 hbad z1 hy
            go_upto_region 5 with fail
            refine wp_region_list ?_
            (refine wpList_step (fun KK hKK => ?_); go_simp; refine hKK _ _ ?_; clear hKK KK)
            refine wpList_store_row rfl 57 _ _ rfl (w.heap.size + 1) #[.int .u64 0, .int .u64 0] rfl rfl 57 #[.int .u64 0, .int .u64 0] X1.out.2.1 info38 rfl (by simp [Value.oneCell']) ?_
            have HY : Hid (Below w.heap.size w (v1.setRow (w.heap.size + 1) #[.int .u64 0, .int .u64 0]) ∧ (v1.setRow (w.heap.size + 1) #[.int .u64 0, .int .u64 0]).heap[w.heap.size + 1]? = some (.cells #[.int .u64 0, .int .u64 0] 57 (0, 0))) := ⟨below_setRow X1.out.2.2.2 (Nat.le_succ _) _, setRow_heap _ _ _ _ _ _ X1.out.2.1⟩
            generalize v1.setRow (w.heap.size + 1) #[.int .u64 0, .int .u64 0] = w9 at *
            obtain ⟨c0, c1, _, _⟩ := box_facts HY.out.2
            go_wp2_with fail
            refine bodyPost_ret (v := .tuple #[.agg #[.int .u64 0, .int .u64 0], .int .i64 154]) (by simp [results, Tryz.results84, go_sem, c0, c1]) rfl ?_
            rw [HE.out]
            exact ⟨rfl, HY.out.1⟩
      · have e0 : ((dl : Int) == 0) = false := by simp; omega
        have e1 : ¬ (4096 : Int) < dl := by omega
        have e2 : (dl : Int) % 16 = 0 := by omega
        have e2' : (dl : Int).tmod 16 = 0 := by rw [Int.tmod_eq_emod_of_nonneg (by omega)]; exact e2
        have HE0 : Hid (te = if inB da dl 2147483648 8192 = true then 0 else 21) := HT.out.symm.trans (tabE_go HF1.out hbad)
        clear hbad
        go_upto_region 6 with fail
        have Xd : Hid (v1.drew.heap[w.heap.size]? = some (.cells #[.int .u64 (da : Int), .int .u32 (dl : Int), .int .u16 (df : Int), .int .u16 (dx : Int)] 150 (0, 0)) ∧ v1.drew.heap[w.heap.size + 1]? = some (.cells #[.int .u64 0, .int .u64 0] 57 (0, 0)) ∧ v1.drew.heap[w.heap.size + 1 + 1]? = some (.cells #[.int .u64 (da : Int), .int .u64 (dl : Int)] 57 (0, 0)) ∧ Below w.heap.size w v1.drew) := ⟨X1.out.1, X1.out.2.1, X1.out.2.2.1, X1.out.2.2.2.drew⟩
        have q0 := HW.out _ Xd.out.2.2.2
        obtain ⟨ib, hin⟩ : ∃ ib, inB da dl 2147483648 8192 = ib := ⟨_, rfl⟩
        have HI : Hid (inB da dl 2147483648 8192 = ib) := hin
        rw [hin] at HE0
        clear hin X1 d0 d1 d2 d3 p0 p1
        obtain ⟨p0, p1, _, _⟩ := box_facts Xd.out.2.2.1
        go_region_held3 (fun Z => Z.cell? ⟨wb, 0, none⟩ = some (.pointer (some ⟨rb, 0, none⟩)) ∧ Z.cell? ⟨w.heap.size + 1 + 1, 0, none⟩ = some (.int .u64 (da : Int)) ∧ Z.cell? ⟨w.heap.size + 1 + 1, 1, none⟩ = some (.int .u64 (dl : Int))) (go_keep) (first | (go_at_call 69; refine (HH.out _ Xd.out.2.2.2).mono ?_; rintro e w2 ⟨rfl, hw⟩; rw [hw]; clear hw w2; rw [HI.out]))
        generalize v1.drew = v2 at *
        cases ib with
        | false =>
          have HE : Hid (te = 21) := HE0.out
          go_upto_region 7 with fail
          refine wp_region_list ?_
          (refine wpList_step (fun KK hKK => ?_); go_simp; refine hKK _ _ ?_; clear hKK KK)
          refine wpList_store_row rfl 57 _ _ rfl (w.heap.size + 1) #[.int .u64 0, .int .u64 0] rfl rfl 57 #[.int .u64 0, .int .u64 0] Xd.out.2.1 info38 rfl (by simp [Value.oneCell']) ?_
          have HY : Hid (Below w.heap.size w (v2.setRow (w.heap.size + 1) #[.int .u64 0, .int .u64 0]) ∧ (v2.setRow (w.heap.size + 1) #[.int .u64 0, .int .u64 0]).heap[w.heap.size + 1]? = some (.cells #[.int .u64 0, .int .u64 0] 57 (0, 0))) := ⟨below_setRow Xd.out.2.2.2 (Nat.le_succ _) _, setRow_heap _ _ _ _ _ _ Xd.out.2.1⟩
          generalize v2.setRow (w.heap.size + 1) #[.int .u64 0, .int .u64 0] = w9 at *
          obtain ⟨c0, c1, _, _⟩ := box_facts HY.out.2
          go_wp2_with fail
          refine bodyPost_ret (v := .tuple #[.agg #[.int .u64 0, .int .u64 0], .int .i64 21]) (by simp [results, Tryz.results84, go_sem, c0, c1]) rfl ?_
          rw [HE.out]
          exact ⟨rfl, HY.out.1⟩
        | true =>
          have HE : Hid (te = 0) := HE0.out
          go_upto_region 8 with fail
          refine wp_region_list ?_
          (refine wpList_step (fun KK hKK => ?_); go_simp; refine hKK _ _ ?_; clear hKK KK)
          refine wpList_store_row rfl 57 _ _ rfl (w.heap.size + 1) #[.int .u64 (da : Int), .int .u64 (dl : Int)] rfl rfl 57 #[.int .u64 0, .int .u64 0] Xd.out.2.1 info38 rfl (by simp [Value.oneCell']) ?_
          have HY : Hid (Below w.heap.size w (v2.setRow (w.heap.size + 1) #[.int .u64 (da : Int), .int .u64 (dl : Int)]) ∧ (v2.setRow (w.heap.size + 1) #[.int .u64 (da : Int), .int .u64 (dl : Int)]).heap[w.heap.size + 1]? = some (.cells #[.int .u64 (da : Int), .int .u64 (dl : Int)] 57 (0, 0))) := ⟨below_setRow Xd.out.2.2.2 (Nat.le_succ _) _, setRow_heap _ _ _ _ _ _ Xd.out.2.1⟩
          generalize v2.setRow (w.heap.size + 1) #[.int .u64 (da : Int), .int .u64 (dl : Int)] = w9 at *
          obtain ⟨c0, c1, _, _⟩ := box_facts HY.out.2
          go_wp2_with fail
          refine bodyPost_ret (v := .tuple #[.agg #[.int .u64 (da : Int), .int .u64 (dl : Int)], .int .i64 0]) (by simp [results, Tryz.results84, go_sem, c0, c1]) rfl ?_
          rw [HE.out]
          exact ⟨rfl, HY.out.1⟩
end Go.Proofs.YtmjdnocilbnoaaaGreat
