/- The document's walk along one table. -/
import Derived.Test.YtcgjfklglckjcaaCg
namespace Go.Proofs.Ytcgjfklglckjcaa
open Go.RowKit Go.Maps
set_option linter.unusedVariables false
set_option linter.unusedSimpArgs false
set_option maxRecDepth 100000
theorem info44 : (Try.prog.info? 44).map (·.size) = some 3 := by kernel_rfl
theorem four_in (w : World) (o1 o2 o3 o4 : Obj) : ((((w.alloc o1).alloc o2).alloc o3).alloc o4).heap[w.heap.size]? = some o1 ∧ ((((w.alloc o1).alloc o2).alloc o3).alloc o4).heap[w.heap.size + 1]? = some o2 ∧ ((((w.alloc o1).alloc o2).alloc o3).alloc o4).heap[w.heap.size + 1 + 1]? = some o3 ∧ ((((w.alloc o1).alloc o2).alloc o3).alloc o4).heap[w.heap.size + 1 + 1 + 1]? = some o4 ∧ Below w.heap.size w ((((w.alloc o1).alloc o2).alloc o3).alloc o4) := by
  have h := three_in w o1 o2 o3
  have hb : Below (((w.alloc o1).alloc o2).alloc o3).heap.size (((w.alloc o1).alloc o2).alloc o3) ((((w.alloc o1).alloc o2).alloc o3).alloc o4) := (Below.refl _ _).alloc (Nat.le_refl _) _
  have hs : (((w.alloc o1).alloc o2).alloc o3).heap.size = w.heap.size + 1 + 1 + 1 := by simp
  refine ⟨below_box h.1 hb, below_box h.2.1 hb, below_box h.2.2.1 hb, ?_, below_to h.2.2.2 hb⟩
  rw [← hs]; exact heap_alloc_new _ _
/-- the boxes of the document's walk -/
def De4 (w V : World) (va : Option Addr) (nn vc : Nat) (cc : Array Value) (dc : Array Value) : Prop := V.heap[w.heap.size]? = some (.cells #[.int .u64 8192, .slice va nn vc] 32 (0, 0)) ∧ V.heap[w.heap.size + 1]? = some (.cells cc 44 (0, 0)) ∧ V.heap[w.heap.size + 1 + 1]? = some (.cells dc 92 (0, 0)) ∧ V.heap[w.heap.size + 1 + 1 + 1]? = some (.cells #[.slice none 0 0, .int .u64 0, .int .u64 0] 44 (0, 0)) ∧ Below w.heap.size w V
def Db (w V : World) (va : Option Addr) (nn vc : Nat) (cc : Array Value) : Prop := De4 w V va nn vc cc #[.int .u64 0, .int .u32 0, .int .u16 0, .int .u16 0]
def Dq (w V : World) (va : Option Addr) (nn vc : Nat) (cc : Array Value) (p da dl df dx : Nat) (dc : Array Value) : Prop := De4 w V va nn vc cc dc ∧ V.heap[p]? = some (.cells #[.int .u64 (da : Int), .int .u32 (dl : Int), .int .u16 (df : Int), .int .u16 (dx : Int)] 92 (0, 0)) ∧ w.heap.size + 1 + 1 + 1 < p
def Dp (w V : World) (va : Option Addr) (nn vc : Nat) (cc : Array Value) (p da dl df dx : Nat) : Prop := Dq w V va nn vc cc p da dl df dx #[.int .u64 0, .int .u32 0, .int .u16 0, .int .u16 0]
section
variable {w V V2 : World} {va : Option Addr} {nn vc : Nat} {cc dc : Array Value} {p da dl df dx : Nat} {a : Value} {ta tl : Nat}
theorem De4.below (h : De4 w V va nn vc cc dc) (hb : Below V.heap.size V V2) : De4 w V2 va nn vc cc dc := ⟨below_box h.1 hb, below_box h.2.1 hb, below_box h.2.2.1 hb, below_box h.2.2.2.1 hb, below_to h.2.2.2.2 hb⟩
theorem Db.below (h : Db w V va nn vc cc) (hb : Below V.heap.size V V2) : Db w V2 va nn vc cc := De4.below h hb
theorem Dp.below (h : Dp w V va nn vc cc p da dl df dx) (hb : Below V.heap.size V V2) : Dp w V2 va nn vc cc p da dl df dx := ⟨De4.below h.1 hb, below_box h.2.1 hb, h.2.2⟩
theorem De4.set (h : De4 w V va nn vc cc dc) (c : Array Value) : De4 w (V.setRow (w.heap.size + 1 + 1) c) va nn vc cc c := ⟨(setRow_other _ _ _ _ (by omega)).trans h.1, (setRow_other _ _ _ _ (by omega)).trans h.2.1, setRow_heap _ _ _ _ _ _ h.2.2.1, (setRow_other _ _ _ _ (by omega)).trans h.2.2.2.1, below_setRow h.2.2.2.2 (by omega) _⟩
theorem Db.set (h : Db w V va nn vc cc) (c : Array Value) : De4 w (V.setRow (w.heap.size + 1 + 1) c) va nn vc cc c := De4.set h c
theorem Dp.set (h : Dp w V va nn vc cc p da dl df dx) (c : Array Value) : Dq w (V.setRow (w.heap.size + 1 + 1) c) va nn vc cc p da dl df dx c := ⟨De4.set h.1 c, (setRow_other _ _ _ _ (by have := h.2.2; omega)).trans h.2.1, h.2.2⟩
theorem De4.fin {x y z : Value} (h : De4 w V va nn vc #[x, y, z] dc) : Below w.heap.size w (V.setRow (w.heap.size + 1 + 1 + 1) #[x, y, z]) ∧ (V.setRow (w.heap.size + 1 + 1 + 1) #[x, y, z]).heap[w.heap.size + 1 + 1]? = some (.cells dc 92 (0, 0)) ∧ (V.setRow (w.heap.size + 1 + 1 + 1) #[x, y, z]).heap[w.heap.size + 1 + 1 + 1]? = some (.cells #[x, y, z] 44 (0, 0)) ∧ (V.setRow (w.heap.size + 1 + 1 + 1) #[x, y, z]).cell? ⟨w.heap.size + 1, 0, none⟩ = some x ∧ (V.setRow (w.heap.size + 1 + 1 + 1) #[x, y, z]).cell? ⟨w.heap.size + 1, 1, none⟩ = some y ∧ (V.setRow (w.heap.size + 1 + 1 + 1) #[x, y, z]).cell? ⟨w.heap.size + 1, 2, none⟩ = some z := by
  have h1 : (V.setRow (w.heap.size + 1 + 1 + 1) #[x, y, z]).heap[w.heap.size + 1]? = some (.cells #[x, y, z] 44 (0, 0)) := (setRow_other _ _ _ _ (by omega)).trans h.2.1
  exact ⟨below_setRow h.2.2.2.2 (by omega) _, (setRow_other _ _ _ _ (by omega)).trans h.2.2.1, setRow_heap _ _ _ _ _ _ h.2.2.2.1, cellOf h1 0 _ rfl, cellOf h1 1 _ rfl, cellOf h1 2 _ rfl⟩
theorem Dq.fin {x y z : Value} (h : Dq w V va nn vc #[x, y, z] p da dl df dx dc) : Below w.heap.size w (V.setRow (w.heap.size + 1 + 1 + 1) #[x, y, z]) ∧ (V.setRow (w.heap.size + 1 + 1 + 1) #[x, y, z]).heap[w.heap.size + 1 + 1]? = some (.cells dc 92 (0, 0)) ∧ (V.setRow (w.heap.size + 1 + 1 + 1) #[x, y, z]).heap[w.heap.size + 1 + 1 + 1]? = some (.cells #[x, y, z] 44 (0, 0)) ∧ (V.setRow (w.heap.size + 1 + 1 + 1) #[x, y, z]).cell? ⟨w.heap.size + 1, 0, none⟩ = some x ∧ (V.setRow (w.heap.size + 1 + 1 + 1) #[x, y, z]).cell? ⟨w.heap.size + 1, 1, none⟩ = some y ∧ (V.setRow (w.heap.size + 1 + 1 + 1) #[x, y, z]).cell? ⟨w.heap.size + 1, 2, none⟩ = some z ∧ (V.setRow (w.heap.size + 1 + 1 + 1) #[x, y, z]).cell? ⟨p, 0, none⟩ = some (.int .u64 (da : Int)) ∧ (V.setRow (w.heap.size + 1 + 1 + 1) #[x, y, z]).cell? ⟨p, 1, none⟩ = some (.int .u32 (dl : Int)) ∧ (V.setRow (w.heap.size + 1 + 1 + 1) #[x, y, z]).cell? ⟨p, 2, none⟩ = some (.int .u16 (df : Int)) ∧ (V.setRow (w.heap.size + 1 + 1 + 1) #[x, y, z]).cell? ⟨p, 3, none⟩ = some (.int .u16 (dx : Int)) := by
  obtain ⟨h1, h2, h3, h4, h5, h6⟩ := h.1.fin
  have h7 : (V.setRow (w.heap.size + 1 + 1 + 1) #[x, y, z]).heap[p]? = some (.cells #[.int .u64 (da : Int), .int .u32 (dl : Int), .int .u16 (df : Int), .int .u16 (dx : Int)] 92 (0, 0)) := (setRow_other _ _ _ _ (by have := h.2.2; omega)).trans h.2.1
  exact ⟨h1, h2, h3, h4, h5, h6, cellOf h7 0 _ rfl, cellOf h7 1 _ rfl, cellOf h7 2 _ rfl, cellOf h7 3 _ rfl⟩
end
/-- what the document's Desc tells in worlds behind w0 -/
def DDesc (w0 : World) (va : Option Addr) (nn vc : Nat) (M : Nat → Nat) : Prop := ∀ V, Below w0.heap.size w0 V → ∀ (t i : Nat), i ≤ 255 → Calls Try.prog 60 #[.agg #[.int .u64 8192, .slice va nn vc], .int .u64 (t : Int), .int .i64 (i : Int)] V fun e w' => e = .returned (.tuple #[.agg #[.int .u64 ((deN M t i).a : Int), .int .u32 ((deN M t i).l : Int), .int .u16 ((deN M t i).f : Int), .int .u16 ((deN M t i).x : Int)], .bool (deB t i)]) ∧ Below V.heap.size V w'
def DIH (w0 : World) (va : Option Addr) (nn vc : Nat) (M : Nat → Nat) (t n k : Nat) : Prop := ∀ (i : Int) (l : List Seg) (a : Option Addr) (L c ta tl : Nat) (w : World), Below w0.heap.size w0 w → SegIn 0 w (.slice a L c) l → l.length + k ≤ 600 → Calls Try.prog 38 #[.agg #[.int .u64 8192, .slice va nn vc], .int .u64 (t : Int), .int .i64 (n : Int), .int .i64 i, .int .i64 (k : Int), .agg #[.slice a L c, .int .u64 (ta : Int), .int .u64 (tl : Int)]] w fun e w' => ∃ (d : De) (a' : Option Addr) (L' c' : Nat), e = .returned (.tuple #[.agg #[.int .u64 (d.a : Int), .int .u32 (d.l : Int), .int .u16 (d.f : Int), .int .u16 (d.x : Int)], .agg #[.slice a' L' c', .int .u64 (ta : Int), .int .u64 (tl : Int)], .int .i64 ((alongR M t n k i l).e : Int)]) ∧ (((alongR M t n k i l).e) = 0 → d = (alongR M t n k i l).d ∧ SegIn 0 w' (.slice a' L' c') (alongR M t n k i l).l ∧ ∀ g, (Value.slice a' L' c').ownBlock = some g → (Value.slice a L c).ownBlock = some g ∨ w.heap.size ≤ g) ∧ Below w.heap.size w w'
theorem dalong_out {w0 : World} {va : Option Addr} {nn vc : Nat} {M : Nat → Nat} (t n k : Nat) (i : Int) (hi : ¬ (0 ≤ i ∧ i < (n : Int))) (l : List Seg) (a : Option Addr) (L c ta tl : Nat) (w : World) : Calls Try.prog 38 #[.agg #[.int .u64 8192, .slice va nn vc], .int .u64 (t : Int), .int .i64 (n : Int), .int .i64 i, .int .i64 (k : Int), .agg #[.slice a L c, .int .u64 (ta : Int), .int .u64 (tl : Int)]] w fun e w' => ∃ (d : De) (a' : Option Addr) (L' c' : Nat), e = .returned (.tuple #[.agg #[.int .u64 (d.a : Int), .int .u32 (d.l : Int), .int .u16 (d.f : Int), .int .u16 (d.x : Int)], .agg #[.slice a' L' c', .int .u64 (ta : Int), .int .u64 (tl : Int)], .int .i64 ((alongR M t n k i l).e : Int)]) ∧ (((alongR M t n k i l).e) = 0 → d = (alongR M t n k i l).d ∧ SegIn 0 w' (.slice a' L' c') (alongR M t n k i l).l ∧ ∀ g, (Value.slice a' L' c').ownBlock = some g → (Value.slice a L c).ownBlock = some g ∨ w.heap.size ≤ g) ∧ Below w.heap.size w w' := by
  have HRR : Hid (alongR M t n k i l = ⟨151, De.zero, l⟩) := along_out hi
  have X0 : Hid (Db w ((((w.alloc (.cells #[.int .u64 8192, .slice va nn vc] 32)).alloc (.cells #[.slice a L c, .int .u64 (ta : Int), .int .u64 (tl : Int)] 44)).alloc (.cells #[.int .u64 0, .int .u32 0, .int .u16 0, .int .u16 0] 92)).alloc (.cells #[.slice none 0 0, .int .u64 0, .int .u64 0] 44)) va nn vc #[.slice a L c, .int .u64 (ta : Int), .int .u64 (tl : Int)]) := four_in w _ _ _ _
  by_cases h1 : i < 0
  · clear hi
    go_enter Try.func38, Try.ntmps38
    go_upto_region 1 with fail
    generalize (((w.alloc (.cells #[.int .u64 8192, .slice va nn vc] 32)).alloc (.cells #[.slice a L c, .int .u64 (ta : Int), .int .u64 (tl : Int)] 44)).alloc (.cells #[.int .u64 0, .int .u32 0, .int .u16 0, .int .u16 0] 92)).alloc (.cells #[.slice none 0 0, .int .u64 0, .int .u64 0] 44) = v0 at *
    go_upto_region 2 with fail
    have Xd : Hid (Db w v0.drew va nn vc #[.slice a L c, .int .u64 (ta : Int), .int .u64 (tl : Int)]) := X0.out.below (Below.refl _ _).drew
    refine wp_region_held_drew (S := fun Z => Z.cell? ⟨w.heap.size + 1, 0, none⟩ = some (.slice a L c) ∧ Z.cell? ⟨w.heap.size + 1, 1, none⟩ = some (.int .u64 (ta : Int)) ∧ Z.cell? ⟨w.heap.size + 1, 2, none⟩ = some (.int .u64 (tl : Int))) (by kernel_rfl) ⟨cellOf Xd.out.2.1 0 _ rfl, cellOf Xd.out.2.1 1 _ rfl, cellOf Xd.out.2.1 2 _ rfl⟩ ?_
    intro hS
    clear X0
    generalize v0.drew = Vd at *
    refine wpAnyH_take (i := 0) (v := ?_) rfl (by kernel_rfl) (by kernel_rfl) (by kernel_rfl) (fun _ _ _ h => h) (Or.inl ⟨by kernel_rfl, ?_⟩) hS ?_
    rotate_left
    · intro w hSw; (try dsimp only at hSw); go_simp; try (with_reducible rfl)
    (try simp only [Act.put, List.getElem_toArray, List.getElem_cons_succ, List.getElem_cons_zero, List.setIfInBounds_toArray, List.set_cons_zero, List.set_cons_succ])
    refine wpAnyH_take (i := 1) (v := ?_) rfl (by kernel_rfl) (by kernel_rfl) (by kernel_rfl) (fun _ _ _ h => h) (Or.inl ⟨by kernel_rfl, ?_⟩) hS ?_
    rotate_left
    · intro w hSw; (try dsimp only at hSw); go_simp; try (with_reducible rfl)
    (try simp only [Act.put, List.getElem_toArray, List.getElem_cons_succ, List.getElem_cons_zero, List.setIfInBounds_toArray, List.set_cons_zero, List.set_cons_succ])
    refine wpAnyH_ready (rs := [2]) (by kernel_rfl) (by simp) ?_
    refine AllReadyH.cons rfl (fun K1 hK1 => ?_) AllReadyH.nil
    rw [if_pos (by kernel_rfl)]
    refine wp_store_row 92 _ _ rfl (w.heap.size + 1 + 1) #[.int .u64 0, .int .u32 0, .int .u16 0, .int .u16 0] rfl rfl 92 #[.int .u64 0, .int .u32 0, .int .u16 0, .int .u16 0] Xd.out.2.2.1 info47 rfl (by simp [Value.oneCell']) ?_
    have Xe : Hid ((De4 w (Vd.setRow (w.heap.size + 1 + 1) #[.int .u64 0, .int .u32 0, .int .u16 0, .int .u16 0]) va nn vc #[.slice a L c, .int .u64 (ta : Int), .int .u64 (tl : Int)] #[.int .u64 0, .int .u32 0, .int .u16 0, .int .u16 0])) := Xd.out.set #[.int .u64 0, .int .u32 0, .int .u16 0, .int .u16 0]
    clear Xd
    generalize Vd.setRow (w.heap.size + 1 + 1) #[.int .u64 0, .int .u32 0, .int .u16 0, .int .u16 0] = Ve at *
    refine hK1.out _ _ ⟨cellOf Xe.out.2.1 0 _ rfl, cellOf Xe.out.2.1 1 _ rfl, cellOf Xe.out.2.1 2 _ rfl⟩ (fun h2 => ?_)
    clear hK1 K1 hS
    (try simp only [Act.put, List.getElem_toArray, List.getElem_cons_succ, List.getElem_cons_zero, List.setIfInBounds_toArray, List.set_cons_zero, List.set_cons_succ])
    refine wpAnyH_ready (rs := [3]) (by kernel_rfl) (by simp) ?_
    refine AllReadyH.cons rfl (fun K1 hK1 => ?_) AllReadyH.nil
    rw [if_pos (by kernel_rfl)]
    refine wp_store_row 44 _ _ rfl (w.heap.size + 1 + 1 + 1) #[.slice a L c, .int .u64 (ta : Int), .int .u64 (tl : Int)] rfl rfl 44 #[.slice none 0 0, .int .u64 0, .int .u64 0] Xe.out.2.2.2.1 info44 rfl (by simp [Value.oneCell']) ?_
    have Xf : Hid (Below w.heap.size w (Ve.setRow (w.heap.size + 1 + 1 + 1) #[.slice a L c, .int .u64 (ta : Int), .int .u64 (tl : Int)]) ∧ (Ve.setRow (w.heap.size + 1 + 1 + 1) #[.slice a L c, .int .u64 (ta : Int), .int .u64 (tl : Int)]).heap[w.heap.size + 1 + 1]? = some (.cells #[.int .u64 0, .int .u32 0, .int .u16 0, .int .u16 0] 92 (0, 0)) ∧ (Ve.setRow (w.heap.size + 1 + 1 + 1) #[.slice a L c, .int .u64 (ta : Int), .int .u64 (tl : Int)]).heap[w.heap.size + 1 + 1 + 1]? = some (.cells #[.slice a L c, .int .u64 (ta : Int), .int .u64 (tl : Int)] 44 (0, 0)) ∧ (Ve.setRow (w.heap.size + 1 + 1 + 1) #[.slice a L c, .int .u64 (ta : Int), .int .u64 (tl : Int)]).cell? ⟨w.heap.size + 1, 0, none⟩ = some (.slice a L c) ∧ (Ve.setRow (w.heap.size + 1 + 1 + 1) #[.slice a L c, .int .u64 (ta : Int), .int .u64 (tl : Int)]).cell? ⟨w.heap.size + 1, 1, none⟩ = some (.int .u64 (ta : Int)) ∧ (Ve.setRow (w.heap.size + 1 + 1 + 1) #[.slice a L c, .int .u64 (ta : Int), .int .u64 (tl : Int)]).cell? ⟨w.heap.size + 1, 2, none⟩ = some (.int .u64 (tl : Int))) := Xe.out.fin
    clear Xe
    generalize Ve.setRow (w.heap.size + 1 + 1 + 1) #[.slice a L c, .int .u64 (ta : Int), .int .u64 (tl : Int)] = Vf at *
    refine hK1.out _ _ Xf.out.2.2.2 (fun h3 => ?_)
    clear hK1 K1 h2
    (try simp only [Act.put, List.getElem_toArray, List.getElem_cons_succ, List.getElem_cons_zero, List.setIfInBounds_toArray, List.set_cons_zero, List.set_cons_succ])
    refine wpAnyH_take (i := 4) (v := ?_) rfl (by kernel_rfl) (by kernel_rfl) (by kernel_rfl) (fun _ _ _ h => h) (Or.inl ⟨by kernel_rfl, ?_⟩) h3 ?_
    rotate_left
    · intro w hSw; (try dsimp only at hSw); go_simp; try (with_reducible rfl)
    (try simp only [Act.put, List.getElem_toArray, List.getElem_cons_succ, List.getElem_cons_zero, List.setIfInBounds_toArray, List.set_cons_zero, List.set_cons_succ])
    refine wpAnyH_done (by kernel_rfl) ?_ _
    clear h3
    obtain ⟨r0, r1, r2, r3⟩ := box4_facts Xf.out.2.1
    obtain ⟨q0, q1, q2⟩ := box3_facts Xf.out.2.2.1
    go_wp2_with fail
    refine bodyPost_ret (v := .tuple #[.agg #[.int .u64 0, .int .u32 0, .int .u16 0, .int .u16 0], .agg #[.slice a L c, .int .u64 (ta : Int), .int .u64 (tl : Int)], .int .i64 151]) (by simp [results, Try.results38, go_sem, r0, r1, r2, r3, q0, q1, q2]) rfl ?_
    rw [HRR.out]
    exact ⟨De.zero, a, L, c, rfl, (fun h => by cases h), Xf.out.1⟩
  · have h2 : (n : Int) ≤ i := by omega
    clear hi
    go_enter Try.func38, Try.ntmps38
    go_upto_region 1 with fail
    generalize (((w.alloc (.cells #[.int .u64 8192, .slice va nn vc] 32)).alloc (.cells #[.slice a L c, .int .u64 (ta : Int), .int .u64 (tl : Int)] 44)).alloc (.cells #[.int .u64 0, .int .u32 0, .int .u16 0, .int .u16 0] 92)).alloc (.cells #[.slice none 0 0, .int .u64 0, .int .u64 0] 44) = v0 at *
    go_upto_region 2 with fail
    have Xd : Hid (Db w v0.drew va nn vc #[.slice a L c, .int .u64 (ta : Int), .int .u64 (tl : Int)]) := X0.out.below (Below.refl _ _).drew
    refine wp_region_held_drew (S := fun Z => Z.cell? ⟨w.heap.size + 1, 0, none⟩ = some (.slice a L c) ∧ Z.cell? ⟨w.heap.size + 1, 1, none⟩ = some (.int .u64 (ta : Int)) ∧ Z.cell? ⟨w.heap.size + 1, 2, none⟩ = some (.int .u64 (tl : Int))) (by kernel_rfl) ⟨cellOf Xd.out.2.1 0 _ rfl, cellOf Xd.out.2.1 1 _ rfl, cellOf Xd.out.2.1 2 _ rfl⟩ ?_
    intro hS
    clear X0
    generalize v0.drew = Vd at *
    refine wpAnyH_take (i := 0) (v := ?_) rfl (by kernel_rfl) (by kernel_rfl) (by kernel_rfl) (fun _ _ _ h => h) (Or.inl ⟨by kernel_rfl, ?_⟩) hS ?_
    rotate_left
    · intro w hSw; (try dsimp only at hSw); go_simp; try (with_reducible rfl)
    (try simp only [Act.put, List.getElem_toArray, List.getElem_cons_succ, List.getElem_cons_zero, List.setIfInBounds_toArray, List.set_cons_zero, List.set_cons_succ])
    refine wpAnyH_take (i := 1) (v := ?_) rfl (by kernel_rfl) (by kernel_rfl) (by kernel_rfl) (fun _ _ _ h => h) (Or.inl ⟨by kernel_rfl, ?_⟩) hS ?_
    rotate_left
    · intro w hSw; (try dsimp only at hSw); go_simp; try (with_reducible rfl)
    (try simp only [Act.put, List.getElem_toArray, List.getElem_cons_succ, List.getElem_cons_zero, List.setIfInBounds_toArray, List.set_cons_zero, List.set_cons_succ])
    refine wpAnyH_ready (rs := [2]) (by kernel_rfl) (by simp) ?_
    refine AllReadyH.cons rfl (fun K1 hK1 => ?_) AllReadyH.nil
    rw [if_pos (by kernel_rfl)]
    refine wp_store_row 92 _ _ rfl (w.heap.size + 1 + 1) #[.int .u64 0, .int .u32 0, .int .u16 0, .int .u16 0] rfl rfl 92 #[.int .u64 0, .int .u32 0, .int .u16 0, .int .u16 0] Xd.out.2.2.1 info47 rfl (by simp [Value.oneCell']) ?_
    have Xe : Hid ((De4 w (Vd.setRow (w.heap.size + 1 + 1) #[.int .u64 0, .int .u32 0, .int .u16 0, .int .u16 0]) va nn vc #[.slice a L c, .int .u64 (ta : Int), .int .u64 (tl : Int)] #[.int .u64 0, .int .u32 0, .int .u16 0, .int .u16 0])) := Xd.out.set #[.int .u64 0, .int .u32 0, .int .u16 0, .int .u16 0]
    clear Xd
    generalize Vd.setRow (w.heap.size + 1 + 1) #[.int .u64 0, .int .u32 0, .int .u16 0, .int .u16 0] = Ve at *
    refine hK1.out _ _ ⟨cellOf Xe.out.2.1 0 _ rfl, cellOf Xe.out.2.1 1 _ rfl, cellOf Xe.out.2.1 2 _ rfl⟩ (fun h2 => ?_)
    clear hK1 K1 hS
    (try simp only [Act.put, List.getElem_toArray, List.getElem_cons_succ, List.getElem_cons_zero, List.setIfInBounds_toArray, List.set_cons_zero, List.set_cons_succ])
    refine wpAnyH_ready (rs := [3]) (by kernel_rfl) (by simp) ?_
    refine AllReadyH.cons rfl (fun K1 hK1 => ?_) AllReadyH.nil
    rw [if_pos (by kernel_rfl)]
    refine wp_store_row 44 _ _ rfl (w.heap.size + 1 + 1 + 1) #[.slice a L c, .int .u64 (ta : Int), .int .u64 (tl : Int)] rfl rfl 44 #[.slice none 0 0, .int .u64 0, .int .u64 0] Xe.out.2.2.2.1 info44 rfl (by simp [Value.oneCell']) ?_
    have Xf : Hid (Below w.heap.size w (Ve.setRow (w.heap.size + 1 + 1 + 1) #[.slice a L c, .int .u64 (ta : Int), .int .u64 (tl : Int)]) ∧ (Ve.setRow (w.heap.size + 1 + 1 + 1) #[.slice a L c, .int .u64 (ta : Int), .int .u64 (tl : Int)]).heap[w.heap.size + 1 + 1]? = some (.cells #[.int .u64 0, .int .u32 0, .int .u16 0, .int .u16 0] 92 (0, 0)) ∧ (Ve.setRow (w.heap.size + 1 + 1 + 1) #[.slice a L c, .int .u64 (ta : Int), .int .u64 (tl : Int)]).heap[w.heap.size + 1 + 1 + 1]? = some (.cells #[.slice a L c, .int .u64 (ta : Int), .int .u64 (tl : Int)] 44 (0, 0)) ∧ (Ve.setRow (w.heap.size + 1 + 1 + 1) #[.slice a L c, .int .u64 (ta : Int), .int .u64 (tl : Int)]).cell? ⟨w.heap.size + 1, 0, none⟩ = some (.slice a L c) ∧ (Ve.setRow (w.heap.size + 1 + 1 + 1) #[.slice a L c, .int .u64 (ta : Int), .int .u64 (tl : Int)]).cell? ⟨w.heap.size + 1, 1, none⟩ = some (.int .u64 (ta : Int)) ∧ (Ve.setRow (w.heap.size + 1 + 1 + 1) #[.slice a L c, .int .u64 (ta : Int), .int .u64 (tl : Int)]).cell? ⟨w.heap.size + 1, 2, none⟩ = some (.int .u64 (tl : Int))) := Xe.out.fin
    clear Xe
    generalize Ve.setRow (w.heap.size + 1 + 1 + 1) #[.slice a L c, .int .u64 (ta : Int), .int .u64 (tl : Int)] = Vf at *
    refine hK1.out _ _ Xf.out.2.2.2 (fun h3 => ?_)
    clear hK1 K1 h2
    (try simp only [Act.put, List.getElem_toArray, List.getElem_cons_succ, List.getElem_cons_zero, List.setIfInBounds_toArray, List.set_cons_zero, List.set_cons_succ])
    refine wpAnyH_take (i := 4) (v := ?_) rfl (by kernel_rfl) (by kernel_rfl) (by kernel_rfl) (fun _ _ _ h => h) (Or.inl ⟨by kernel_rfl, ?_⟩) h3 ?_
    rotate_left
    · intro w hSw; (try dsimp only at hSw); go_simp; try (with_reducible rfl)
    (try simp only [Act.put, List.getElem_toArray, List.getElem_cons_succ, List.getElem_cons_zero, List.setIfInBounds_toArray, List.set_cons_zero, List.set_cons_succ])
    refine wpAnyH_done (by kernel_rfl) ?_ _
    clear h3
    obtain ⟨r0, r1, r2, r3⟩ := box4_facts Xf.out.2.1
    obtain ⟨q0, q1, q2⟩ := box3_facts Xf.out.2.2.1
    go_wp2_with fail
    refine bodyPost_ret (v := .tuple #[.agg #[.int .u64 0, .int .u32 0, .int .u16 0, .int .u16 0], .agg #[.slice a L c, .int .u64 (ta : Int), .int .u64 (tl : Int)], .int .i64 151]) (by simp [results, Try.results38, go_sem, r0, r1, r2, r3, q0, q1, q2]) rfl ?_
    rw [HRR.out]
    exact ⟨De.zero, a, L, c, rfl, (fun h => by cases h), Xf.out.1⟩
theorem dalong_loop {w0 : World} {va : Option Addr} {nn vc : Nat} {M : Nat → Nat} (t n : Nat) (i : Int) (hi : 0 ≤ i ∧ i < (n : Int)) (l : List Seg) (a : Option Addr) (L c ta tl : Nat) (w : World) : Calls Try.prog 38 #[.agg #[.int .u64 8192, .slice va nn vc], .int .u64 (t : Int), .int .i64 (n : Int), .int .i64 i, .int .i64 0, .agg #[.slice a L c, .int .u64 (ta : Int), .int .u64 (tl : Int)]] w fun e w' => ∃ (d : De) (a' : Option Addr) (L' c' : Nat), e = .returned (.tuple #[.agg #[.int .u64 (d.a : Int), .int .u32 (d.l : Int), .int .u16 (d.f : Int), .int .u16 (d.x : Int)], .agg #[.slice a' L' c', .int .u64 (ta : Int), .int .u64 (tl : Int)], .int .i64 ((alongR M t n 0 i l).e : Int)]) ∧ (((alongR M t n 0 i l).e) = 0 → d = (alongR M t n 0 i l).d ∧ SegIn 0 w' (.slice a' L' c') (alongR M t n 0 i l).l ∧ ∀ g, (Value.slice a' L' c').ownBlock = some g → (Value.slice a L c).ownBlock = some g ∨ w.heap.size ≤ g) ∧ Below w.heap.size w w' := by
  have HRR : Hid (alongR M t n 0 i l = ⟨152, De.zero, l⟩) := along_loop hi
  have X0 : Hid (Db w ((((w.alloc (.cells #[.int .u64 8192, .slice va nn vc] 32)).alloc (.cells #[.slice a L c, .int .u64 (ta : Int), .int .u64 (tl : Int)] 44)).alloc (.cells #[.int .u64 0, .int .u32 0, .int .u16 0, .int .u16 0] 92)).alloc (.cells #[.slice none 0 0, .int .u64 0, .int .u64 0] 44)) va nn vc #[.slice a L c, .int .u64 (ta : Int), .int .u64 (tl : Int)]) := four_in w _ _ _ _
  have h1 : ¬ i < 0 := by omega
  have h2 : ¬ (n : Int) ≤ i := by omega
  clear hi
  go_enter Try.func38, Try.ntmps38
  go_upto_region 1 with fail
  generalize (((w.alloc (.cells #[.int .u64 8192, .slice va nn vc] 32)).alloc (.cells #[.slice a L c, .int .u64 (ta : Int), .int .u64 (tl : Int)] 44)).alloc (.cells #[.int .u64 0, .int .u32 0, .int .u16 0, .int .u16 0] 92)).alloc (.cells #[.slice none 0 0, .int .u64 0, .int .u64 0] 44) = v0 at *
  go_upto_region 4 with fail
  have Xd : Hid (Db w v0.drew va nn vc #[.slice a L c, .int .u64 (ta : Int), .int .u64 (tl : Int)]) := X0.out.below (Below.refl _ _).drew
  refine wp_region_held_drew (S := fun Z => Z.cell? ⟨w.heap.size + 1, 0, none⟩ = some (.slice a L c) ∧ Z.cell? ⟨w.heap.size + 1, 1, none⟩ = some (.int .u64 (ta : Int)) ∧ Z.cell? ⟨w.heap.size + 1, 2, none⟩ = some (.int .u64 (tl : Int))) (by kernel_rfl) ⟨cellOf Xd.out.2.1 0 _ rfl, cellOf Xd.out.2.1 1 _ rfl, cellOf Xd.out.2.1 2 _ rfl⟩ ?_
  intro hS
  clear X0
  generalize v0.drew = Vd at *
  refine wpAnyH_take (i := 0) (v := ?_) rfl (by kernel_rfl) (by kernel_rfl) (by kernel_rfl) (fun _ _ _ h => h) (Or.inl ⟨by kernel_rfl, ?_⟩) hS ?_
  rotate_left
  · intro w hSw; (try dsimp only at hSw); go_simp; try (with_reducible rfl)
  (try simp only [Act.put, List.getElem_toArray, List.getElem_cons_succ, List.getElem_cons_zero, List.setIfInBounds_toArray, List.set_cons_zero, List.set_cons_succ])
  refine wpAnyH_take (i := 1) (v := ?_) rfl (by kernel_rfl) (by kernel_rfl) (by kernel_rfl) (fun _ _ _ h => h) (Or.inl ⟨by kernel_rfl, ?_⟩) hS ?_
  rotate_left
  · intro w hSw; (try dsimp only at hSw); go_simp; try (with_reducible rfl)
  (try simp only [Act.put, List.getElem_toArray, List.getElem_cons_succ, List.getElem_cons_zero, List.setIfInBounds_toArray, List.set_cons_zero, List.set_cons_succ])
  refine wpAnyH_ready (rs := [2]) (by kernel_rfl) (by simp) ?_
  refine AllReadyH.cons rfl (fun K1 hK1 => ?_) AllReadyH.nil
  rw [if_pos (by kernel_rfl)]
  refine wp_store_row 92 _ _ rfl (w.heap.size + 1 + 1) #[.int .u64 0, .int .u32 0, .int .u16 0, .int .u16 0] rfl rfl 92 #[.int .u64 0, .int .u32 0, .int .u16 0, .int .u16 0] Xd.out.2.2.1 info47 rfl (by simp [Value.oneCell']) ?_
  have Xe : Hid ((De4 w (Vd.setRow (w.heap.size + 1 + 1) #[.int .u64 0, .int .u32 0, .int .u16 0, .int .u16 0]) va nn vc #[.slice a L c, .int .u64 (ta : Int), .int .u64 (tl : Int)] #[.int .u64 0, .int .u32 0, .int .u16 0, .int .u16 0])) := Xd.out.set #[.int .u64 0, .int .u32 0, .int .u16 0, .int .u16 0]
  clear Xd
  generalize Vd.setRow (w.heap.size + 1 + 1) #[.int .u64 0, .int .u32 0, .int .u16 0, .int .u16 0] = Ve at *
  refine hK1.out _ _ ⟨cellOf Xe.out.2.1 0 _ rfl, cellOf Xe.out.2.1 1 _ rfl, cellOf Xe.out.2.1 2 _ rfl⟩ (fun h2 => ?_)
  clear hK1 K1 hS
  (try simp only [Act.put, List.getElem_toArray, List.getElem_cons_succ, List.getElem_cons_zero, List.setIfInBounds_toArray, List.set_cons_zero, List.set_cons_succ])
  refine wpAnyH_ready (rs := [3]) (by kernel_rfl) (by simp) ?_
  refine AllReadyH.cons rfl (fun K1 hK1 => ?_) AllReadyH.nil
  rw [if_pos (by kernel_rfl)]
  refine wp_store_row 44 _ _ rfl (w.heap.size + 1 + 1 + 1) #[.slice a L c, .int .u64 (ta : Int), .int .u64 (tl : Int)] rfl rfl 44 #[.slice none 0 0, .int .u64 0, .int .u64 0] Xe.out.2.2.2.1 info44 rfl (by simp [Value.oneCell']) ?_
  have Xf : Hid (Below w.heap.size w (Ve.setRow (w.heap.size + 1 + 1 + 1) #[.slice a L c, .int .u64 (ta : Int), .int .u64 (tl : Int)]) ∧ (Ve.setRow (w.heap.size + 1 + 1 + 1) #[.slice a L c, .int .u64 (ta : Int), .int .u64 (tl : Int)]).heap[w.heap.size + 1 + 1]? = some (.cells #[.int .u64 0, .int .u32 0, .int .u16 0, .int .u16 0] 92 (0, 0)) ∧ (Ve.setRow (w.heap.size + 1 + 1 + 1) #[.slice a L c, .int .u64 (ta : Int), .int .u64 (tl : Int)]).heap[w.heap.size + 1 + 1 + 1]? = some (.cells #[.slice a L c, .int .u64 (ta : Int), .int .u64 (tl : Int)] 44 (0, 0)) ∧ (Ve.setRow (w.heap.size + 1 + 1 + 1) #[.slice a L c, .int .u64 (ta : Int), .int .u64 (tl : Int)]).cell? ⟨w.heap.size + 1, 0, none⟩ = some (.slice a L c) ∧ (Ve.setRow (w.heap.size + 1 + 1 + 1) #[.slice a L c, .int .u64 (ta : Int), .int .u64 (tl : Int)]).cell? ⟨w.heap.size + 1, 1, none⟩ = some (.int .u64 (ta : Int)) ∧ (Ve.setRow (w.heap.size + 1 + 1 + 1) #[.slice a L c, .int .u64 (ta : Int), .int .u64 (tl : Int)]).cell? ⟨w.heap.size + 1, 2, none⟩ = some (.int .u64 (tl : Int))) := Xe.out.fin
  clear Xe
  generalize Ve.setRow (w.heap.size + 1 + 1 + 1) #[.slice a L c, .int .u64 (ta : Int), .int .u64 (tl : Int)] = Vf at *
  refine hK1.out _ _ Xf.out.2.2.2 (fun h3 => ?_)
  clear hK1 K1 h2
  (try simp only [Act.put, List.getElem_toArray, List.getElem_cons_succ, List.getElem_cons_zero, List.setIfInBounds_toArray, List.set_cons_zero, List.set_cons_succ])
  refine wpAnyH_take (i := 4) (v := ?_) rfl (by kernel_rfl) (by kernel_rfl) (by kernel_rfl) (fun _ _ _ h => h) (Or.inl ⟨by kernel_rfl, ?_⟩) h3 ?_
  rotate_left
  · intro w hSw; (try dsimp only at hSw); go_simp; try (with_reducible rfl)
  (try simp only [Act.put, List.getElem_toArray, List.getElem_cons_succ, List.getElem_cons_zero, List.setIfInBounds_toArray, List.set_cons_zero, List.set_cons_succ])
  refine wpAnyH_done (by kernel_rfl) ?_ _
  clear h3
  obtain ⟨r0, r1, r2, r3⟩ := box4_facts Xf.out.2.1
  obtain ⟨q0, q1, q2⟩ := box3_facts Xf.out.2.2.1
  go_wp2_with fail
  refine bodyPost_ret (v := .tuple #[.agg #[.int .u64 0, .int .u32 0, .int .u16 0, .int .u16 0], .agg #[.slice a L c, .int .u64 (ta : Int), .int .u64 (tl : Int)], .int .i64 152]) (by simp [results, Try.results38, go_sem, r0, r1, r2, r3, q0, q1, q2]) rfl ?_
  rw [HRR.out]
  exact ⟨De.zero, a, L, c, rfl, (fun h => by cases h), Xf.out.1⟩
end Go.Proofs.Ytcgjfklglckjcaa
