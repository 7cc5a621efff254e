/- The document's call Touched of layer 2: the addresses that were written, rising. -/
import Derived.Test.YthnmoalomodbpaaDiffer
import Derived.Deep.AppendLies
import Derived.Deep.RegionHeldLaw
import Derived.Deep.Upon
namespace Go.Proofs.Ythnmoalomodbpaa
open Go.RowKit Go.Maps
set_option linter.unusedVariables false
set_option linter.unusedSimpArgs false
theorem insert_rise (ks : List Nat) (n x : Nat) (h : ks.Pairwise (· < ·)) (h1 : ∀ a ∈ ks.take n, a < x) (h2 : ∀ a ∈ ks.drop n, x < a) : (ks.take n ++ [x] ++ ks.drop n).Pairwise (· < ·) := by
  rw [List.append_assoc, List.pairwise_append]
  refine ⟨h.sublist (List.take_sublist _ _), ?_, fun a ha b hb => ?_⟩
  · rw [List.singleton_append, List.pairwise_cons]
    exact ⟨h2, h.sublist (List.drop_sublist _ _)⟩
  · rcases List.mem_append.1 hb with hb | hb
    · simp at hb; subst hb; exact h1 a ha
    · have := h1 a ha; have := h2 b hb; omega
theorem insert_mem (ks : List Nat) (n x y : Nat) : y ∈ ks.take n ++ [x] ++ ks.drop n ↔ y ∈ ks ∨ y = x := by
  have e : y ∈ ks ↔ y ∈ ks.take n ∨ y ∈ ks.drop n := by rw [← List.mem_append, List.take_append_drop]
  simp only [List.mem_append, List.mem_singleton, e]
  constructor
  · rintro ((h | h) | h)
    · exact .inl (.inl h)
    · exact .inr h
    · exact .inl (.inr h)
  · rintro ((h | h) | h)
    · exact .inl (.inl h)
    · exact .inr h
    · exact .inl (.inr h)
theorem take_below (ks : List Nat) (n x : Nat) (hn : n ≤ ks.length) (h : ∀ m, m < n → ks.getD m 0 < x) : ∀ a ∈ ks.take n, a < x := by
  intro a ha
  obtain ⟨m, hm, rfl⟩ := List.mem_iff_getElem.1 ha
  simp at hm
  have := h m (by omega)
  rw [List.getD_eq_getElem?_getD, List.getElem?_eq_getElem (by omega)] at this
  simpa using this
theorem drop_above (ks : List Nat) (n x : Nat) (hp : ks.Pairwise (· < ·)) (h : n < ks.length → x < ks.getD n 0) : ∀ a ∈ ks.drop n, x < a := by
  intro a ha
  obtain ⟨m, hm, rfl⟩ := List.mem_iff_getElem.1 ha
  simp at hm
  have h0 := h (by omega)
  rw [List.getD_eq_getElem?_getD, List.getElem?_eq_getElem (by omega)] at h0
  simp at h0
  rw [List.getElem_drop]
  rcases Nat.eq_zero_or_pos m with rfl | hm0
  · simpa using h0
  · have := (List.pairwise_iff_getElem.1 hp) n (n + m) (by omega) (by omega) (by omega)
    omega
/-- a world in which the list of addresses grows -/
structure TouchIn (w wr : World) (c : Array Value) (v : Value) (ks : List Nat) : Prop where
  nums : Nums (w.heap.size + 1) wr v ks
  below : Below w.heap.size w wr
  box : wr.heap[w.heap.size]? = some (.cells c 29 (0, 0))
  rise : ks.Pairwise (· < ·)
theorem TouchIn.later {w wr w' : World} {c : Array Value} {v : Value} {ks : List Nat} (h : TouchIn w wr c v ks) (hb : Below wr.heap.size wr w') : TouchIn w w' c v ks :=
  ⟨h.nums.kept (fun g hg => hb.block g (World.ownsRow.lt h.nums g hg).2), h.below.trans (hb.mono h.below.size), below_box h.box hb, h.rise⟩
theorem nums_cell {B : Nat} {w : World} {av : Option Addr} {cv : Nat} {ks : List Nat} (h : Nums B w (.slice av ks.length cv) ks) (h0 : 0 < ks.length) : ∃ g, av = some ⟨g, 0, none⟩ ∧ ∀ j, j < ks.length → w.cell? ⟨g, j, none⟩ = some (.int .u64 (ks.getD j 0 : Nat)) := by
  obtain ⟨g, cur, h1, h2, h3⟩ := nums_block h h0
  exact ⟨g, h1, fun j hj => by simp only [World.cell?, h2]; exact h3 j hj⟩
theorem Nums.cut {B : Nat} {w : World} {g n c : Nat} {ks : List Nat} (h : Nums B w (.slice (some ⟨g, 0, none⟩) n c) ks) (m : Nat) (hm : m ≤ ks.length) : Nums B w (.slice (some ⟨g, 0, none⟩) m c) (ks.take m) := by
  have h0 : (ks.take m).length = m := by simp; omega
  have hl : (numRow (ks.take m)).length = m := by simp [numRow]; omega
  rcases h.2 with ⟨h', _⟩ | ⟨g', cap', cur, h', hb, hg, hnc, hcm, hcs, htake⟩
  · simp at h'
  · simp only [Value.slice.injEq, Option.some.injEq, Addr.mk.injEq, and_true, true_and] at h'
    obtain ⟨rfl, h2, rfl⟩ := h'
    refine ⟨?_, .inr ⟨g, c, cur, by rw [h0], hb, hg, ?_, hcm, hcs, ?_⟩⟩
    · rw [h0, hl]; omega
    · rw [h0]; omega
    · have e : numRow (ks.take m) = (numRow ks).take m := by simp [numRow, List.map_take]
      rw [h0, e, ← htake, List.take_take, Nat.mul_one, Nat.min_eq_left (by omega)]
theorem Nums.room {B : Nat} {w : World} {g n c : Nat} {ks : List Nat} (h : Nums B w (.slice (some ⟨g, 0, none⟩) n c) ks) : n ≤ c := by
  rcases h.2 with ⟨h', _⟩ | ⟨g', cap', cur, h', hb, hg, hnc, hcm, hcs, htake⟩
  · simp at h'
  · simp only [Value.slice.injEq, Option.some.injEq, Addr.mk.injEq, and_true, true_and] at h'
    obtain ⟨rfl, h2, rfl⟩ := h'
    omega
theorem drop_cells {w : World} {g : Nat} {ks : List Nat} (hc : ∀ j, j < ks.length → w.cell? ⟨g, j, none⟩ = some (.int .u64 (ks.getD j 0 : Nat))) (n : Nat) : ∀ j u, (numRow (ks.drop n))[j]? = some u → w.cell? ((⟨g, n, none⟩ : Addr).add j) = some u := by
  intro j u hu
  rw [addr_add]
  unfold numRow at hu
  rw [List.getElem?_map, List.getElem?_drop] at hu
  by_cases h : n + j < ks.length
  · rw [List.getElem?_eq_getElem h] at hu
    rw [hc _ h, List.getD_eq_getElem?_getD, List.getElem?_eq_getElem h]
    exact hu
  · rw [List.getElem?_eq_none (by omega)] at hu
    cases hu
theorem far7 {w6 w7 : World} {o : Obj} {row : Option Nat} (hgr : (w6.drew.alloc o).grownBy w7 row) (b i : Nat) (v : Value) (h : w6.cell? ⟨b, i, none⟩ = some v) (hne : row ≠ some b) : w7.cell? ⟨b, i, none⟩ = some v := by
  have hlt : b < w6.heap.size := block_lt_of_cell h
  rw [← h]
  refine World.cell?_of_block (a := ⟨b, i, none⟩) ?_
  rw [hgr.block b (by simp; omega) (fun e => hne e.symm)]
  exact heap_alloc_old w6.drew o hlt
theorem numRow_one (ks : List Nat) : ∀ u ∈ numRow ks, u.oneCell' = true := by
  intro u hu
  unfold numRow at hu
  obtain ⟨k, _, rfl⟩ := List.mem_map.1 hu
  rfl
theorem numRow_len (ks : List Nat) : (numRow ks).length = ks.length := by simp [numRow]
theorem touch7 {w w6 w7 : World} {c : Array Value} {ks : List Nat} {g g6 cv c6 n x : Nat} (T : TouchIn w w6 c (.slice (some ⟨g, 0, none⟩) ks.length cv) ks) (N6 : Nums (w.heap.size + 1) w6 (.slice (some ⟨g6, 0, none⟩) (ks.length - n) c6) (ks.drop n)) (hgg : g < g6) (hgr : (w6.drew.alloc (.cells #[.int .u64 (x : Nat)] 22)).grownBy w7 (some g)) :
    Nums (w.heap.size + 1) w7 (.slice (some ⟨g6, 0, none⟩) (ks.length - n) c6) (ks.drop n) ∧ Below w.heap.size w w7 ∧ w7.heap[w.heap.size]? = some (.cells c 29 (0, 0)) ∧ w.heap.size + 1 ≤ w7.heap.size := by
  have hT : TouchIn w (w6.drew.alloc (.cells #[.int .u64 (x : Nat)] 22)) c _ ks := (T.later (below_drewN (Below.refl _ _) 1)).later ((Below.refl _ _).alloc (Nat.le_refl _) _)
  have hg := World.ownsRow.lt T.nums g rfl
  have h6 := World.ownsRow.lt N6 g6 rfl
  have hs := hgr.size
  have hz : (w6.drew.alloc (.cells #[.int .u64 (x : Nat)] 22)).heap.size = w6.heap.size + 1 := by simp
  refine ⟨N6.kept (fun g' hg' => ?_), Below.grown hT.below hgr hT.below.size (fun b hb => by cases hb; omega), (hgr.block w.heap.size (by omega) (by simp only [ne_eq, Option.some.injEq]; omega)).trans hT.box, by omega⟩
  cases hg'
  exact (hgr.block g6 (by omega) (by simp only [ne_eq, Option.some.injEq]; omega)).trans (heap_alloc_old w6.drew _ h6.2)
theorem nums_lies {B : Nat} {w : World} {g c n : Nat} {ks : List Nat} (h : Nums B w (.slice (some ⟨g, 0, none⟩) n c) ks) (hn : n = ks.length) (h0 : 0 < n) : ∀ j u, (numRow ks)[j]? = some u → w.cell? ((⟨g, 0, none⟩ : Addr).add j) = some u := by
  subst hn
  obtain ⟨g', e', h'⟩ := nums_cell h h0
  cases e'
  have := drop_cells h' 0
  rw [List.drop_zero] at this
  exact this
theorem touch8 {w w7 w8 : World} {c : Array Value} {ks : List Nat} {g7 g8 c8 n x m : Nat} (hn : n ≤ ks.length) (hm : m = ks.length + 1) (hp : ks.Pairwise (· < ·)) (h1 : ∀ a ∈ ks.take n, a < x) (h2 : ∀ a ∈ ks.drop n, x < a) (hb : Below w.heap.size w w7) (hx : w7.heap[w.heap.size]? = some (.cells c 29 (0, 0))) (h7 : w.heap.size + 1 ≤ g7) (hgr : w7.grownBy w8 (some g7)) (hown : w8.ownsRow (w.heap.size + 1) 22 1 (.slice (some ⟨g8, 0, none⟩) m c8) m (numRow (ks.take n) ++ [.int .u64 (x : Nat)] ++ numRow (ks.drop n))) :
    TouchIn w w8 c (.slice (some ⟨g8, 0, none⟩) m c8) (ks.take n ++ [x] ++ ks.drop n) := by
  refine ⟨?_, Below.grown hb hgr hb.size (fun b hb => by cases hb; omega), (hgr.block w.heap.size (Array.getElem?_eq_some_iff.1 hx).1 (by simp only [ne_eq, Option.some.injEq]; omega)).trans hx, insert_rise ks n x hp h1 h2⟩
  have e : (ks.take n ++ [x] ++ ks.drop n).length = m := by simp; omega
  have e2 : numRow (ks.take n ++ [x] ++ ks.drop n) = numRow (ks.take n) ++ [.int .u64 (x : Nat)] ++ numRow (ks.drop n) := by simp [numRow]
  unfold Nums
  rw [e, e2]
  exact hown
theorem Nums.low {B B' : Nat} {w : World} {v : Value} {ks : List Nat} (h : Nums B w v ks) (hb : B' ≤ B) : Nums B' w v ks := by
  rcases h with ⟨h1, h2 | ⟨g, cap, cur, h3, h4, h5⟩⟩
  · exact ⟨h1, .inl h2⟩
  · exact ⟨h1, .inr ⟨g, cap, cur, h3, Nat.le_trans hb h4, h5⟩⟩
theorem src82 {w : World} {x : Option Addr} {c : Nat} : Src Try.prog 1 102 (.slice x 0 c) 0 [] w := by
  cases x with
  | none => exact Src.ofNil w Try.underlying102 c
  | some a => exact Src.ofSlice w Try.underlying102 a 0 c [] rfl (by simp) (by simp)
theorem wpList_append_zero {w : World} {ops : Array Oper} {rest : List Oper} {o : Oper} {a : Act} {Q : Exit → Act → World → Prop} (hgd : o.guard = none) (s x : Operand) (ho : o.op = .call { callee := .builtin .append, args := #[s, x], argTypes := #[102, 102] })
    (base : Option Addr) (L c : Nat) (hs : a.eval s = .slice base L c) (hL : L ≤ c) (ax : Option Addr) (cx : Nat) (hx : a.eval x = .slice ax 0 cx)
    (h : wpList Try.prog ops Q rest (a.put o.dst (.slice base L c)) w) : wpList Try.prog ops Q (o :: rest) a w := by
  obtain ⟨i0, hi, hz0, hz1, hz2⟩ := info_parts Try.info22
  refine wpList_plain hgd fun K hK => ?_
  have hrun := run_append_nothing (P := Try.prog) w 102 102 o.type 22 i0 Try.underlying102 hi base L c hL (.slice ax 0 cx) (by rw [hz1]; exact src82)
  unfold Oper.wp
  simp [execOp, ho, resolve, invoke, builtin, hs, hx, hrun, Result.andThen]
  exact hK _ _ h
theorem touch9 {w w6 w7 : World} {c : Array Value} {v : Value} {ks : List Nat} {g7 c7 x : Nat} {row : Option Nat} (T : TouchIn w w6 c v ks) (hrow : ∀ b, row = some b → w.heap.size + 1 ≤ b) (hgr : (w6.drew.alloc (.cells #[.int .u64 (x : Nat)] 22)).grownBy w7 row) (hown : w7.ownsRow (w.heap.size + 1) 22 1 (.slice (some ⟨g7, 0, none⟩) (ks.length + 1) c7) (ks.length + 1) (numRow ks ++ [Value.int IntKind.u64 ((x : Nat) : Int)])) (h1 : ∀ a ∈ ks, a < x) :
    TouchIn w w7 c (.slice (some ⟨g7, 0, none⟩) (ks.length + 1) c7) (ks ++ [x]) := by
  have hT : TouchIn w (w6.drew.alloc (.cells #[.int .u64 (x : Nat)] 22)) c _ ks := (T.later (below_drewN (Below.refl _ _) 1)).later ((Below.refl _ _).alloc (Nat.le_refl _) _)
  refine ⟨?_, Below.grown hT.below hgr hT.below.size (fun b hb => by have := hrow b hb; omega), (hgr.block w.heap.size (Array.getElem?_eq_some_iff.1 hT.box).1 (fun e => by have := hrow _ e.symm; omega)).trans hT.box, ?_⟩
  · have e2 : numRow (ks ++ [x]) = numRow ks ++ [Value.int IntKind.u64 ((x : Nat) : Int)] := by simp [numRow]
    have e : (ks ++ [x]).length = ks.length + 1 := by simp
    unfold Nums
    rw [e, e2]
    exact hown
  · rw [List.pairwise_append]
    exact ⟨T.rise, by simp, fun a ha b hb => by simp at hb; subst hb; exact h1 a ha⟩
set_option maxRecDepth 100000 in
set_option maxHeartbeats 4000000 in
theorem touched_any {F : Nat → Prop} {w : World} (s : Int) {g0 c0 N : Nat} {bs : Nat → Nat × Nat} (hc : ∀ i, i < N → w.cell? ⟨g0, i * 2, none⟩ = some (.int .u64 ((bs i).1 : Nat))) (hg0 : g0 < w.heap.size) (hN : N ≤ 30000) (hbs : ∀ i, i < N → (bs i).1 < 18446744073709551616) :
    Calls Try.prog 63 #[.agg #[.int .u64 s, .slice (some ⟨g0, 0, none⟩) N c0]] w fun e w' => ∃ v ks, e = .returned v ∧ Nums w.heap.size w' v ks ∧ ks.Pairwise (· < ·) ∧ (∀ x, x ∈ ks ↔ ∃ m, m < N ∧ (bs m).1 = x) ∧ Below w.heap.size w w' ∧ ks.length ≤ N := by
  have HC : Hid _ := hc
  have HB : Hid _ := hbs
  clear hc hbs
  have S0 : Hid (TouchIn w (w.alloc (.cells #[.int .u64 s, .slice (some ⟨g0, 0, none⟩) N c0] 29)) #[.int .u64 s, .slice (some ⟨g0, 0, none⟩) N c0] (.slice none 0 0) []) := ⟨⟨rfl, .inl ⟨rfl, rfl⟩⟩, (Below.refl _ _).alloc (Nat.le_refl _) _, heap_alloc_new w _, List.Pairwise.nil⟩
  go_enter Try.func63, Try.ntmps63
  go_wp2
  go_loopw [3, 4] (fun v iv wr => ∃ (i : Nat) (ks : List Nat), i ≤ N ∧ iv = .int .i64 i ∧ ks.length ≤ i ∧ TouchIn w wr #[.int .u64 s, .slice (some ⟨g0, 0, none⟩) N c0] v ks ∧ ∀ x, x ∈ ks ↔ ∃ m, m < i ∧ (bs m).1 = x) (fun _ iv _ => N - (intOf iv).toNat)
  case atStart => exact ⟨0, [], by omega, rfl, by simp, S0.out, fun x => by simp⟩
  case round =>
    obtain ⟨i, ks, hi, rfl, hkl, hT, hmem⟩ := hrel
    clear S0
    obtain ⟨av, cv, rfl⟩ := hT.nums.form
    have M : Hid _ := hmem
    have HKL : Hid (ks.length ≤ i ∧ i ≤ N ∧ N ≤ 30000) := ⟨hkl, hi, hN⟩
    have b1 : wr.cell? ⟨w.heap.size, 1, none⟩ = some (.slice (some ⟨g0, 0, none⟩) N c0) := by simp only [World.cell?, hT.box]; rfl
    have T : Hid (TouchIn w wr _ (.slice av ks.length cv) ks) := hT
    clear hmem hT
    by_cases hin : i < N
    · have hii : (i : Int) < N := by omega
      have cx : wr.cell? ⟨g0, i * 2, none⟩ = some (.int .u64 ((bs i).1 : Nat)) := by rw [T.out.below.cell (p := ⟨g0, i * 2, none⟩) hg0]; exact HC.out i hin
      have hx := HB.out i hin
      generalize hX : (bs i).1 = x at *
      have HX : Hid _ := hX
      clear hX
      go_wp2
      go_loopw [5] (fun nv wq => ∃ n : Nat, n ≤ ks.length ∧ nv = .int .i64 n ∧ (∀ m, m < n → ks.getD m 0 < x) ∧ ∃ q, wq = wr.drewN q) (fun nv _ => ks.length - (intOf nv).toNat)
      case atStart => exact ⟨0, by omega, rfl, fun m hm => absurd hm (Nat.not_lt_zero _), 0, rfl⟩
      case round =>
        obtain ⟨n, hn, rfl, hlt, q, rfl⟩ := hrel
        have HLT : Hid _ := hlt
        clear hlt
        by_cases hnl : n < ks.length
        · obtain ⟨g, rfl, hcs⟩ := nums_cell T.out.nums (by omega)
          have cn := hcs n hnl
          have hni : (n : Int) < ks.length := by omega
          generalize hK : ks.getD n 0 = kn at *
          have HK : Hid _ := hK
          clear hK hcs
          by_cases hkx : kn < x
          · have hd : decide ((kn : Int) < (x : Int)) = true := by simp; omega
            go_wp2
            go_quiet (fail)
            go_wp2
            go_roundw
            case rel => exact ⟨n + 1, by omega, by go_num, fun m hm => by by_cases h : m < n; exact HLT.out m h; rw [show m = n from by omega, HK.out]; exact hkx, _, rfl⟩
            case measure => simp [intOf]; omega
          · have hd : decide ((kn : Int) < (x : Int)) = false := by simp; omega
            by_cases hkq : kn = x
            · have hq : ((kn : Int) == (x : Int)) = true := by simp; omega
              go_wp2
              go_quiet (fail)
              go_wp2
              go_quiet (fail)
              go_wp2
              go_roundw
              case rel =>
                refine ⟨i + 1, ks, by omega, by go_num, by omega, T.out.later (below_drewN (Below.refl _ _) _), fun y => ?_⟩
                rw [M.out y]
                constructor
                · rintro ⟨m, h1, h2⟩; exact ⟨m, by omega, h2⟩
                · rintro ⟨m, h1, h2⟩
                  by_cases hmi : m < i
                  · exact ⟨m, hmi, h2⟩
                  · obtain rfl : m = i := by omega
                    have hmem : ks.getD n 0 ∈ ks := by rw [List.getD_eq_getElem?_getD, List.getElem?_eq_getElem hnl]; exact List.getElem_mem hnl
                    rw [HK.out, hkq, ← HX.out, h2] at hmem
                    exact (M.out y).1 hmem
              case measure => simp [intOf]; omega
            · have hq : ((kn : Int) == (x : Int)) = false := by simp; omega
              have hcv := T.out.nums.room
              have hcn : ¬ cv = n := by omega
              have hci : (n : Int) ≤ (cv : Int) := by omega
              obtain ⟨i0, hinf, hz0, hz1, hz2⟩ := info_parts Try.info22
              go_wp2
              go_quiet (fail)
              generalize q + nq = q1 at *
              go_wp2
              go_quiet (fail)
              have T2 : Hid (TouchIn w (wr.drewN (q1 + nq)) _ (.slice (some ⟨g, 0, none⟩) ks.length cv) ks) := T.out.later (below_drewN (Below.refl _ _) _)
              have T3 : Hid (TouchIn w ((wr.drewN (q1 + nq)).alloc (.cells #[] 22)) _ (.slice (some ⟨g, 0, none⟩) ks.length cv) ks) := T2.out.later ((Below.refl _ _).alloc (Nat.le_refl _) _)
              have H3 : Hid (w.heap.size + 1 ≤ ((wr.drewN (q1 + nq)).alloc (.cells #[] 22)).heap.size) := (Nat.le_trans (World.ownsRow.lt T3.out.nums g rfl).1 (Nat.le_of_lt (World.ownsRow.lt T3.out.nums g rfl).2) : _ ≤ _)
              go_wp2_with (first | (at_builtin; go_must (refine wpList_append_lies _ rfl _ _ 102 rfl (w.heap.size + 1) 22 i0 (.int .u64 0) 1 8 Try.underlying102 hinf hz0 hz1 hz2 rfl (by decide) _ 0 [] rfl (World.ownsRow_made (wr.drewN (q1 + nq)) #[] 0 (by have := (World.ownsRow.lt T2.out.nums g rfl); omega) (by unfold maxLen; omega) rfl) ⟨g, n, none⟩ (ks.length - n) (cv - n) (numRow (ks.drop n)) rfl (by rw [numRow_len]; simp) (drop_cells (by obtain ⟨g', e', h'⟩ := nums_cell T3.out.nums (by omega); cases e'; exact h') n) (numRow_one _) (by omega) (by have := HKL.out; unfold maxLen; omega) (by have := HKL.out; omega) (by exact H3.out) _ rfl ?_); intro g6 cap6 w6 hown6 hgr6 hat6 hlt6))
              have hgr : World.grownBy (wr.alloc (.cells #[] 22)) w6 (some wr.heap.size) := ⟨hgr6.os, hgr6.tape, hgr6.output, hgr6.size, hgr6.block⟩
              have hga : g < wr.heap.size := (World.ownsRow.lt T.out.nums g rfl).2
              have hg6 : wr.heap.size ≤ g6 := by
                rcases hat6 with h | h
                · have h' : some wr.heap.size = some g6 := h
                  simp only [Option.some.injEq] at h'
                  omega
                · rw [h]; simp
              have hbw : w.heap.size < wr.heap.size := (Array.getElem?_eq_some_iff.1 T.out.box).1
              have T5 : Hid (TouchIn w (wr.alloc (.cells #[] 22)) #[.int .u64 s, .slice (some ⟨g0, 0, none⟩) N c0] (.slice (some ⟨g, 0, none⟩) ks.length cv) ks) := T.out.later ((Below.refl _ _).alloc (Nat.le_refl _) _)
              have T6 : Hid (TouchIn w w6 #[.int .u64 s, .slice (some ⟨g0, 0, none⟩) N c0] (.slice (some ⟨g, 0, none⟩) ks.length cv) ks) :=
                ⟨T5.out.nums.kept (fun g' hg' => by cases hg'; exact hgr.block g (World.ownsRow.lt T5.out.nums g rfl).2 (by simp only [ne_eq, Option.some.injEq]; omega)), Below.grown T5.out.below hgr T5.out.below.size (fun b hb => by cases hb; exact T.out.below.size), (hgr.block w.heap.size (by have := (Array.getElem?_eq_some_iff.1 T5.out.box).1; exact this) (by simp only [ne_eq, Option.some.injEq]; omega)).trans T5.out.box, T5.out.rise⟩
              have b6 : w6.cell? ⟨w.heap.size, 1, none⟩ = some (.slice (some ⟨g0, 0, none⟩) N c0) := by simp only [World.cell?, T6.out.box]; rfl
              have c6 : w6.cell? ⟨g0, i * 2, none⟩ = some (.int .u64 (x : Nat)) := by rw [T6.out.below.cell (p := ⟨g0, i * 2, none⟩) hg0, HC.out i hin, HX.out]
              have O6 : Hid _ := hown6
              have L6 : Hid _ := hlt6
              have G6 : Hid _ := hg6
              have HGA : Hid (g < g6 ∧ w.heap.size < g6) := ⟨by omega, by omega⟩
              have C6 : Hid (w6.ownsRow (w.heap.size + 1) 22 1 (.slice (some ⟨g, 0, none⟩) n cv) n (numRow (ks.take n))) := by
                have h := T6.out.nums.cut n (by omega)
                unfold Nums at h
                rw [show (ks.take n).length = n from by simp; omega] at h
                exact h
              have HNE : Hid (g ≠ w.heap.size ∧ g ≠ g0 ∧ w.heap.size + 1 ≤ w6.heap.size) := ⟨by have := (World.ownsRow.lt T6.out.nums g rfl).1; omega, by have := (World.ownsRow.lt T6.out.nums g rfl).1; omega, by have := (World.ownsRow.lt T6.out.nums g rfl); omega⟩
              clear hgr6 hat6 hown6 hlt6 hgr hga hg6 hbw H3 T3 T2 T5
              go_region_held_law (fun V => V.cell? ⟨w.heap.size, 1, none⟩ = some (.slice (some ⟨g0, 0, none⟩) N c0) ∧ V.cell? ⟨g0, i * 2, none⟩ = some (.int .u64 (x : Nat))) (go_keep) ((refine step_append_lies _ rfl _ _ 102 rfl (w.heap.size + 1) 22 i0 (.int .u64 0) 1 8 Try.underlying102 hinf hz0 hz1 hz2 rfl (by decide) _ n (numRow (ks.take n)) rfl (World.ownsRow.alloc (w := w6.drew) C6.out _) ⟨w6.heap.size, 0, none⟩ 1 1 [.int .u64 (x : Nat)] rfl (by simp) (one_new w6.drew _ _) (by intro u hu; simp at hu; subst hu; rfl) (by omega) (by have := HKL.out; unfold maxLen; omega) (by have := HKL.out; omega) (by have := HNE.out.2.2; simp; omega) _ rfl ?_; intro g7 cap7 w7 hown7 hgr7 hat7 hlt7; have k1 := far7 hgr7 w.heap.size 1 _ b6 (fun e => HNE.out.1 (by cases e; rfl)); have k2 := far7 hgr7 g0 (i * 2) _ c6 (fun e => HNE.out.2.1 (by cases e; rfl))))
              have N6 : Nums (w.heap.size + 1) w6 (.slice (some ⟨g6, 0, none⟩) (ks.length - n) cap6) (ks.drop n) := by
                have h := O6.out
                rw [Nat.zero_add, List.nil_append] at h
                unfold Nums
                rw [List.length_drop]
                exact h
              have A7 := touch7 (x := x) T6.out N6 HGA.out.1 hgr7
              have L7 : Hid (w.heap.size + 1 ≤ g7) := (World.ownsRow.lt hown7 g7 rfl).1
              have O7 : Hid (w7.ownsRow (w.heap.size + 1) 22 1 (.slice (some ⟨g7, 0, none⟩) (n + 1) cap7) (n + 1) (numRow (ks.take n) ++ [Value.int IntKind.u64 ((x : Nat) : Int)])) := hown7
              have N7 : Hid _ := A7.1
              have B7 : Hid _ := A7.2
              clear A7 N6 hgr7 hat7 hown7 hlt7 O6 L6 G6 HGA C6 HNE k1 k2 b6 c6
              go_wp2_with (first | (at_builtin; go_must (refine wpList_append_lies _ rfl _ _ 102 rfl (w.heap.size + 1) 22 i0 (.int .u64 0) 1 8 Try.underlying102 hinf hz0 hz1 hz2 rfl (by decide) _ (n + 1) (numRow (ks.take n) ++ [Value.int IntKind.u64 ((x : Nat) : Int)]) rfl O7.out ⟨g6, 0, none⟩ (ks.length - n) cap6 (numRow (ks.drop n)) rfl (by rw [numRow_len]; simp) (nums_lies N7.out (by simp) (by omega)) (numRow_one _) (by omega) (by have := HKL.out; unfold maxLen; omega) (by have := HKL.out; omega) (by exact B7.out.2.2) _ rfl ?_); intro g8 cap8 w8 hown8 hgr8 hat8 hlt8))
              have T8 : Hid (TouchIn w w8 #[.int .u64 s, .slice (some ⟨g0, 0, none⟩) N c0] (.slice (some ⟨g8, 0, none⟩) (n + 1 + (ks.length - n)) cap8) (ks.take n ++ [x] ++ ks.drop n)) := touch8 hn (by omega) T.out.rise (take_below ks n x hn HLT.out) (drop_above ks n x T.out.rise (fun _ => by rw [HK.out]; omega)) B7.out.1 B7.out.2.1 L7.out hgr8 hown8
              clear hgr8 hat8 hown8 hlt8 O7 N7 B7
              go_roundw
              case rel =>
                refine ⟨i + 1, ks.take n ++ [x] ++ ks.drop n, by omega, by go_num, by simp; omega, T8.out.later (below_drewN (Below.refl _ _) 0), fun y => ?_⟩
                rw [insert_mem, M.out y]
                constructor
                · rintro (⟨m, h1, h2⟩ | rfl)
                  · exact ⟨m, by omega, h2⟩
                  · exact ⟨i, by omega, HX.out⟩
                · rintro ⟨m, h1, h2⟩
                  by_cases hmi : m < i
                  · exact .inl ⟨m, hmi, h2⟩
                  · obtain rfl : m = i := by omega
                    exact .inr (h2.symm.trans HX.out)
              case measure => simp [intOf]; omega
        · obtain rfl : n = ks.length := by omega
          have hav : (av = none ∧ ks.length = 0 ∧ cv = 0) ∨ ∃ g, av = some ⟨g, 0, none⟩ := by
            rcases T.out.nums.2 with ⟨h, h0⟩ | ⟨g, cap, cur, h, _⟩
            · simp only [Value.slice.injEq] at h
              exact .inl h
            · simp only [Value.slice.injEq] at h
              exact .inr ⟨g, h.1⟩
          obtain ⟨i0, hinf, hz0, hz1, hz2⟩ := info_parts Try.info22
          rcases hav with ⟨rfl, hl0, rfl⟩ | ⟨g, rfl⟩
          · obtain rfl := List.length_eq_zero_iff.1 hl0
            simp only [List.length_nil] at *
            go_wp2
            go_quiet (fail)
            revert nq; intro nq1
            go_wp2
            go_quiet (fail)
            go_wp2_with (first | (at_builtin; go_must (refine wpList_append_zero rfl _ _ rfl _ 0 0 rfl (by omega) _ _ rfl ?_)))
            generalize q + nq1 + nq = q2 at *
            have T6 : Hid (TouchIn w ((wr.drewN q2).alloc (.cells #[] 22)) #[.int .u64 s, .slice (some ⟨g0, 0, none⟩) N c0] (.slice none 0 0) []) := (T.out.later (below_drewN (Below.refl _ _) _)).later ((Below.refl _ _).alloc (Nat.le_refl _) _)
            generalize (wr.drewN q2).alloc (.cells #[] 22) = w6 at *
            have b6 : w6.cell? ⟨w.heap.size, 1, none⟩ = some (.slice (some ⟨g0, 0, none⟩) N c0) := by simp only [World.cell?, T6.out.box]; rfl
            have c6 : w6.cell? ⟨g0, i * 2, none⟩ = some (.int .u64 (x : Nat)) := by rw [T6.out.below.cell (p := ⟨g0, i * 2, none⟩) hg0, HC.out i hin, HX.out]
            have C6 : Hid (w6.ownsRow (w.heap.size + 1) 22 1 (.slice none 0 0) 0 (numRow [])) := T6.out.nums
            have HROW : Hid (∀ b, Value.ownBlock (.slice none 0 0) = some b → w.heap.size + 1 ≤ b) := fun b hb => (World.ownsRow.lt T6.out.nums b hb).1
            have HNE : Hid (w.heap.size + 1 ≤ w6.heap.size) := (Array.getElem?_eq_some_iff.1 T6.out.box).1
            go_region_held_law (fun V => V.cell? ⟨w.heap.size, 1, none⟩ = some (.slice (some ⟨g0, 0, none⟩) N c0) ∧ V.cell? ⟨g0, i * 2, none⟩ = some (.int .u64 (x : Nat))) (go_keep) ((refine step_append_lies _ rfl _ _ 102 rfl (w.heap.size + 1) 22 i0 (.int .u64 0) 1 8 Try.underlying102 hinf hz0 hz1 hz2 rfl (by decide) _ 0 (numRow []) rfl (World.ownsRow.alloc (w := w6.drew) C6.out _) ⟨w6.heap.size, 0, none⟩ 1 1 [.int .u64 (x : Nat)] rfl (by simp) (one_new w6.drew _ _) (by intro u hu; simp at hu; subst hu; rfl) (by omega) (by have := HKL.out; unfold maxLen; omega) (by have := HKL.out; omega) (by have := HNE.out; simp; omega) _ rfl ?_; intro g7 cap7 w7 hown7 hgr7 hat7 hlt7; have k1 := far7 hgr7 w.heap.size 1 _ b6 (fun e => by have := HROW.out _ e; omega); have k2 := far7 hgr7 g0 (i * 2) _ c6 (fun e => by have := HROW.out _ e; omega)))
            have T9 : Hid (TouchIn w w7 #[.int .u64 s, .slice (some ⟨g0, 0, none⟩) N c0] (.slice (some ⟨g7, 0, none⟩) (0 + 1) cap7) ([] ++ [x])) := touch9 T6.out HROW.out hgr7 hown7 (by have := take_below [] _ x (Nat.le_refl _) HLT.out; simp)
            have hr7 : 0 + 1 ≤ cap7 := T9.out.nums.room
            clear hgr7 hat7 hown7 hlt7 HROW HNE C6 k1 k2 b6 c6
            go_wp2_with (first | (at_builtin; go_must (refine wpList_append_zero rfl _ _ rfl _ (0 + 1) cap7 rfl (by omega) _ _ rfl ?_)))
            go_roundw
            case rel =>
              refine ⟨i + 1, [] ++ [x], by omega, by go_num, by simp, T9.out, fun y => ?_⟩
              rw [List.mem_append, List.mem_singleton, M.out y]
              constructor
              · rintro (⟨m, h1, h2⟩ | rfl)
                · exact ⟨m, by omega, h2⟩
                · exact ⟨i, by omega, HX.out⟩
              · rintro ⟨m, h1, h2⟩
                by_cases hmi : m < i
                · exact .inl ⟨m, hmi, h2⟩
                · obtain rfl : m = i := by omega
                  exact .inr (h2.symm.trans HX.out)
            case measure => simp [intOf]; omega
          · have hcv := T.out.nums.room
            have hci : (ks.length : Int) ≤ (cv : Int) := by omega
            go_wp2
            go_quiet (fail)
            revert nq; intro nq1
            go_wp2
            go_quiet (fail)
            by_cases hcn : cv = ks.length
            · subst hcn
              go_wp2_with (first | (at_builtin; go_must (refine wpList_append_zero rfl _ _ rfl _ 0 0 rfl (by omega) _ _ rfl ?_)))
              generalize q + nq1 + nq = q2 at *
              have T6 : Hid (TouchIn w ((wr.drewN q2).alloc (.cells #[] 22)) #[.int .u64 s, .slice (some ⟨g0, 0, none⟩) N c0] (.slice (some ⟨g, 0, none⟩) ks.length ks.length) ks) := (T.out.later (below_drewN (Below.refl _ _) _)).later ((Below.refl _ _).alloc (Nat.le_refl _) _)
              generalize (wr.drewN q2).alloc (.cells #[] 22) = w6 at *
              have b6 : w6.cell? ⟨w.heap.size, 1, none⟩ = some (.slice (some ⟨g0, 0, none⟩) N c0) := by simp only [World.cell?, T6.out.box]; rfl
              have c6 : w6.cell? ⟨g0, i * 2, none⟩ = some (.int .u64 (x : Nat)) := by rw [T6.out.below.cell (p := ⟨g0, i * 2, none⟩) hg0, HC.out i hin, HX.out]
              have C6 : Hid (w6.ownsRow (w.heap.size + 1) 22 1 (.slice (some ⟨g, 0, none⟩) ks.length ks.length) ks.length (numRow ks)) := T6.out.nums
              have HROW : Hid (∀ b, Value.ownBlock (.slice (some ⟨g, 0, none⟩) ks.length ks.length) = some b → w.heap.size + 1 ≤ b) := fun b hb => (World.ownsRow.lt T6.out.nums b hb).1
              have HNE : Hid (w.heap.size + 1 ≤ w6.heap.size) := (Array.getElem?_eq_some_iff.1 T6.out.box).1
              go_region_held_law (fun V => V.cell? ⟨w.heap.size, 1, none⟩ = some (.slice (some ⟨g0, 0, none⟩) N c0) ∧ V.cell? ⟨g0, i * 2, none⟩ = some (.int .u64 (x : Nat))) (go_keep) ((refine step_append_lies _ rfl _ _ 102 rfl (w.heap.size + 1) 22 i0 (.int .u64 0) 1 8 Try.underlying102 hinf hz0 hz1 hz2 rfl (by decide) _ ks.length (numRow ks) rfl (World.ownsRow.alloc (w := w6.drew) C6.out _) ⟨w6.heap.size, 0, none⟩ 1 1 [.int .u64 (x : Nat)] rfl (by simp) (one_new w6.drew _ _) (by intro u hu; simp at hu; subst hu; rfl) (by omega) (by have := HKL.out; unfold maxLen; omega) (by have := HKL.out; omega) (by have := HNE.out; simp; omega) _ rfl ?_; intro g7 cap7 w7 hown7 hgr7 hat7 hlt7; have k1 := far7 hgr7 w.heap.size 1 _ b6 (fun e => by have := HROW.out _ e; omega); have k2 := far7 hgr7 g0 (i * 2) _ c6 (fun e => by have := HROW.out _ e; omega)))
              have T9 : Hid (TouchIn w w7 #[.int .u64 s, .slice (some ⟨g0, 0, none⟩) N c0] (.slice (some ⟨g7, 0, none⟩) (ks.length + 1) cap7) (ks ++ [x])) := touch9 T6.out HROW.out hgr7 hown7 (by have := take_below ks _ x (Nat.le_refl _) HLT.out; rwa [List.take_length] at this)
              have hr7 : ks.length + 1 ≤ cap7 := T9.out.nums.room
              clear hgr7 hat7 hown7 hlt7 HROW HNE C6 k1 k2 b6 c6
              go_wp2_with (first | (at_builtin; go_must (refine wpList_append_zero rfl _ _ rfl _ (ks.length + 1) cap7 rfl (by omega) _ _ rfl ?_)))
              go_roundw
              case rel =>
                refine ⟨i + 1, ks ++ [x], by omega, by go_num, by simp; omega, T9.out, fun y => ?_⟩
                rw [List.mem_append, List.mem_singleton, M.out y]
                constructor
                · rintro (⟨m, h1, h2⟩ | rfl)
                  · exact ⟨m, by omega, h2⟩
                  · exact ⟨i, by omega, HX.out⟩
                · rintro ⟨m, h1, h2⟩
                  by_cases hmi : m < i
                  · exact .inl ⟨m, hmi, h2⟩
                  · obtain rfl : m = i := by omega
                    exact .inr (h2.symm.trans HX.out)
              case measure => simp [intOf]; omega
            · go_wp2_with (first | (at_builtin; go_must (refine wpList_append_zero rfl _ _ rfl _ 0 0 rfl (by omega) _ _ rfl ?_)))
              generalize q + nq1 + nq = q2 at *
              have T6 : Hid (TouchIn w ((wr.drewN q2).alloc (.cells #[] 22)) #[.int .u64 s, .slice (some ⟨g0, 0, none⟩) N c0] (.slice (some ⟨g, 0, none⟩) ks.length cv) ks) := (T.out.later (below_drewN (Below.refl _ _) _)).later ((Below.refl _ _).alloc (Nat.le_refl _) _)
              generalize (wr.drewN q2).alloc (.cells #[] 22) = w6 at *
              have b6 : w6.cell? ⟨w.heap.size, 1, none⟩ = some (.slice (some ⟨g0, 0, none⟩) N c0) := by simp only [World.cell?, T6.out.box]; rfl
              have c6 : w6.cell? ⟨g0, i * 2, none⟩ = some (.int .u64 (x : Nat)) := by rw [T6.out.below.cell (p := ⟨g0, i * 2, none⟩) hg0, HC.out i hin, HX.out]
              have C6 : Hid (w6.ownsRow (w.heap.size + 1) 22 1 (.slice (some ⟨g, 0, none⟩) ks.length cv) ks.length (numRow ks)) := T6.out.nums
              have HROW : Hid (∀ b, Value.ownBlock (.slice (some ⟨g, 0, none⟩) ks.length cv) = some b → w.heap.size + 1 ≤ b) := fun b hb => (World.ownsRow.lt T6.out.nums b hb).1
              have HNE : Hid (w.heap.size + 1 ≤ w6.heap.size) := (Array.getElem?_eq_some_iff.1 T6.out.box).1
              go_region_held_law (fun V => V.cell? ⟨w.heap.size, 1, none⟩ = some (.slice (some ⟨g0, 0, none⟩) N c0) ∧ V.cell? ⟨g0, i * 2, none⟩ = some (.int .u64 (x : Nat))) (go_keep) ((refine step_append_lies _ rfl _ _ 102 rfl (w.heap.size + 1) 22 i0 (.int .u64 0) 1 8 Try.underlying102 hinf hz0 hz1 hz2 rfl (by decide) _ ks.length (numRow ks) rfl (World.ownsRow.alloc (w := w6.drew) C6.out _) ⟨w6.heap.size, 0, none⟩ 1 1 [.int .u64 (x : Nat)] rfl (by simp) (one_new w6.drew _ _) (by intro u hu; simp at hu; subst hu; rfl) (by omega) (by have := HKL.out; unfold maxLen; omega) (by have := HKL.out; omega) (by have := HNE.out; simp; omega) _ rfl ?_; intro g7 cap7 w7 hown7 hgr7 hat7 hlt7; have k1 := far7 hgr7 w.heap.size 1 _ b6 (fun e => by have := HROW.out _ e; omega); have k2 := far7 hgr7 g0 (i * 2) _ c6 (fun e => by have := HROW.out _ e; omega)))
              have T9 : Hid (TouchIn w w7 #[.int .u64 s, .slice (some ⟨g0, 0, none⟩) N c0] (.slice (some ⟨g7, 0, none⟩) (ks.length + 1) cap7) (ks ++ [x])) := touch9 T6.out HROW.out hgr7 hown7 (by have := take_below ks _ x (Nat.le_refl _) HLT.out; rwa [List.take_length] at this)
              have hr7 : ks.length + 1 ≤ cap7 := T9.out.nums.room
              clear hgr7 hat7 hown7 hlt7 HROW HNE C6 k1 k2 b6 c6
              go_wp2_with (first | (at_builtin; go_must (refine wpList_append_zero rfl _ _ rfl _ (ks.length + 1) cap7 rfl (by omega) _ _ rfl ?_)))
              go_roundw
              case rel =>
                refine ⟨i + 1, ks ++ [x], by omega, by go_num, by simp; omega, T9.out, fun y => ?_⟩
                rw [List.mem_append, List.mem_singleton, M.out y]
                constructor
                · rintro (⟨m, h1, h2⟩ | rfl)
                  · exact ⟨m, by omega, h2⟩
                  · exact ⟨i, by omega, HX.out⟩
                · rintro ⟨m, h1, h2⟩
                  by_cases hmi : m < i
                  · exact .inl ⟨m, hmi, h2⟩
                  · obtain rfl : m = i := by omega
                    exact .inr (h2.symm.trans HX.out)
              case measure => simp [intOf]; omega
    · obtain rfl : i = N := by omega
      go_wp2
      go_ret
      exact ⟨_, ks, rfl, T.out.nums.low (Nat.le_succ _), T.out.rise, M.out, T.out.below, HKL.out.1⟩
end Go.Proofs.Ythnmoalomodbpaa
