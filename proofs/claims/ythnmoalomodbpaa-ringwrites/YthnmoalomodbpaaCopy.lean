/- The call Copy of layer 2: a memory with the same bytes, of its own. -/
import Derived.Test.YthnmoalomodbpaaPages
namespace Go.Proofs.Ythnmoalomodbpaa
open Go.RowKit Go.Maps
set_option linter.unusedVariables false
theorem lit_same {j k : Nat} (hk : k < 18446744073709551616) : (Lit.int .u64 (j : Nat)).sameKey (.int .u64 (k : Nat)) = decide (j = k) := by
  by_cases e : j = k
  · subst e
    rw [WideAt.sameKey_self (keyed25.key (key25 hk))]; simp
  · rw [Maps.sameKey_ne (fun h => e (by simp at h; omega))]; simp [e]
theorem paged_has {D : DataW Unit} {pg : Nat → Option Nat} (hp : Paged D pg) (k : Nat) : Maps.has D (.int .u64 (k : Nat)) = (pg k).isSome := by
  rcases hp k with ⟨e, h⟩ | ⟨b, e, h⟩
  · rw [e, Maps.has_false_of_atKey h]; rfl
  · rw [e, Maps.has_true_of_atKey h]; rfl
section
variable (w : World) {ops : Array Oper} {rest : List Oper} {o : Oper} {a : Act} {Q : Exit → Act → World → Prop}
/-- the next page of a map that is ranged over, whichever it is -/
theorem wpList_next_pages (hg : o.guard = none) (it : Operand) (hop : o.op = Op.next it false) (b r n : Nat) (D : DataW Unit) (pg : Nat → Option Nat) (left : Lit → Bool) (cnt : Nat) (hit : a.eval it = .pointer (some ⟨r, 0, none⟩)) (h : w.ranges Try.prog 22 ptrElem b r n D left cnt) (hp : Paged D pg)
    (hDone : (∀ k : Nat, left (.int .u64 (k : Nat)) = false) → wpList Try.prog ops Q rest (a.put o.dst (.tuple #[.bool false])) w)
    (hMore : ∀ (k c : Nat) (w' : World) (cnt' : Nat), k < 18446744073709551616 → left (.int .u64 (k : Nat)) = true → pg k = some c → w'.ranges Try.prog 22 ptrElem b r n D (fun z => left z && !z.sameKey (.int .u64 (k : Nat))) cnt' → cnt' < cnt →
      w.grownBy w' (some r) → w'.heap.size = w.heap.size → (Instr.entry (.pointer (some ⟨r, 0, none⟩))).run Try.prog w' = .ok (.tuple #[.int .u64 (k : Nat), .pointer (some ⟨c, 0, none⟩)]) w' → wpList Try.prog ops Q rest (a.put o.dst (.tuple #[.bool true, .int .u64 (k : Nat), .pointer (some ⟨c, 0, none⟩)])) w') :
    wpList Try.prog ops Q (o :: rest) a w := by
  refine wpList_next_ranges w hg it hop 22 keyed25 ptrElem (Value.int .u64) (fun c : Nat => Value.pointer (some ⟨c, 0, none⟩)) (fun key kl hkey => by obtain ⟨x, rfl, _⟩ := Maps.keyOf_int_inv Try.underlying22 hkey; exact ⟨x, rfl⟩) (fun v y hv => by obtain ⟨c, rfl, _⟩ := ptrElem_inv hv; exact ⟨c, rfl⟩) b r n D left cnt hit h (fun _ hl => hDone (fun k => hl _)) ?_
  intro x c kl y w' cnt' hkey hlk hv hat hrg hlt hgr hsz hen
  obtain ⟨x', ex, rfl, hwx⟩ := Maps.keyOf_int_inv Try.underlying22 hkey
  cases ex
  have hb := bounds_u64 hwx
  obtain ⟨k, rfl⟩ : ∃ k : Nat, x = k := ⟨x.toNat, by omega⟩
  obtain ⟨c', ec, rfl⟩ := ptrElem_inv hv
  have ec2 : c = c' := by simpa using ec
  subst ec2
  have hpk : pg k = some c := by
    rcases hp k with ⟨e, h2⟩ | ⟨b', e, h2⟩
    · have := (hat .nil).symm.trans (h2 .nil); cases this
    · have := lit_inj ((hat .nil).symm.trans (h2 .nil)); rw [e, this]
  exact hMore k c w' cnt' (by omega) hlk hpk hrg hlt hgr hsz hen
end
theorem run_makeMap_hint (w : World) (c : Int) : (Instr.makeMap 92 (some (.int .i64 c))).run Try.prog w = .ok (.map (some w.heap.size)) (w.alloc (.map #[] 0)) := by
  have hu := run_underlying (w := w) Try.underlying92
  simp only [Instr.makeMap, Sem.run_bind, hu, Result.andThen_ok, asInt, asIntOf, Sem.run_pure]
  rfl
/-- a copy that is being made: pages that are no longer to come lie in it -/
def Copying (w wr : World) (bm size n : Nat) (D : DataW Unit) (pg : Nat → Option Nat) (M : Nat → Nat) (left : Lit → Bool) (cnt : Nat) : Prop :=
  ∃ n2 D2 pg2, wr.ranges Try.prog 22 ptrElem bm (w.heap.size + 2) n D left cnt ∧ wr.heap[w.heap.size + 1]? = some (.cells #[.int .u64 (size : Nat), .map (some w.heap.size), .pointer none] 95 (0, 0)) ∧ wr.ownsMap Try.prog 22 ptrElem w.heap.size n2 D2 ∧ Paged D2 pg2 ∧ n2 + cnt ≤ n ∧ Below w.heap.size w wr ∧ w.heap.size + 3 ≤ wr.heap.size ∧
    (∀ k b, pg2 k = some b → w.heap.size + 3 ≤ b ∧ b < wr.heap.size ∧ wr.heap[b]? = some (.cells (pageRow (fun i => M (k * 4096 + i))) 98 (0, 0))) ∧ (∀ k k' b, pg2 k = some b → pg2 k' = some b → k = k') ∧ (∀ k : Nat, left (.int .u64 (k : Nat)) = true → pg2 k = none) ∧ (∀ k : Nat, left (.int .u64 (k : Nat)) = false → (pg2 k).isSome = (pg k).isSome)
theorem grown_setRow (w : World) (g : Nat) (row : Array Value) : w.grownBy (w.setRow g row) (some g) := ⟨rfl, rfl, rfl, by simp [World.setRow], fun k hk hne => setRow_other w g k row (fun e => hne (by rw [e]))⟩
theorem Below.of_grown {B : Nat} {w w' : World} {row : Option Nat} (h : w.grownBy w' row) (hB : B ≤ w.heap.size) (hr : ∀ k, row = some k → B ≤ k) : Below B w w' := Below.grown (Below.refl _ _) h hB hr
/-- a page has come, and was laid -/
theorem copying_step {w wr w1 : World} {bm size n : Nat} {D : DataW Unit} {pg : Nat → Option Nat} {M : Nat → Nat} {left : Lit → Bool} {cnt cnt' k : Nat} (h : Copying w wr bm size n D pg M left cnt) (hn : n ≤ 1000000) (hbm : bm < w.heap.size) (hk : k < 18446744073709551616) (hlk : left (.int .u64 (k : Nat)) = true) (hpk : (pg k).isSome = true)
    (hrg : w1.ranges Try.prog 22 ptrElem bm (w.heap.size + 2) n D (fun z => left z && !z.sameKey (.int .u64 (k : Nat))) cnt') (hlt : cnt' < cnt) (hg : wr.grownBy w1 (some (w.heap.size + 2))) (hsz : w1.heap.size = wr.heap.size) :
    w1.heap[w.heap.size + 1]? = some (.cells #[.int .u64 (size : Nat), .map (some w.heap.size), .pointer none] 95 (0, 0)) ∧ Below w.heap.size w w1 ∧ w.heap.size + 3 ≤ w1.heap.size ∧
    ∃ w4, (Instr.mapUpdate 92 (.map (some w.heap.size)) (.int .u64 (k : Nat)) (.pointer (some ⟨w1.heap.size, 0, none⟩))).run Try.prog ((w1.alloc (.cells zeroPage 98)).setRow w1.heap.size (pageRow (fun i => M (k * 4096 + i)))) = .ok () w4 ∧
      Copying w w4 bm size n D pg M (fun z => left z && !z.sameKey (.int .u64 (k : Nat))) cnt' := by
  obtain ⟨n2, D2, pg2, h1, h2, h3, h4, h5, h6, h7, h8, h9, h10, h11⟩ := h
  have hne : ∀ q, q ≠ w.heap.size + 2 → q < wr.heap.size → w1.heap[q]? = wr.heap[q]? := fun q hq hl => hg.block q hl (fun e => hq (by cases e; rfl))
  have o1 := h3.kept hg (by simp)
  have hB1 : Below w.heap.size w w1 := Below.grown h6 hg h6.size (fun q hq => by cases hq; omega)
  have hb1 := (hne _ (by omega) (by omega)).trans h2
  have a1 := World.grownBy_alloc w1 (.cells zeroPage 98) none
  have e1 : (w1.alloc (.cells zeroPage 98)).heap.size = w1.heap.size + 1 := by simp
  have a2 := grown_setRow (w1.alloc (.cells zeroPage 98)) w1.heap.size (pageRow (fun i => M (k * 4096 + i)))
  have hnew : ((w1.alloc (.cells zeroPage 98)).setRow w1.heap.size (pageRow (fun i => M (k * 4096 + i)))).heap[w1.heap.size]? = some (.cells (pageRow (fun i => M (k * 4096 + i))) 98 (0, 0)) := setRow_heap _ _ _ _ 98 _ (heap_alloc_new w1 _)
  have o2 := (o1.alloc (.cells zeroPage 98)).kept a2 (fun e => by have := Option.some.inj e; omega)
  have r2 := (hrg.alloc (.cells zeroPage 98)).kept a2 (fun e => by have := Option.some.inj e; omega) (fun e => by have := Option.some.inj e; omega)
  obtain ⟨w4, D4, hrun, p1, p2, p3⟩ := pages_put o2 h4 k w1.heap.size hk (by unfold maxLen; omega)
  have e3 : ((w1.alloc (.cells zeroPage 98)).setRow w1.heap.size (pageRow (fun i => M (k * 4096 + i)))).heap.size = w1.heap.size + 1 := by simp [World.setRow]
  have old : ∀ q, q < w1.heap.size → q ≠ w.heap.size → w4.heap[q]? = w1.heap[q]? := fun q hq hq2 => by
    rw [p3.block q (by omega) (fun e => hq2 (by cases e; rfl)), a2.block q (by omega) (fun e => by have := Option.some.inj e; omega)]
    exact a1.block q hq (by simp)
  refine ⟨hb1, hB1, by omega, w4, hrun, n2 + 1, D4, _, r2.kept p3 (fun e => by have := Option.some.inj e; omega) (fun e => by have := Option.some.inj e; omega), (old _ (by omega) (by omega)).trans hb1, p1, p2, by omega, ?_, by have := p3.size; omega, ?_, ?_, ?_, ?_⟩
  · exact ((hB1.trans (Below.of_grown a1 hB1.size (by simp))).trans (Below.of_grown a2 (by have := hB1.size; omega) (fun q hq => by cases hq; exact hB1.size))).trans (Below.of_grown p3 (by have := hB1.size; omega) (fun q hq => by cases hq; exact Nat.le_refl _))
  · intro j b hj
    by_cases e : j = k
    · subst e
      simp only [if_true] at hj
      cases hj
      exact ⟨by omega, by have := p3.size; omega, (p3.block _ (by omega) (fun e => by have := Option.some.inj e; omega)).trans hnew⟩
    · simp only [e, if_false] at hj
      obtain ⟨x1, x2, x3⟩ := h8 j b hj
      exact ⟨x1, by have := p3.size; omega, ((old b (by omega) (by omega)).trans (hne b (by omega) x2)).trans x3⟩
  · intro j j' b hj hj'
    by_cases e : j = k <;> by_cases e' : j' = k
    · omega
    · simp only [e, e', if_true, if_false] at hj hj'
      cases hj; have := (h8 _ _ hj').2.1; omega
    · simp only [e, e', if_true, if_false] at hj hj'
      cases hj'; have := (h8 _ _ hj).2.1; omega
    · simp only [e, e', if_false] at hj hj'
      exact h9 _ _ _ hj hj'
  · intro j hj
    simp only [Bool.and_eq_true, lit_same hk, Bool.not_eq_true', decide_eq_false_iff_not] at hj
    simp only [hj.2, if_false]
    exact h10 j hj.1
  · intro j hj
    by_cases e : j = k
    · subst e; simp [hpk]
    · simp only [lit_same hk, e, decide_false, Bool.not_false, Bool.and_true] at hj
      simp only [e, if_false]
      exact h11 j hj
theorem copying_done {w wr : World} {F : Nat → Prop} {rb bm size n : Nat} {lg : Value} {D : DataW Unit} {pg : Nat → Option Nat} {M : Nat → Nat} {left : Lit → Bool} {cnt : Nat} (h : Copying w wr bm size n D pg M left cnt) (hl : ∀ k : Nat, left (.int .u64 (k : Nat)) = false) (h0 : RamIn w F rb size n lg M bm pg D) :
    ∃ F2, RamAt wr F2 (w.heap.size + 1) size n (.pointer none) M ∧ (∀ k, F2 k → w.heap.size ≤ k) ∧ Below w.heap.size w wr := by
  obtain ⟨n2, D2, pg2, h1, h2, h3, h4, h5, h6, h7, h8, h9, h10, h11⟩ := h
  refine ⟨fun k => k = w.heap.size ∨ k = w.heap.size + 1 ∨ ∃ j, pg2 j = some k, ⟨w.heap.size, pg2, D2, h2, h3.mono (by omega), h4, fun k b hk => (h8 k b hk).2.2, fun k hk i hi => ?_, h9, .inr (.inl rfl), .inl rfl, fun k b hk => .inr (.inr ⟨k, hk⟩), ?_, h0.2.2.2.2.2.2.2.2.2.2⟩, ?_, h6⟩
  · have e := h11 k (hl k)
    rw [hk] at e
    have hn : pg k = none := by cases hp : pg k with | none => rfl | some b => rw [hp] at e; cases e
    exact h0.2.2.2.2.1 k hn i hi
  · rintro k (rfl | rfl | ⟨j, hj⟩)
    · omega
    · omega
    · exact (h8 j k hj).2.1
  · rintro k (rfl | rfl | ⟨j, hj⟩)
    · omega
    · omega
    · have := (h8 j k hj).1; omega
set_option maxRecDepth 100000 in
set_option maxHeartbeats 1000000 in
theorem copy_any {w : World} {F : Nat → Prop} {rb size n : Nat} {lg : Value} {M : Nat → Nat} (h : RamAt w F rb size n lg M) (hn : n ≤ 1000000) :
    Calls Try.prog 31 #[.pointer (some ⟨rb, 0, none⟩)] w fun e w' => ∃ rb2 F2, e = .returned (.pointer (some ⟨rb2, 0, none⟩)) ∧ RamAt w' F2 rb2 size n (.pointer none) M ∧ (∀ k, F2 k → w.heap.size ≤ k) ∧ Below w.heap.size w w' := by
  obtain ⟨bm, pg, D, h⟩ := h
  have hc1 := h.cell1
  have hc0 : w.cell? ⟨rb, 0, none⟩ = some (.int .u64 (size : Nat)) := by have := h.1; simp [World.cell?, this]
  have hmm := run_makeMap_hint
  have hlen : (Builtin.len_ #[92] 3 #[.map (some bm)]).run Try.prog w.drew = .ok (.int .i64 (Maps.size D)) w.drew := (World.ownsMap.drew h.2.1).len Try.underlying92 3
  have hrb : rb < w.heap.size := h.2.2.2.2.2.2.2.2.2.1 rb h.2.2.2.2.2.2.1
  have H : Hid _ := h
  clear h
  go_enter Try.func31, Try.ntmps31
  go_wp2
  go_region
  all_goals go_wp2_with (first | (at_range; refine wpList_range_own _ rfl _ 92 rfl 22 96 keyed25 Try.underlying92 ptrElem bm n D rfl (by exact ((H.out.2.1.alloc _).alloc _)) ?_; intro w0 hrg0 hg0 hs0))
  go_frame
  have er : ((w.alloc (.map #[] 0)).alloc (.cells #[.int .u64 (size : Nat), .map (some w.heap.size), .pointer none] 95)).drew.heap.size = w.heap.size + 2 := by simp
  rw [er]
  have hbm : bm < w.heap.size := H.out.2.1.lt
  have hstart : Copying w w0 bm size n D pg M (Maps.has D) (Maps.size D) := by
    rw [er] at hrg0 hs0
    have f1 : Below w.heap.size w ((w.alloc (.map #[] 0)).alloc (.cells #[.int .u64 (size : Nat), .map (some w.heap.size), .pointer none] 95)).drew := (two_boxes _ _ _).drew
    refine ⟨0, .map [], fun _ => none, hrg0, ?_, ?_, paged_made, by rw [Nat.zero_add]; exact H.out.2.1.size_le, f1.trans (Below.of_grown hg0 f1.size (by simp)), by omega, fun k b hk => (by cases hk), fun k k' b hk => (by cases hk), fun k _ => rfl, fun k hk => (by rw [← paged_has H.out.2.2.1 k, hk]; rfl)⟩
    · rw [hg0.block _ (by omega) (by simp)]
      have := heap_alloc_new (w.alloc (.map #[] 0)) (.cells #[.int .u64 (size : Nat), .map (some w.heap.size), .pointer none] 95)
      rw [show w.heap.size + 1 = (w.alloc (.map #[] 0)).heap.size from by simp]
      exact this
    · exact (((World.ownsMap_made w Try.prog 22 ptrElem).alloc _).drew).kept hg0 (by simp)
  clear hrg0 hg0 hs0
  go_loopw [4] (fun _ wr => ∃ left cnt, Copying w wr bm size n D pg M left cnt) (fun _ wr => wr.rangeLeft bm (w.heap.size + 2))
  case atStart => exact ⟨_, _, hstart⟩
  case round =>
    obtain ⟨left, cnt, hco⟩ := hrel
    clear hstart
    have hrg : wr.ranges Try.prog 22 ptrElem bm (w.heap.size + 2) n D left cnt := by obtain ⟨n2, D2, pg2, h1, _⟩ := hco; exact h1
    have C : Hid _ := hco
    clear hco
    go_wp2_with (first | (at_next; refine wpList_next_pages _ rfl _ rfl bm (w.heap.size + 2) n D pg left cnt rfl hrg H.out.2.2.1 ?_ ?_))
    · intro hl0
      have L : Hid _ := hl0
      clear hl0
      go_wp2
      go_ret
      obtain ⟨F2, r1, r2, r3⟩ := copying_done C.out L.out H.out
      exact ⟨_, F2, rfl, r1, r2, r3⟩
    · intro k c w1 cnt1 hk hlk hpk hrg1 hlt hg1 hs1 hen
      obtain ⟨hb1, hB1, hsz1, w4, hrun, hco4⟩ := copying_step C.out hn hbm hk hlk (by rw [hpk]; rfl) hrg1 hlt hg1 hs1
      have hpage : w1.heap[c]? = some (.cells (pageRow (fun i => M (k * 4096 + i))) 98 (0, 0)) := (hB1.block c (H.out.2.2.2.2.2.2.2.2.2.1 c (H.out.2.2.2.2.2.2.2.2.1 k c hpk))).trans (H.out.2.2.2.1 k c hpk)
      have hcell : ((w1.alloc (.cells zeroPage 98)).setRow w1.heap.size (pageRow (fun i => M (k * 4096 + i)))).cell? ⟨w.heap.size + 1, 1, none⟩ = some (.map (some w.heap.size)) := by
        have e : ((w1.alloc (.cells zeroPage 98)).setRow w1.heap.size (pageRow (fun i => M (k * 4096 + i)))).heap[w.heap.size + 1]? = some (.cells #[.int .u64 (size : Nat), .map (some w.heap.size), .pointer none] 95 (0, 0)) := by
          rw [setRow_other _ _ _ _ (by omega), (World.grownBy_alloc w1 _ none).block _ (by omega) (by simp)]; exact hb1
        simp only [World.cell?, e]; rfl
      have hzp : (w1.alloc (.cells zeroPage 98)).heap[w1.heap.size]? = some (.cells zeroPage 98 (0, 0)) := heap_alloc_new w1 _
      have hzs : zeroPage.size = 4096 := by rw [zeroPage_row, pageRow_size]
      have X : Hid (_ ∧ _ ∧ _ ∧ _ ∧ _ ∧ _ ∧ _) := ⟨hpage, hzp, hzs, hrun, hco4, hrg, hlt⟩
      clear hpage hzp hzs hrun hco4 hrg hlt hrg1 hg1 hs1 hpk hlk hb1 hB1
      go_wp2_with (first | (refine wpList_load81 rfl _ rfl c (fun i => M (k * 4096 + i)) rfl X.out.1 ?_) | (refine wpList_alloc81 rfl rfl ?_) | (refine wpList_store81 rfl _ _ rfl w1.heap.size (fun i => M (k * 4096 + i)) zeroPage rfl rfl X.out.2.1 X.out.2.2.1 ?_) | (at_mapUpdate; refine wpList_mapUpdate_run rfl _ _ _ 92 rfl rfl rfl rfl X.out.2.2.2.1 ?_))
      go_frame
      go_roundw
      case rel => exact ⟨_, _, X.out.2.2.2.2.1⟩
      case measure =>
        obtain ⟨n2, D2, pg2, h1, _⟩ := X.out.2.2.2.2.1
        rw [h1.left_eq, X.out.2.2.2.2.2.1.left_eq]
        exact X.out.2.2.2.2.2.2
end Go.Proofs.Ythnmoalomodbpaa
