/- Texts put together. -/
import Derived.Test.YtmjdnocilbnoaaaZe
import Derived.ChangeKeysEq
import Derived.Laws.StructEq
import Derived.Test.YtmjdnocilbnoaaaZb
import Derived.Laws.OwnMore
import Derived.Test.YtmjdnocilbnoaaaRows
import Derived.Shelf.Small.Bits
import Derived.Shelf.Strconv.Itoa0
import Derived.BigQuiet
import Derived.Deep.QuietTactic
import Derived.Deep.RegionHeld3
import Derived.Deep.DeepMust
import Derived.Test.YtmjdnocilbnoaaaZa
import Derived.Test.YtmjdnocilbnoaaaZd
/- The call Copy of layer 2: a memory with the same bytes, of its own. -/
namespace Go.Proofs.Ytmjdnocilbnoaaa
open Go.RowKit Go.Maps
set_option linter.unusedVariables false
theorem lit_same {j k : Nat} (hk : k < 18446744073709551616) : (Lit.int .u64 (j : Nat)).sameKey (.int .u64 (k : Nat)) = decide (j = k) := by
  by_cases e : j = k
  · subst e
    rw [WideAt.sameKey_self (keyed25.key (key25 hk))]; simp
  · rw [Maps.sameKey_ne (fun h => e (by simp at h; omega))]; simp [e]
theorem paged_has {D : DataW Unit} {pg : Nat → Option Nat} (hp : Paged D pg) (k : Nat) : Maps.has D (.int .u64 (k : Nat)) = (pg k).isSome := by
  rcases hp k with ⟨e, h⟩ | ⟨b, e, h⟩
  · rw [e, Maps.has_false_of_atKey h]; rfl
  · rw [e, Maps.has_true_of_atKey h]; rfl
section
variable (w : World) {ops : Array Oper} {rest : List Oper} {o : Oper} {a : Act} {Q : Exit → Act → World → Prop}
/-- the next page of a map that is ranged over, whichever it is -/
theorem wpList_next_pages (hg : o.guard = none) (it : Operand) (hop : o.op = Op.next it false) (b r n : Nat) (D : DataW Unit) (pg : Nat → Option Nat) (left : Lit → Bool) (cnt : Nat) (hit : a.eval it = .pointer (some ⟨r, 0, none⟩)) (h : w.ranges Try.prog 23 ptrElem b r n D left cnt) (hp : Paged D pg)
    (hDone : (∀ k : Nat, left (.int .u64 (k : Nat)) = false) → wpList Try.prog ops Q rest (a.put o.dst (.tuple #[.bool false])) w)
    (hMore : ∀ (k c : Nat) (w' : World) (cnt' : Nat), k < 18446744073709551616 → left (.int .u64 (k : Nat)) = true → pg k = some c → w'.ranges Try.prog 23 ptrElem b r n D (fun z => left z && !z.sameKey (.int .u64 (k : Nat))) cnt' → cnt' < cnt →
      w.grownBy w' (some r) → w'.heap.size = w.heap.size → (Instr.entry (.pointer (some ⟨r, 0, none⟩))).run Try.prog w' = .ok (.tuple #[.int .u64 (k : Nat), .pointer (some ⟨c, 0, none⟩)]) w' → wpList Try.prog ops Q rest (a.put o.dst (.tuple #[.bool true, .int .u64 (k : Nat), .pointer (some ⟨c, 0, none⟩)])) w') :
    wpList Try.prog ops Q (o :: rest) a w := by
  refine wpList_next_ranges w hg it hop 23 keyed25 ptrElem (Value.int .u64) (fun c : Nat => Value.pointer (some ⟨c, 0, none⟩)) (fun key kl hkey => by obtain ⟨x, rfl, _⟩ := Maps.keyOf_int_inv Try.underlying23 hkey; exact ⟨x, rfl⟩) (fun v y hv => by obtain ⟨c, rfl, _⟩ := ptrElem_inv hv; exact ⟨c, rfl⟩) b r n D left cnt hit h (fun _ hl => hDone (fun k => hl _)) ?_
  intro x c kl y w' cnt' hkey hlk hv hat hrg hlt hgr hsz hen
  obtain ⟨x', ex, rfl, hwx⟩ := Maps.keyOf_int_inv Try.underlying23 hkey
  cases ex
  have hb := bounds_u64 hwx
  obtain ⟨k, rfl⟩ : ∃ k : Nat, x = k := ⟨x.toNat, by omega⟩
  obtain ⟨c', ec, rfl⟩ := ptrElem_inv hv
  have ec2 : c = c' := by simpa using ec
  subst ec2
  have hpk : pg k = some c := by
    rcases hp k with ⟨e, h2⟩ | ⟨b', e, h2⟩
    · have := (hat .nil).symm.trans (h2 .nil); cases this
    · have := lit_inj ((hat .nil).symm.trans (h2 .nil)); rw [e, this]
  exact hMore k c w' cnt' (by omega) hlk hpk hrg hlt hgr hsz hen
end
theorem run_makeMap_hint (w : World) (c : Int) : (Instr.makeMap 87 (some (.int .i64 c))).run Try.prog w = .ok (.map (some w.heap.size)) (w.alloc (.map #[] 0)) := by
  have hu := run_underlying (w := w) Try.underlying87
  simp only [Instr.makeMap, Sem.run_bind, hu, Result.andThen_ok, asInt, asIntOf, Sem.run_pure]
  rfl
/-- a copy that is being made: pages that are no longer to come lie in it -/
def Copying (w wr : World) (bm size n : Nat) (D : DataW Unit) (pg : Nat → Option Nat) (M : Nat → Nat) (left : Lit → Bool) (cnt : Nat) : Prop :=
  ∃ n2 D2 pg2, wr.ranges Try.prog 23 ptrElem bm (w.heap.size + 2) n D left cnt ∧ wr.heap[w.heap.size + 1]? = some (.cells #[.int .u64 (size : Nat), .map (some w.heap.size), .pointer none] 90 (0, 0)) ∧ wr.ownsMap Try.prog 23 ptrElem w.heap.size n2 D2 ∧ Paged D2 pg2 ∧ n2 + cnt ≤ n ∧ Below w.heap.size w wr ∧ w.heap.size + 3 ≤ wr.heap.size ∧
    (∀ k b, pg2 k = some b → w.heap.size + 3 ≤ b ∧ b < wr.heap.size ∧ wr.heap[b]? = some (.cells (pageRow (fun i => M (k * 4096 + i))) 93 (0, 0))) ∧ (∀ k k' b, pg2 k = some b → pg2 k' = some b → k = k') ∧ (∀ k : Nat, left (.int .u64 (k : Nat)) = true → pg2 k = none) ∧ (∀ k : Nat, left (.int .u64 (k : Nat)) = false → (pg2 k).isSome = (pg k).isSome)
theorem grown_setRow (w : World) (g : Nat) (row : Array Value) : w.grownBy (w.setRow g row) (some g) := ⟨rfl, rfl, rfl, by simp [World.setRow], fun k hk hne => setRow_other w g k row (fun e => hne (by rw [e]))⟩
theorem Below.of_grown {B : Nat} {w w' : World} {row : Option Nat} (h : w.grownBy w' row) (hB : B ≤ w.heap.size) (hr : ∀ k, row = some k → B ≤ k) : Below B w w' := Below.grown (Below.refl _ _) h hB hr
/-- a page has come, and was laid -/
theorem copying_step {w wr w1 : World} {bm size n : Nat} {D : DataW Unit} {pg : Nat → Option Nat} {M : Nat → Nat} {left : Lit → Bool} {cnt cnt' k : Nat} (h : Copying w wr bm size n D pg M left cnt) (hn : n ≤ 1000000) (hbm : bm < w.heap.size) (hk : k < 18446744073709551616) (hlk : left (.int .u64 (k : Nat)) = true) (hpk : (pg k).isSome = true)
    (hrg : w1.ranges Try.prog 23 ptrElem bm (w.heap.size + 2) n D (fun z => left z && !z.sameKey (.int .u64 (k : Nat))) cnt') (hlt : cnt' < cnt) (hg : wr.grownBy w1 (some (w.heap.size + 2))) (hsz : w1.heap.size = wr.heap.size) :
    w1.heap[w.heap.size + 1]? = some (.cells #[.int .u64 (size : Nat), .map (some w.heap.size), .pointer none] 90 (0, 0)) ∧ Below w.heap.size w w1 ∧ w.heap.size + 3 ≤ w1.heap.size ∧
    ∃ w4, (Instr.mapUpdate 87 (.map (some w.heap.size)) (.int .u64 (k : Nat)) (.pointer (some ⟨w1.heap.size, 0, none⟩))).run Try.prog ((w1.alloc (.cells zeroPage 93)).setRow w1.heap.size (pageRow (fun i => M (k * 4096 + i)))) = .ok () w4 ∧
      Copying w w4 bm size n D pg M (fun z => left z && !z.sameKey (.int .u64 (k : Nat))) cnt' := by
  obtain ⟨n2, D2, pg2, h1, h2, h3, h4, h5, h6, h7, h8, h9, h10, h11⟩ := h
  have hne : ∀ q, q ≠ w.heap.size + 2 → q < wr.heap.size → w1.heap[q]? = wr.heap[q]? := fun q hq hl => hg.block q hl (fun e => hq (by cases e; rfl))
  have o1 := h3.kept hg (by simp)
  have hB1 : Below w.heap.size w w1 := Below.grown h6 hg h6.size (fun q hq => by cases hq; omega)
  have hb1 := (hne _ (by omega) (by omega)).trans h2
  have a1 := World.grownBy_alloc w1 (.cells zeroPage 93) none
  have e1 : (w1.alloc (.cells zeroPage 93)).heap.size = w1.heap.size + 1 := by simp
  have a2 := grown_setRow (w1.alloc (.cells zeroPage 93)) w1.heap.size (pageRow (fun i => M (k * 4096 + i)))
  have hnew : ((w1.alloc (.cells zeroPage 93)).setRow w1.heap.size (pageRow (fun i => M (k * 4096 + i)))).heap[w1.heap.size]? = some (.cells (pageRow (fun i => M (k * 4096 + i))) 93 (0, 0)) := setRow_heap _ _ _ _ 93 _ (heap_alloc_new w1 _)
  have o2 := (o1.alloc (.cells zeroPage 93)).kept a2 (fun e => by have := Option.some.inj e; omega)
  have r2 := (hrg.alloc (.cells zeroPage 93)).kept a2 (fun e => by have := Option.some.inj e; omega) (fun e => by have := Option.some.inj e; omega)
  obtain ⟨w4, D4, hrun, p1, p2, p3⟩ := pages_put o2 h4 k w1.heap.size hk (by unfold maxLen; omega)
  have e3 : ((w1.alloc (.cells zeroPage 93)).setRow w1.heap.size (pageRow (fun i => M (k * 4096 + i)))).heap.size = w1.heap.size + 1 := by simp [World.setRow]
  have old : ∀ q, q < w1.heap.size → q ≠ w.heap.size → w4.heap[q]? = w1.heap[q]? := fun q hq hq2 => by
    rw [p3.block q (by omega) (fun e => hq2 (by cases e; rfl)), a2.block q (by omega) (fun e => by have := Option.some.inj e; omega)]
    exact a1.block q hq (by simp)
  refine ⟨hb1, hB1, by omega, w4, hrun, n2 + 1, D4, _, r2.kept p3 (fun e => by have := Option.some.inj e; omega) (fun e => by have := Option.some.inj e; omega), (old _ (by omega) (by omega)).trans hb1, p1, p2, by omega, ?_, by have := p3.size; omega, ?_, ?_, ?_, ?_⟩
  · exact ((hB1.trans (Below.of_grown a1 hB1.size (by simp))).trans (Below.of_grown a2 (by have := hB1.size; omega) (fun q hq => by cases hq; exact hB1.size))).trans (Below.of_grown p3 (by have := hB1.size; omega) (fun q hq => by cases hq; exact Nat.le_refl _))
  · intro j b hj
    by_cases e : j = k
    · subst e
      simp only [if_true] at hj
      cases hj
      exact ⟨by omega, by have := p3.size; omega, (p3.block _ (by omega) (fun e => by have := Option.some.inj e; omega)).trans hnew⟩
    · simp only [e, if_false] at hj
      obtain ⟨x1, x2, x3⟩ := h8 j b hj
      exact ⟨x1, by have := p3.size; omega, ((old b (by omega) (by omega)).trans (hne b (by omega) x2)).trans x3⟩
  · intro j j' b hj hj'
    by_cases e : j = k <;> by_cases e' : j' = k
    · omega
    · simp only [e, e', if_true, if_false] at hj hj'
      cases hj; have := (h8 _ _ hj').2.1; omega
    · simp only [e, e', if_true, if_false] at hj hj'
      cases hj'; have := (h8 _ _ hj).2.1; omega
    · simp only [e, e', if_false] at hj hj'
      exact h9 _ _ _ hj hj'
  · intro j hj
    simp only [Bool.and_eq_true, lit_same hk, Bool.not_eq_true', decide_eq_false_iff_not] at hj
    simp only [hj.2, if_false]
    exact h10 j hj.1
  · intro j hj
    by_cases e : j = k
    · subst e; simp [hpk]
    · simp only [lit_same hk, e, decide_false, Bool.not_false, Bool.and_true] at hj
      simp only [e, if_false]
      exact h11 j hj
theorem copying_done {w wr : World} {F : Nat → Prop} {rb bm size n : Nat} {lg : Value} {D : DataW Unit} {pg : Nat → Option Nat} {M : Nat → Nat} {left : Lit → Bool} {cnt : Nat} (h : Copying w wr bm size n D pg M left cnt) (hl : ∀ k : Nat, left (.int .u64 (k : Nat)) = false) (h0 : RamIn w F rb size n lg M bm pg D) :
    ∃ F2, RamAt wr F2 (w.heap.size + 1) size n (.pointer none) M ∧ (∀ k, F2 k → w.heap.size ≤ k) ∧ Below w.heap.size w wr := by
  obtain ⟨n2, D2, pg2, h1, h2, h3, h4, h5, h6, h7, h8, h9, h10, h11⟩ := h
  refine ⟨fun k => k = w.heap.size ∨ k = w.heap.size + 1 ∨ ∃ j, pg2 j = some k, ⟨w.heap.size, pg2, D2, h2, h3.mono (by omega), h4, fun k b hk => (h8 k b hk).2.2, fun k hk i hi => ?_, h9, .inr (.inl rfl), .inl rfl, fun k b hk => .inr (.inr ⟨k, hk⟩), ?_, h0.2.2.2.2.2.2.2.2.2.2⟩, ?_, h6⟩
  · have e := h11 k (hl k)
    rw [hk] at e
    have hn : pg k = none := by cases hp : pg k with | none => rfl | some b => rw [hp] at e; cases e
    exact h0.2.2.2.2.1 k hn i hi
  · rintro k (rfl | rfl | ⟨j, hj⟩)
    · omega
    · omega
    · exact (h8 j k hj).2.1
  · rintro k (rfl | rfl | ⟨j, hj⟩)
    · omega
    · omega
    · have := (h8 j k hj).1; omega
set_option maxRecDepth 100000 in
set_option maxHeartbeats 1000000 in
theorem copy_any {w : World} {F : Nat → Prop} {rb size n : Nat} {lg : Value} {M : Nat → Nat} (h : RamAt w F rb size n lg M) (hn : n ≤ 1000000) :
    Calls Try.prog 15 #[.pointer (some ⟨rb, 0, none⟩)] w fun e w' => ∃ rb2 F2, e = .returned (.pointer (some ⟨rb2, 0, none⟩)) ∧ RamAt w' F2 rb2 size n (.pointer none) M ∧ (∀ k, F2 k → w.heap.size ≤ k) ∧ Below w.heap.size w w' := by
  obtain ⟨bm, pg, D, h⟩ := h
  have hc1 := h.cell1
  have hc0 : w.cell? ⟨rb, 0, none⟩ = some (.int .u64 (size : Nat)) := by have := h.1; simp [World.cell?, this]
  have hmm := run_makeMap_hint
  have hlen : (Builtin.len_ #[87] 3 #[.map (some bm)]).run Try.prog w.drew = .ok (.int .i64 (Maps.size D)) w.drew := (World.ownsMap.drew h.2.1).len Try.underlying87 3
  have hrb : rb < w.heap.size := h.2.2.2.2.2.2.2.2.2.1 rb h.2.2.2.2.2.2.1
  have H : Hid _ := h
  clear h
  go_enter Try.func15, Try.ntmps15
  go_wp2
  go_region
  all_goals go_wp2_with (first | (at_range; refine wpList_range_own _ rfl _ 87 rfl 23 91 keyed25 Try.underlying87 ptrElem bm n D rfl (by exact ((H.out.2.1.alloc _).alloc _)) ?_; intro w0 hrg0 hg0 hs0))
  go_frame
  have er : ((w.alloc (.map #[] 0)).alloc (.cells #[.int .u64 (size : Nat), .map (some w.heap.size), .pointer none] 90)).drew.heap.size = w.heap.size + 2 := by simp
  rw [er]
  have hbm : bm < w.heap.size := H.out.2.1.lt
  have hstart : Copying w w0 bm size n D pg M (Maps.has D) (Maps.size D) := by
    rw [er] at hrg0 hs0
    have f1 : Below w.heap.size w ((w.alloc (.map #[] 0)).alloc (.cells #[.int .u64 (size : Nat), .map (some w.heap.size), .pointer none] 90)).drew := (two_boxes _ _ _).drew
    refine ⟨0, .map [], fun _ => none, hrg0, ?_, ?_, paged_made, by rw [Nat.zero_add]; exact H.out.2.1.size_le, f1.trans (Below.of_grown hg0 f1.size (by simp)), by omega, fun k b hk => (by cases hk), fun k k' b hk => (by cases hk), fun k _ => rfl, fun k hk => (by rw [← paged_has H.out.2.2.1 k, hk]; rfl)⟩
    · rw [hg0.block _ (by omega) (by simp)]
      have := heap_alloc_new (w.alloc (.map #[] 0)) (.cells #[.int .u64 (size : Nat), .map (some w.heap.size), .pointer none] 90)
      rw [show w.heap.size + 1 = (w.alloc (.map #[] 0)).heap.size from by simp]
      exact this
    · exact (((World.ownsMap_made w Try.prog 23 ptrElem).alloc _).drew).kept hg0 (by simp)
  clear hrg0 hg0 hs0
  go_loopw [4] (fun _ wr => ∃ left cnt, Copying w wr bm size n D pg M left cnt) (fun _ wr => wr.rangeLeft bm (w.heap.size + 2))
  case atStart => exact ⟨_, _, hstart⟩
  case round =>
    obtain ⟨left, cnt, hco⟩ := hrel
    clear hstart
    have hrg : wr.ranges Try.prog 23 ptrElem bm (w.heap.size + 2) n D left cnt := by obtain ⟨n2, D2, pg2, h1, _⟩ := hco; exact h1
    have C : Hid _ := hco
    clear hco
    go_wp2_with (first | (at_next; refine wpList_next_pages _ rfl _ rfl bm (w.heap.size + 2) n D pg left cnt rfl hrg H.out.2.2.1 ?_ ?_))
    · intro hl0
      have L : Hid _ := hl0
      clear hl0
      go_wp2
      go_ret
      obtain ⟨F2, r1, r2, r3⟩ := copying_done C.out L.out H.out
      exact ⟨_, F2, rfl, r1, r2, r3⟩
    · intro k c w1 cnt1 hk hlk hpk hrg1 hlt hg1 hs1 hen
      obtain ⟨hb1, hB1, hsz1, w4, hrun, hco4⟩ := copying_step C.out hn hbm hk hlk (by rw [hpk]; rfl) hrg1 hlt hg1 hs1
      have hpage : w1.heap[c]? = some (.cells (pageRow (fun i => M (k * 4096 + i))) 93 (0, 0)) := (hB1.block c (H.out.2.2.2.2.2.2.2.2.2.1 c (H.out.2.2.2.2.2.2.2.2.1 k c hpk))).trans (H.out.2.2.2.1 k c hpk)
      have hcell : ((w1.alloc (.cells zeroPage 93)).setRow w1.heap.size (pageRow (fun i => M (k * 4096 + i)))).cell? ⟨w.heap.size + 1, 1, none⟩ = some (.map (some w.heap.size)) := by
        have e : ((w1.alloc (.cells zeroPage 93)).setRow w1.heap.size (pageRow (fun i => M (k * 4096 + i)))).heap[w.heap.size + 1]? = some (.cells #[.int .u64 (size : Nat), .map (some w.heap.size), .pointer none] 90 (0, 0)) := by
          rw [setRow_other _ _ _ _ (by omega), (World.grownBy_alloc w1 _ none).block _ (by omega) (by simp)]; exact hb1
        simp only [World.cell?, e]; rfl
      have hzp : (w1.alloc (.cells zeroPage 93)).heap[w1.heap.size]? = some (.cells zeroPage 93 (0, 0)) := heap_alloc_new w1 _
      have hzs : zeroPage.size = 4096 := by rw [zeroPage_row, pageRow_size]
      have X : Hid (_ ∧ _ ∧ _ ∧ _ ∧ _ ∧ _ ∧ _) := ⟨hpage, hzp, hzs, hrun, hco4, hrg, hlt⟩
      clear hpage hzp hzs hrun hco4 hrg hlt hrg1 hg1 hs1 hpk hlk hb1 hB1
      go_wp2_with (first | (refine wpList_load81 rfl _ rfl c (fun i => M (k * 4096 + i)) rfl X.out.1 ?_) | (refine wpList_alloc81 rfl rfl ?_) | (refine wpList_store81 rfl _ _ rfl w1.heap.size (fun i => M (k * 4096 + i)) zeroPage rfl rfl X.out.2.1 X.out.2.2.1 ?_) | (at_mapUpdate; refine wpList_mapUpdate_run rfl _ _ _ 87 rfl rfl rfl rfl X.out.2.2.2.1 ?_))
      go_frame
      go_roundw
      case rel => exact ⟨_, _, X.out.2.2.2.2.1⟩
      case measure =>
        obtain ⟨n2, D2, pg2, h1, _⟩ := X.out.2.2.2.2.1
        rw [h1.left_eq, X.out.2.2.2.2.2.1.left_eq]
        exact X.out.2.2.2.2.2.2
end Go.Proofs.Ytmjdnocilbnoaaa

/- Two pages compared whole. -/
namespace Go.Proofs.Ytmjdnocilbnoaaa
open Go.RowKit Go.Maps
set_option linter.unusedVariables false
def pageEq (f g : Nat → Nat) : Bool := (List.range 4096).all fun i => f i == g i
theorem pageEq_iff (f g : Nat → Nat) : pageEq f g = true ↔ ∀ i, i < 4096 → f i = g i := by simp [pageEq, List.all_eq_true]
theorem plain5 : Try.prog.plainKey 5 = true := by kernel_rfl
theorem under5 : Try.prog.underlying 5 = some (.int .u8) := by kernel_rfl
theorem cells5 : Try.prog.cellsOf 5 = 1 := by kernel_rfl
theorem guard81 : Try.prog.eqGuardType Try.prog.depth 93 = false := by kernel_rfl
theorem run_items (d : Nat) (f g : Nat → Nat) (w : World) : ∀ is : List Nat, (∀ i ∈ is, i < 4096) → (Op.eqItems (d + 1) 5 1 (pageRow f) (pageRow g) is).run Try.prog w = .ok (is.all fun i => f i == g i) w
  | [], _ => by simp [Op.eqItems]
  | i :: is, h => by
    have hi : i < 4096 := h i (by simp)
    have p1 := run_part_plain (P := Try.prog) w plain5 (pageRow_get f i hi)
    have p2 := run_part_plain (P := Try.prog) w plain5 (pageRow_get g i hi)
    have p3 := run_equalIn_int (P := Try.prog) w d 5 .u8 .u8 (f i : Nat) (g i : Nat) under5
    have ih := run_items d f g w is (fun j hj => h j (by simp [hj]))
    have e : ((f i : Int) == (g i : Int)) = (f i == g i) := by rw [Bool.eq_iff_iff]; simp; omega
    rw [e] at p3
    simp only [Op.eqItems, Sem.run_bind, Nat.mul_one, p1, p2, p3, Result.andThen_ok, List.all_cons]
    cases f i == g i
    · simp
    · simpa using ih
theorem run_neq81 (f g : Nat → Nat) (w : World) : (binOp .neq 93 (.agg (pageRow f)) (.agg (pageRow g))).run Try.prog w = .ok (.bool (!pageEq f g)) w := by
  rw [run_neq_struct]
  cases hq : Try.prog.info? 5 with
  | none => have : (Try.prog.info? 5).isSome = true := by kernel_rfl
            simp [hq] at this
  | some i =>
    rw [run_equalIn_array (P := Try.prog) w 9999 (pageRow f) (pageRow g) Try.underlying93 hq, cells5, run_items 9998 f g w _ (by simp)]
    rfl
section
variable {w : World} {ops : Array Oper} {rest : List Oper} {o : Oper} {a : Act} {Q : Exit → Act → World → Prop}
end
end Go.Proofs.Ytmjdnocilbnoaaa

/- The call stretch of layer 2: a list of pieces with a byte more. -/
namespace Go.Proofs.Ytmjdnocilbnoaaa
open Go.RowKit Go.Maps
set_option linter.unusedVariables false
/-- the pieces with a byte more, whose address lies above them -/
def stretchL (l : List (Nat × Nat)) (x : Nat) : List (Nat × Nat) :=
  match l.getLast? with
  | some p => if p.1 + p.2 = x then l.dropLast ++ [(p.1, p.2 + 1)] else l ++ [(x, 1)]
  | none => [(x, 1)]
theorem stretchL_nil (x : Nat) : stretchL [] x = [(x, 1)] := rfl
theorem stretchL_join (l : List (Nat × Nat)) (p L : Nat) : stretchL (l ++ [(p, L)]) (p + L) = l ++ [(p, L + 1)] := by simp [stretchL]
theorem stretchL_new (l : List (Nat × Nat)) (p L x : Nat) (h : p + L ≠ x) : stretchL (l ++ [(p, L)]) x = l ++ [(p, L)] ++ [(x, 1)] := by simp [stretchL, h]
/-- what stretch leaves -/
def Stretched (B : Nat) (w w' : World) (v v' : Value) (l : List (Nat × Nat)) (x : Nat) : Prop :=
  SpanIn B w' v' (stretchL l x) ∧ w.grownBy w' v.ownBlock ∧ (v'.ownBlock = v.ownBlock ∨ ∃ g, v'.ownBlock = some g ∧ w.heap.size ≤ g)
theorem stretched_of_added {B : Nat} {w w' : World} {v v' : Value} {l : List (Nat × Nat)} {x : Nat} (h : Added B w w' v v' l x 1) (e : stretchL l x = l ++ [(x, 1)]) : Stretched B w w' v v' l x := by
  unfold Stretched; rw [e]; exact h
theorem grown_drews (w : World) (n : Nat) (row : Option Nat) : w.grownBy (w.drewN n) row := ⟨rfl, rfl, rfl, Nat.le_refl _, fun _ _ _ => rfl⟩
theorem stretched_drew {B : Nat} {w w' : World} {q : Nat} {v v' : Value} {l : List (Nat × Nat)} {x : Nat} (h : Added B (w.drewN q) w' v v' l x 1) (e : stretchL l x = l ++ [(x, 1)]) : Stretched B w w' v v' l x :=
  stretched_of_added (w := w) ⟨h.1, (grown_drews w q _).trans h.2.1, by simpa using h.2.2⟩ e
theorem spanRow_length (l : List (Nat × Nat)) : (spanRow l).length = l.length * 2 := by
  induction l with
  | nil => rfl
  | cons p r ih => simp [spanRow] at ih ⊢; omega
theorem spanRow_set (l : List (Nat × Nat)) (p L L' : Nat) : (spanRow (l ++ [(p, L)])).set (l.length * 2 + 1) (.int .u64 (L' : Nat)) = spanRow (l ++ [(p, L')]) := by
  rw [spanRow_snoc, spanRow_snoc, List.set_append_right _ _ (by rw [spanRow_length]; omega), spanRow_length, show l.length * 2 + 1 - l.length * 2 = 1 from by omega]
  rfl
set_option maxRecDepth 100000 in
set_option maxHeartbeats 1000000 in
theorem stretch_any {B : Nat} {w : World} {v : Value} {l : List (Nat × Nat)} (h : SpanIn B w v l) (x : Nat) (hx : x < 18446744073709551616) (hl : l.length < 10000) (hB : B ≤ w.heap.size) (hlo : ∀ p ∈ l, p.1 + p.2 < 18446744073709551615) :
    Calls Try.prog 41 #[v, .int .u64 (x : Nat)] w fun e w' => ∃ v', e = .returned v' ∧ Stretched B w w' v v' l x := by
  obtain ⟨i0, hi, hz0, hz1, hz2⟩ := info_parts Try.info48
  rcases List.eq_nil_or_concat l with rfl | ⟨r, ⟨p, L⟩, rfl⟩
  · obtain ⟨a, c, rfl⟩ := h.form
    have H : Hid _ := h
    clear h
    go_enter Try.func41, Try.ntmps41
    go_wp2
    go_quiet (fail)
    go_wp2_with (first | (at_builtin; refine wpList_append_own_at _ rfl _ _ 60 rfl B 48 i0 (.agg #[.int .u64 0, .int .u64 0]) 2 16 Try.underlying60 hi hz0 hz1 hz2 rfl (by decide) _ 0 (spanRow []) rfl (World.ownsRow.alloc H.out _) ⟨w.heap.size, 0, none⟩ 1 1 [.int .u64 (x : Nat), .int .u64 (1 : Nat)] rfl rfl (two_new _ _ _ _) (by intro u hu; simp at hu; rcases hu with rfl | rfl <;> rfl) (by unfold maxLen; omega) (by omega) (by simp; omega) ?_; intro v' w1 hown' hgrow hnil hat))
    go_ret
    exact ⟨v', rfl, stretched_drew (added_of hown' hgrow hat) (stretchL_nil x)⟩
  · rw [List.concat_eq_append] at *
    obtain ⟨g, c, rfl, hc⟩ := h.cells (by simp)
    have hL := hlo (p, L) (by simp)
    have hlen : (r ++ [(p, L)]).length = r.length + 1 := by simp
    obtain ⟨c1, c2⟩ := hc r.length (by omega)
    have e1 : (r ++ [(p, L)]).getD r.length (0, 0) = (p, L) := by simp [List.getD]
    rw [e1] at c1 c2
    have hfz := World.ownsRow.frozenAt h (r.length * 2 + 1)
    have H : Hid _ := h
    clear h hc hlo e1
    rw [hlen] at hl H ⊢
    generalize hm : r.length = m at *
    have hm1 : (m : Int) < 10000 := by omega
    by_cases hjo : p + L = x
    · subst hjo
      go_enter Try.func41, Try.ntmps41
      go_wp2
      go_quiet (fail)
      go_wp2
      go_ret
      have hs := World.ownsRow.stored (w := w.drewN nq) H.out (m * 2 + 1) (.int .u64 ((L : Int) + 1))
      refine ⟨_, rfl, ?_, (grown_drews w nq _).trans hs.2, .inl rfl⟩
      have h1 := hs.1
      rw [show ((L : Int) + 1) = ((L + 1 : Nat) : Int) from by omega, ← hm, spanRow_set] at h1
      unfold SpanIn
      rw [stretchL_join]
      simp only [List.length_append, List.length_cons, List.length_nil, Nat.zero_add]
      rw [← hm]
      exact h1
    · go_enter Try.func41, Try.ntmps41
      go_wp2
      go_quiet (fail)
      go_wp2_with (first | (at_builtin; refine wpList_append_own_at _ rfl _ _ 60 rfl B 48 i0 (.agg #[.int .u64 0, .int .u64 0]) 2 16 Try.underlying60 hi hz0 hz1 hz2 rfl (by decide) _ (m + 1) (spanRow (r ++ [(p, L)])) rfl (World.ownsRow.alloc H.out _) ⟨w.heap.size, 0, none⟩ 1 1 [.int .u64 (x : Nat), .int .u64 (1 : Nat)] rfl rfl (two_new _ _ _ _) (by intro u hu; simp at hu; rcases hu with rfl | rfl <;> rfl) (by unfold maxLen; omega) (by omega) (by simp; omega) ?_; intro v' w1 hown' hgrow hnil hat))
      go_ret
      exact ⟨v', rfl, stretched_drew (added_of (by rw [hlen]; exact hown') hgrow hat) (stretchL_new r p L x hjo)⟩
end Go.Proofs.Ytmjdnocilbnoaaa

/- The call unlike of layer 2, its two rounds: the numbers of pages that were found so far. -/
namespace Go.Proofs.Ytmjdnocilbnoaaa
open Go.RowKit Go.Maps
set_option linter.unusedVariables false
def numRow (ks : List Nat) : List Value := ks.map fun k => .int .u64 (k : Nat)
theorem numRow_snoc (ks : List Nat) (k : Nat) : numRow (ks ++ [k]) = numRow ks ++ [.int .u64 (k : Nat)] := by simp [numRow]
/-- numbers, as a list that lies in blocks from B on -/
def Nums (B : Nat) (w : World) (v : Value) (ks : List Nat) : Prop := w.ownsRow B 23 1 v ks.length (numRow ks)
theorem Nums.kept {B : Nat} {w w' : World} {v : Value} {ks : List Nat} (h : Nums B w v ks) (hk : ∀ g, v.ownBlock = some g → w'.heap[g]? = w.heap[g]?) : Nums B w' v ks := by
  refine ⟨h.1, ?_⟩
  rcases h.2 with hn | ⟨g, cap, cur, rfl, hb, hgg, rest⟩
  · exact .inl hn
  · exact .inr ⟨g, cap, cur, rfl, hb, (hk g rfl).trans hgg, rest⟩
theorem Nums.form {B : Nat} {w : World} {v : Value} {ks : List Nat} (h : Nums B w v ks) : ∃ a c, v = .slice a ks.length c := by
  rcases h.2 with ⟨rfl, h0⟩ | ⟨g, cap, cur, rfl, _⟩
  · exact ⟨none, 0, by rw [h0]⟩
  · exact ⟨_, cap, rfl⟩
theorem grown_none {w w' : World} (h : Below w.heap.size w w') : w.grownBy w' none := ⟨h.os, h.tape, h.output, h.size, fun k hk _ => h.block k hk⟩
/-- under way over the pages of a map: those told by O were found before, those that T tells are looked for -/
def Hunting (w wr : World) (bm r n N : Nat) (D : DataW Unit) (pg : Nat → Option Nat) (O T : Nat → Prop) (v : Value) (left : Lit → Bool) (cnt : Nat) (ks : List Nat) : Prop :=
  wr.ranges Try.prog 23 ptrElem bm r n D left cnt ∧ Nums w.heap.size wr v ks ∧ Below w.heap.size w wr ∧ w.heap.size ≤ r ∧ (∀ g, v.ownBlock = some g → g ≠ r) ∧ ks.Nodup ∧ ks.length + cnt ≤ N ∧ (∀ k ∈ ks, k < 18446744073709551616) ∧
    (∀ k : Nat, k ∈ ks ↔ O k ∨ ((pg k).isSome = true ∧ left (.int .u64 (k : Nat)) = false ∧ T k))
/-- a page has come, and other memory was made meanwhile -/
theorem hunting_next {w wr w1 w2 : World} {bm r n N : Nat} {D : DataW Unit} {pg : Nat → Option Nat} {O T : Nat → Prop} {v : Value} {left left' : Lit → Bool} {cnt cnt' : Nat} {ks : List Nat} (h : Hunting w wr bm r n N D pg O T v left cnt ks) (hbm : bm < w.heap.size)
    (hrg : w1.ranges Try.prog 23 ptrElem bm r n D left' cnt') (hg : wr.grownBy w1 (some r)) (h2 : Below w1.heap.size w1 w2) :
    w2.ranges Try.prog 23 ptrElem bm r n D left' cnt' ∧ Nums w.heap.size w2 v ks ∧ Below w.heap.size w w2 := by
  obtain ⟨p1, p2, p3, p4, p5, p6⟩ := h
  have hB1 : Below w.heap.size w w1 := Below.grown p3 hg p3.size (fun q hq => by cases hq; exact p4)
  refine ⟨hrg.kept (grown_none h2) (by simp) (by simp), ?_, hB1.trans ⟨h2.os, h2.tape, h2.output, h2.size, fun k hk => h2.block k (by have := hB1.size; omega)⟩⟩
  refine (p2.kept (w' := w1) fun g hgg => hg.block g (World.ownsRow.lt p2 g hgg).2 (fun e => p5 g hgg (by cases e; rfl))).kept fun g hgg => h2.block g ?_
  have := (World.ownsRow.lt p2 g hgg).2
  have := hg.size
  omega
theorem left_step {left : Lit → Bool} {k : Nat} (hk : k < 18446744073709551616) (j : Nat) : (left (.int .u64 (j : Nat)) && !(Lit.int .u64 (j : Nat)).sameKey (.int .u64 (k : Nat))) = false ↔ left (.int .u64 (j : Nat)) = false ∨ j = k := by
  rw [lit_same hk]
  by_cases e : j = k <;> simp [e]
theorem hunting_skip {w wr w1 w2 : World} {bm r n N : Nat} {D : DataW Unit} {pg : Nat → Option Nat} {O T : Nat → Prop} {v : Value} {left : Lit → Bool} {cnt cnt' : Nat} {ks : List Nat} (h : Hunting w wr bm r n N D pg O T v left cnt ks) (hbm : bm < w.heap.size) {k : Nat} (hk : k < 18446744073709551616) (hT : ¬ T k) (hlt : cnt' < cnt)
    (hrg : w1.ranges Try.prog 23 ptrElem bm r n D (fun z => left z && !z.sameKey (.int .u64 (k : Nat))) cnt') (hg : wr.grownBy w1 (some r)) (h2 : Below w1.heap.size w1 w2) :
    Hunting w w2 bm r n N D pg O T v (fun z => left z && !z.sameKey (.int .u64 (k : Nat))) cnt' ks := by
  obtain ⟨q1, q2, q3⟩ := hunting_next h hbm hrg hg h2
  obtain ⟨p1, p2, p3, p4, p5, p6, p7, p8, p9⟩ := h
  refine ⟨q1, q2, q3, p4, p5, p6, by omega, p8, fun j => ?_⟩
  rw [p9 j, left_step hk]
  constructor
  · rintro (h | ⟨a, b, c⟩)
    · exact .inl h
    · exact .inr ⟨a, .inl b, c⟩
  · rintro (h | ⟨a, b | rfl, c⟩)
    · exact .inl h
    · exact .inr ⟨a, b, c⟩
    · exact absurd c hT
theorem hunting_take {w wr w1 w2 w3 : World} {bm r n N : Nat} {D : DataW Unit} {pg : Nat → Option Nat} {O T : Nat → Prop} {v v' : Value} {left : Lit → Bool} {cnt cnt' : Nat} {ks : List Nat} (h : Hunting w wr bm r n N D pg O T v left cnt ks) (hbm : bm < w.heap.size) (hO : ∀ k, O k → ¬ ((pg k).isSome = true ∧ T k)) {k : Nat} (hk : k < 18446744073709551616) (hlk : left (.int .u64 (k : Nat)) = true) (hpk : (pg k).isSome = true) (hT : T k) (hlt : cnt' < cnt)
    (hrg : w1.ranges Try.prog 23 ptrElem bm r n D (fun z => left z && !z.sameKey (.int .u64 (k : Nat))) cnt') (hg : wr.grownBy w1 (some r)) (h2 : Below w1.heap.size w1 w2)
    (hown : Nums w.heap.size w3 v' (ks ++ [k])) (hg3 : w2.grownBy w3 v.ownBlock) (hat : v'.ownBlock = v.ownBlock ∨ ∃ g, v'.ownBlock = some g ∧ w2.heap.size ≤ g) :
    Hunting w w3 bm r n N D pg O T v' (fun z => left z && !z.sameKey (.int .u64 (k : Nat))) cnt' (ks ++ [k]) := by
  obtain ⟨q1, q2, q3⟩ := hunting_next h hbm hrg hg h2
  obtain ⟨p1, p2, p3, p4, p5, p6, p7, p8, p9⟩ := h
  have hv : ∀ g, v.ownBlock = some g → w.heap.size ≤ g := fun g hgg => (World.ownsRow.lt p2 g hgg).1
  have hnk : k ∉ ks := by
    rw [p9 k]
    rintro (h | ⟨a, b, c⟩)
    · exact hO k h ⟨hpk, hT⟩
    · rw [hlk] at b; cases b
  refine ⟨q1.kept hg3 (fun e => ?_) (fun e => p5 r e.symm rfl), hown, Below.grown q3 hg3 q3.size hv, p4, ?_, ?_, ?_, ?_, fun j => ?_⟩
  · have := hv bm e.symm; omega
  · intro g hgg
    rcases hat with e | ⟨g', e, hl⟩
    · exact p5 g (by rw [← e, hgg])
    · rw [hgg] at e; cases e; have := q1.lt; omega
  · rw [List.nodup_append]
    exact ⟨p6, by simp, fun a ha b hb e => by simp at hb; subst hb; subst e; exact hnk ha⟩
  · simp; omega
  · intro j hj
    rcases List.mem_append.1 hj with hj | hj
    · exact p8 j hj
    · simp at hj; omega
  · rw [List.mem_append, p9 j, left_step hk]
    constructor
    · rintro ((h | ⟨a, b, c⟩) | h)
      · exact .inl h
      · exact .inr ⟨a, .inl b, c⟩
      · simp at h; subst h; exact .inr ⟨hpk, .inr rfl, hT⟩
    · rintro (h | ⟨a, b | rfl, c⟩)
      · exact .inl (.inl h)
      · exact .inl (.inr ⟨a, b, c⟩)
      · exact .inr (by simp)
end Go.Proofs.Ytmjdnocilbnoaaa

/- The library's call bits.Len by the contract of the shelf. -/
namespace Go.Proofs.Ytmjdnocilbnoaaa
open Go.Shelf
set_option maxRecDepth 100000
def Try.lays125_ren : Go.Shelf.Ren := ⟨fun | 125 => 77 | 128 => 96 | 129 => 97 | n => n, fun | 46 => 142 | 3 => 3 | 51 => 51 | 53 => 23 | 4 => 4 | 5 => 5 | 9 => 9 | n => n, fun | n => n⟩
theorem Try.lays125 : Go.Proofs.Lays.n125 Try.prog Try.lays125_ren := {
  mixed := by kernel_rfl
  f125 := Try.func77.trans (congrArg some (by kernel_rfl))
  f128 := Try.func96.trans (congrArg some (by kernel_rfl))
  f129 := Try.func97.trans (congrArg some (by kernel_rfl))
  t3 := Try.underlying3
  a3 := Try.isAgg3
  z3 := Try.sizeOf3
  v3 := Try.zeroValue3
  t4 := Try.underlying4
  a4 := Try.isAgg4
  z4 := Try.sizeOf4
  v4 := Try.zeroValue4
  t5 := Try.underlying5
  a5 := Try.isAgg5
  z5 := Try.sizeOf5
  v5 := Try.zeroValue5
  t9 := Try.underlying9
  a9 := Try.isAgg9
  z9 := Try.sizeOf9
  v9 := Try.zeroValue9
  t46 := Try.underlying142
  a46 := Try.isAgg142
  z46 := Try.sizeOf142
  v46 := Try.zeroValue142
  t51 := Try.underlying51
  a51 := Try.isAgg51
  z51 := Try.sizeOf51
  v51 := Try.zeroValue51
  t53 := Try.underlying23
  a53 := Try.isAgg23
  z53 := Try.sizeOf23
  v53 := Try.zeroValue23 }
theorem Try.bits_Len (x : Int) (w : World) (h0 : 0 ≤ x) (h1 : x ≤ 18446744073709551615) :
    Calls Try.prog 77 #[.int .u64 x] w fun e w' => e = .returned (.int .i64 (Lib.bitLen x.toNat)) ∧ w' = w := Any.bits_Len Try.lays125 x w h0 h1
end Go.Proofs.Ytmjdnocilbnoaaa

/- The library's call Sort at a list of at most two numbers. -/
namespace Go.Proofs.Ytmjdnocilbnoaaa
open Go.RowKit Go.Maps
set_option linter.unusedVariables false
theorem nan_any {w : World} (x : Nat) : Calls Try.prog 108 #[.int .u64 (x : Nat)] w fun e w' => e = .returned (.bool false) ∧ w' = w := by
  go_enter Try.func108, Try.ntmps108
  go_wp2
  go_ret
  exact ⟨by simp, rfl⟩
theorem ord_any {w : World} (x y : Nat) : Calls Try.prog 93 #[.int .u64 (x : Nat), .int .u64 (y : Nat)] w fun e w' => e = .returned (.bool (decide (x < y))) ∧ w' = w := by
  go_enter Try.func93, Try.ntmps93
  go_wp2_with (first | (go_at_call 108; refine (nan_any _).mono ?_; rintro e w' ⟨rfl, rfl⟩))
  go_ret
  exact ⟨by simp, rfl⟩
/-- the world with two numbers laid in their order -/
def sortW (w : World) (g x y : Nat) : World := if y < x then ((w.setCell ⟨g, 1, none⟩ (.int .u64 (x : Nat))).setCell ⟨g, 0, none⟩ (.int .u64 (y : Nat))) else w
set_option maxHeartbeats 1000000 in
theorem ins_two {w : World} {g c x y : Nat} (c0 : w.cell? ⟨g, 0, none⟩ = some (.int .u64 (x : Nat))) (c1 : w.cell? ⟨g, 1, none⟩ = some (.int .u64 (y : Nat))) (f0 : w.frozen? ⟨g, 0, none⟩ = false) (f1 : w.frozen? ⟨g, 1, none⟩ = false) :
    Calls Try.prog 87 #[.slice (some ⟨g, 0, none⟩) 2 c, .int .i64 0, .int .i64 2] w fun e w' => e = .returned (.tuple #[]) ∧ ∃ q, w' = (sortW w g x y).drewN q := by
  go_enter Try.func87, Try.ntmps87
  go_wp2
  go_loopw [6] (fun i wr => (i = .int .i64 1 ∧ w = wr) ∨ (i = .int .i64 2 ∧ ∃ q, wr = (sortW w g x y).drewN q)) (fun i _ => 2 - (intOf i).toNat)
  case atStart => exact .inl ⟨rfl, rfl⟩
  case round =>
    rcases hrel with ⟨rfl, rfl⟩ | ⟨rfl, q, rfl⟩
    · go_wp2
      go_loopw [7] (fun j wr => (j = .int .i64 1 ∧ w = wr) ∨ (j = .int .i64 0 ∧ y < x ∧ ∃ q, wr = ((w.setCell ⟨g, 1, none⟩ (.int .u64 (x : Nat))).setCell ⟨g, 0, none⟩ (.int .u64 (y : Nat))).drewN q)) (fun i _ => (intOf i).toNat)
      case atStart => exact .inl ⟨rfl, rfl⟩
      case round =>
        rcases hrel with ⟨rfl, rfl⟩ | ⟨rfl, hlt, q, rfl⟩
        · by_cases hlt : y < x
          · have hd : decide (y < x) = true := by simp [hlt]
            go_wp2
            go_quiet (first | (go_at_call 93; refine Calls.quiet_of_same (ord_any _ _)))
            go_wp2
            go_region
            all_goals go_wp2
            exact ⟨.inr ⟨rfl, hlt, nq + 1, rfl⟩, by simp [intOf]⟩
          · have hd : decide (y < x) = false := by simp [hlt]
            go_wp2
            go_quiet (first | (go_at_call 93; refine Calls.quiet_of_same (ord_any _ _)))
            go_wp2
            exact ⟨.inr ⟨rfl, nq, by rw [sortW, if_neg hlt]⟩, by simp [intOf]⟩
        · go_wp2
          go_quiet (fail)
          go_wp2
          exact ⟨.inr ⟨rfl, q + nq, by rw [sortW, if_pos hlt]⟩, by simp [intOf]⟩
    · go_wp2
      go_end0
      exact ⟨rfl, q, rfl⟩
theorem ins_one {w : World} {a : Option Addr} {n c : Nat} (hn : n ≤ 1) :
    Calls Try.prog 87 #[.slice a n c, .int .i64 0, .int .i64 n] w fun e w' => e = .returned (.tuple #[]) ∧ w' = w := by
  have hn2 : (n : Int) ≤ 1 := by omega
  go_enter Try.func87, Try.ntmps87
  go_wp2
  go_loopw [6] (fun i wr => i = .int .i64 1 ∧ w = wr) (fun _ _ => 0)
  case atStart => exact ⟨rfl, rfl⟩
  case round =>
    obtain ⟨rfl, rfl⟩ := hrel
    go_wp2
    go_end0
    exact ⟨rfl, rfl⟩
theorem pdq_two {w : World} {g c x y : Nat} (c0 : w.cell? ⟨g, 0, none⟩ = some (.int .u64 (x : Nat))) (c1 : w.cell? ⟨g, 1, none⟩ = some (.int .u64 (y : Nat))) (f0 : w.frozen? ⟨g, 0, none⟩ = false) (f1 : w.frozen? ⟨g, 1, none⟩ = false) (m : Int) :
    Calls Try.prog 76 #[.slice (some ⟨g, 0, none⟩) 2 c, .int .i64 0, .int .i64 2, .int .i64 m] w fun e w' => e = .returned (.tuple #[]) ∧ ∃ q, w' = (sortW w g x y).drewN q := by
  go_enter Try.func76, Try.ntmps76
  go_wp2_with (fail)
  go_loopw [1, 2] (fun a b wr => a = .int .i64 0 ∧ b = .int .i64 2 ∧ w = wr) (fun _ _ _ => 0)
  case atStart => exact ⟨rfl, rfl, rfl⟩
  case round =>
    obtain ⟨rfl, rfl, rfl⟩ := hrel
    go_wp2_with (first | (go_at_call 87; refine (ins_two c0 c1 f0 f1).mono ?_; rintro e w' ⟨rfl, q, rfl⟩))
    (try simp only [Exit.inBlock, Exit.then]); refine bodyPost_ret (results_none rfl _ _ _) rfl ?_
    exact ⟨rfl, q, rfl⟩
theorem pdq_one {w : World} {a : Option Addr} {n c : Nat} (hn : n ≤ 1) (m : Int) :
    Calls Try.prog 76 #[.slice a n c, .int .i64 0, .int .i64 n, .int .i64 m] w fun e w' => e = .returned (.tuple #[]) ∧ w' = w := by
  have hn2 : (n : Int) ≤ 1 := by omega
  go_enter Try.func76, Try.ntmps76
  go_wp2_with (fail)
  go_loopw [1, 2] (fun a b wr => a = .int .i64 0 ∧ b = .int .i64 n ∧ w = wr) (fun _ _ _ => 0)
  case atStart => exact ⟨rfl, rfl, rfl⟩
  case round =>
    obtain ⟨rfl, rfl, rfl⟩ := hrel
    go_wp2_with (first | (go_at_call 87; refine (ins_one hn).mono ?_; rintro e w' ⟨rfl, rfl⟩))
    (try simp only [Exit.inBlock, Exit.then]); refine bodyPost_ret (results_none rfl _ _ _) rfl ?_
    exact ⟨rfl, rfl⟩
/-- Sort at two numbers -/
theorem sort_two {w : World} {g c x y : Nat} (c0 : w.cell? ⟨g, 0, none⟩ = some (.int .u64 (x : Nat))) (c1 : w.cell? ⟨g, 1, none⟩ = some (.int .u64 (y : Nat))) (f0 : w.frozen? ⟨g, 0, none⟩ = false) (f1 : w.frozen? ⟨g, 1, none⟩ = false) :
    Calls Try.prog 61 #[.slice (some ⟨g, 0, none⟩) 2 c] w fun e w' => e = .returned (.tuple #[]) ∧ ∃ q, w' = (sortW w g x y).drewN q := by
  go_enter Try.func61, Try.ntmps61
  go_wp2_with (first | (go_at_call 77; refine (Try.bits_Len _ _ (by omega) (by omega)).mono ?_; rintro e w' ⟨rfl, rfl⟩) | (go_at_call 76; refine (pdq_two c0 c1 f0 f1 _).mono ?_; rintro e w' ⟨rfl, q, rfl⟩))
  go_end0
  exact ⟨rfl, q, rfl⟩
/-- Sort at one number, or none -/
theorem sort_one {w : World} {a : Option Addr} {n c : Nat} (hn : n ≤ 1) :
    Calls Try.prog 61 #[.slice a n c] w fun e w' => e = .returned (.tuple #[]) ∧ w' = w := by
  have hn2 : (n : Int) ≤ 1 := by omega
  go_enter Try.func61, Try.ntmps61
  go_wp2_with (first | (go_at_call 77; refine (Try.bits_Len _ _ (by omega) (by omega)).mono ?_; rintro e w' ⟨rfl, rfl⟩) | (go_at_call 76; refine (pdq_one hn _).mono ?_; rintro e w' ⟨rfl, rfl⟩))
  go_end0
  exact ⟨rfl, rfl⟩
end Go.Proofs.Ytmjdnocilbnoaaa

/- The call unlike of layer 2: laws for pages in an open order. -/
namespace Go.Proofs.Ytmjdnocilbnoaaa
open Go.RowKit Go.Maps
set_option linter.unusedVariables false
/-- the pages with that number differ -/
def Apart (Ma Mb : Nat → Nat) (k : Nat) : Prop := ∃ i, i < 4096 ∧ Ma (k * 4096 + i) ≠ Mb (k * 4096 + i)
theorem apart_iff (Ma Mb : Nat → Nat) (k : Nat) : pageEq (fun i => Ma (k * 4096 + i)) (fun i => Mb (k * 4096 + i)) = false ↔ Apart Ma Mb k := by
  rw [Bool.eq_false_iff, Ne, pageEq_iff]
  unfold Apart
  constructor
  · intro h
    refine Classical.byContradiction fun hn => h fun i hi => Classical.byContradiction fun hc => hn ⟨i, hi, hc⟩
  · rintro ⟨i, hi, hne⟩ h
    exact hne (h i hi)
theorem yield81 {w : World} {o : Oper} {a : Act} {c : Nat} {f : Nat → Nat} (hw : w.heap[c]? = some (.cells (pageRow f) 93 (0, 0))) (x : Operand) (hop : o.op = Op.load 93 x) (hx : a.eval x = .pointer (some ⟨c, 0, none⟩)) : (execOp a.eval o).run Try.prog w = .ok (.value (.agg (pageRow f))) w := by
  simp [execOp, hop, hx, run_load81 hw, Result.andThen]
section
variable {w : World} {o : Oper} {a : Act} {K : Act → World → Prop} {Q : Exit → Act → World → Prop}
theorem wp_load81 (x : Operand) (hop : o.op = Op.load 93 x) (b : Nat) (f : Nat → Nat) (hx : a.eval x = .pointer (some ⟨b, 0, none⟩)) (hb : w.heap[b]? = some (.cells (pageRow f) 93 (0, 0))) (h : K (a.put o.dst (.agg (pageRow f))) w) : Oper.wp Try.prog o a w K Q := by
  unfold Oper.wp
  simp [execOp, hop, hx, run_load81 hb, Result.andThen]
  exact h
theorem wp_neq81 (x y : Operand) (r : TypeId) (hop : o.op = Op.binOp .neq 93 x y r) (f g : Nat → Nat) (hx : a.eval x = .agg (pageRow f)) (hy : a.eval y = .agg (pageRow g)) (h : K (a.put o.dst (.bool (!pageEq f g))) w) : Oper.wp Try.prog o a w K Q := by
  unfold Oper.wp
  simp [execOp, hop, hx, hy, run_neq81 f g, run_eqGuard_agg (P := Try.prog) w _ _ _ _ _ _ guard81, Result.andThen]
  exact h
theorem wp_call41 (x y : Operand) (hop : o.op = Op.call { callee := .value (.func 40), args := #[x, y], argTypes := #[29, 23] }) (vx vy : Value) (hx : a.eval x = vx) (hy : a.eval y = vy) (R : Ending → World → Prop) (h : Calls Try.prog 40 #[vx, vy] w R) (hR : ∀ e w', R e w' → ∃ v, e = .returned v ∧ K (a.put o.dst v) w') : Oper.wp Try.prog o a w K Q := by
  unfold Oper.wp
  subst hx hy
  have hf : a.eval (.func 40) = Value.func (Fn.func 40) #[] #[] := rfl
  generalize a.eval = ρ at h hf ⊢
  simp [execOp, hop, resolve, Deferred.ofValue, hf, go_sem]
  refine Calls.mono h ?_
  intro e w' hr
  obtain ⟨v, rfl, hk⟩ := hR e w' hr
  exact hk
end
section
variable {w : World} {ops : Array Oper} {rest : List Oper} {o : Oper} {a : Act} {Q : Exit → Act → World → Prop}
theorem wpList_of_wp (hw : Region.wanted o (yielded ops a.tmps) = true) (h : ∀ K : Act → World → Prop, (∀ a w, wpList Try.prog ops Q rest a w → K a w) → o.wp Try.prog a w K Q) : wpList Try.prog ops Q (o :: rest) a w :=
  wpList_step fun K hK => by rw [if_pos hw]; exact h K hK
theorem wpList_gload81 (x : Operand) (hop : o.op = Op.load 93 x) (hw : Region.wanted o (yielded ops a.tmps) = true) (b : Nat) (f : Nat → Nat) (hx : a.eval x = .pointer (some ⟨b, 0, none⟩)) (hb : w.heap[b]? = some (.cells (pageRow f) 93 (0, 0))) (h : wpList Try.prog ops Q rest (a.put o.dst (.agg (pageRow f))) w) : wpList Try.prog ops Q (o :: rest) a w :=
  wpList_of_wp hw fun K hK => wp_load81 x hop b f hx hb (hK _ _ h)
theorem wpList_gneq81 (x y : Operand) (r : TypeId) (hop : o.op = Op.binOp .neq 93 x y r) (hw : Region.wanted o (yielded ops a.tmps) = true) (f g : Nat → Nat) (hx : a.eval x = .agg (pageRow f)) (hy : a.eval y = .agg (pageRow g)) (h : wpList Try.prog ops Q rest (a.put o.dst (.bool (!pageEq f g))) w) : wpList Try.prog ops Q (o :: rest) a w :=
  wpList_of_wp hw fun K hK => wp_neq81 x y r hop f g hx hy (hK _ _ h)
theorem run_build81 (w : World) : (Instr.build 93 #[]).run Try.prog w = .ok (.agg (pageRow (fun _ => 0))) w := by
  have h := zero81
  have h5 : (sizeOf 5).run Try.prog w = .ok 1 w := by kernel_rfl
  cases hq : Try.prog.info? 93 with
  | none => simp [hq] at h
  | some i =>
    have hz : i.zero = some (.agg zeroPage) := by simp [hq] at h; exact h.1
    have hzv : (zeroValue 93).run Try.prog w = .ok (.agg zeroPage) w := by simp [zeroValue, typeInfo, hq, hz]
    have hu : Try.prog.underlying 93 = some (.array 4096 5) := Try.underlying93
    simp only [Instr.build, Sem.run_bind, hzv, Result.andThen_ok, run_underlying hu, h5, Value.cells, Instr.fill, Sem.run_pure, zeroPage_row]
theorem wpList_gbuild81 (hop : o.op = Op.build 93 #[]) (hw : Region.wanted o (yielded ops a.tmps) = true) (h : wpList Try.prog ops Q rest (a.put o.dst (.agg (pageRow (fun _ => 0)))) w) : wpList Try.prog ops Q (o :: rest) a w :=
  wpList_of_wp hw fun K hK => by
    unfold Oper.wp
    simp [execOp, hop, run_build81, Result.andThen]
    exact hK _ _ h
end
end Go.Proofs.Ytmjdnocilbnoaaa

/- The call unlike of layer 2: the first of its rounds. -/
namespace Go.Proofs.Ytmjdnocilbnoaaa
open Go.RowKit Go.Maps
set_option linter.unusedVariables false
set_option linter.unusedSimpArgs false
theorem RamIn.below_map {w w' : World} {F : Nat → Prop} {rb size n : Nat} {lg : Value} {M : Nat → Nat} {bm : Nat} {pg : Nat → Option Nat} {D : DataW Unit} (h : RamIn w F rb size n lg M bm pg D) (hb : Below w.heap.size w w') : w'.ownsMap Try.prog 23 ptrElem bm n D := by
  obtain ⟨h1, h2, h3, h4, h5, h6, f1, f2, f3, f4, h7⟩ := h
  obtain ⟨es, c, e1, e2, e3, e4⟩ := h2
  exact ⟨es, c, (hb.block bm (f4 bm f2)).trans e1, e2, e3, e4⟩
theorem two_of {ks : List Nat} {p q : Nat} (hn : ks.Nodup) (h : ∀ k ∈ ks, k = p ∨ k = q) : ks.length ≤ 2 := by
  match ks, hn, h with
  | [], _, _ => simp
  | [_], _, _ => simp
  | [_, _], _, _ => simp
  | a :: b :: c :: r, hn, h =>
    have ha := h a (by simp)
    have hb := h b (by simp)
    have hc := h c (by simp)
    simp at hn
    omega
theorem pair_short (ks : List Nat) (h : ks.length ≤ 1) : ks.Pairwise (· < ·) := by
  match ks, h with
  | [], _ => exact List.Pairwise.nil
  | [_], _ => simp
theorem two_list (ks : List Nat) (h : ks.length = 2) : ∃ x y, ks = [x, y] := by
  match ks, h with
  | [x, y], _ => exact ⟨x, y, rfl⟩
theorem nums_two {B : Nat} {w : World} {av : Option Addr} {cv x y : Nat} (h : Nums B w (.slice av 2 cv) [x, y]) : ∃ g, av = some ⟨g, 0, none⟩ ∧ w.cell? ⟨g, 0, none⟩ = some (.int .u64 (x : Nat)) ∧ w.cell? ⟨g, 1, none⟩ = some (.int .u64 (y : Nat)) ∧ w.frozen? ⟨g, 0, none⟩ = false ∧ w.frozen? ⟨g, 1, none⟩ = false := by
  have h' := h
  rcases h'.2 with ⟨_, h1⟩ | ⟨g, cap, cur, hv, hb, hgg, rest⟩
  · simp at h1
  · cases hv
    have hc := World.ownsRow.cells h (g := g) rfl
    have c0 := hc 0 (.int .u64 (x : Nat)) rfl
    have c1 := hc 1 (.int .u64 (y : Nat)) rfl
    rw [addr_add, Nat.zero_add] at c0 c1
    exact ⟨g, rfl, c0, c1, World.ownsRow.frozenAt h 0, World.ownsRow.frozenAt h 1⟩
theorem sorted_nums {B : Nat} {w : World} {g c x y : Nat} (h : Nums B w (.slice (some ⟨g, 0, none⟩) 2 c) [x, y]) (hxy : ¬ x = y) (q : Nat) : ∃ ks : List Nat, ks.Pairwise (· < ·) ∧ (∀ k, k ∈ ks ↔ k = x ∨ k = y) ∧ Nums B ((sortW w g x y).drewN q) (.slice (some ⟨g, 0, none⟩) 2 c) ks ∧ w.grownBy ((sortW w g x y).drewN q) (some g) := by
  unfold sortW
  by_cases hlt : y < x
  · rw [if_pos hlt]
    have h1 := World.ownsRow.stored h 1 (.int .u64 (x : Nat))
    have h2 := World.ownsRow.stored h1.1 0 (.int .u64 (y : Nat))
    exact ⟨[y, x], by simp [hlt], fun k => by simp [or_comm], h2.1, (h1.2.trans h2.2).trans (grown_drews _ q _)⟩
  · rw [if_neg hlt]
    exact ⟨[x, y], by simp; omega, fun k => by simp, h, grown_drews w q _⟩
theorem Try.info23 : (Try.prog.info? 23).map (fun i => (i.zero, i.size, i.bytes)) = some (some (.int .u64 0), 1, 8) := by kernel_rfl
theorem one_new (w : World) (x : Value) (t : TypeId) : ∀ j u, [x][j]? = some u → (w.alloc (.cells #[x] t)).cell? ((⟨w.heap.size, 0, none⟩ : Addr).add j) = some u := by
  intro j u hj
  rw [addr_add, Nat.zero_add]
  simp only [World.cell?, heap_alloc_new]
  match j, hj with
  | 0, hj => simpa using hj
set_option maxRecDepth 100000 in
set_option maxHeartbeats 2000000 in
theorem unlike_any {w : World} {Fa Fb : Nat → Prop} {ra rb size na nb : Nat} {lga lgb : Value} {Ma Mb : Nat → Nat} (ha : RamAt w Fa ra size na lga Ma) (hb : RamAt w Fb rb size nb lgb Mb) (hs : 0 < size) (hna : na ≤ 1000000) (hnb : nb ≤ 1000000) (p1 p2 : Nat) (hS : ∀ k, Apart Ma Mb k → k = p1 ∨ k = p2) :
    Calls Try.prog 39 #[.pointer (some ⟨ra, 0, none⟩), .pointer (some ⟨rb, 0, none⟩)] w fun e w' => ∃ v ks, e = .returned v ∧ Nums w.heap.size w' v ks ∧ ks.Pairwise (· < ·) ∧ (∀ k, k ∈ ks ↔ Apart Ma Mb k) ∧ (∀ k ∈ ks, k < 18446744073709551616) ∧ Below w.heap.size w w' := by
  have HS : Hid _ := hS
  clear hS
  have ha0 := ha
  have hb0 := hb
  obtain ⟨bma, pga, Da, ha⟩ := ha
  obtain ⟨bmb, pgb, Db, hb⟩ := hb
  have hca := ha.cell1
  have hcb := hb.cell1
  have hz : ((size : Int) == 0) = false := by simp; omega
  have A : Hid _ := ha
  have B : Hid _ := hb
  have A0 : Hid (RamAt w Fa ra size na lga Ma) := ha0
  have B0 : Hid (RamAt w Fb rb size nb lgb Mb) := hb0
  clear ha hb ha0 hb0
  obtain ⟨i0, hinf, hz0, hz1, hz2⟩ := info_parts Try.info23
  go_enter Try.func39, Try.ntmps39
  go_wp2_with (first | (go_at_call 38; first | (refine (size_any A0.out).mono ?_; rintro e w' ⟨rfl, hw⟩; rw [hw]; clear hw) | (refine (size_any B0.out).mono ?_; rintro e w' ⟨rfl, hw⟩; rw [hw]; clear hw)) | (at_range; refine wpList_range_own _ rfl _ 87 rfl 23 91 keyed25 Try.underlying87 ptrElem bma na Da rfl A.out.2.1 ?_; intro w0 hrg0 hg0 hs0))
  go_frame
  have hba : bma < w.heap.size := A.out.2.1.lt
  have hstart : Hunting w w0 bma w.heap.size na na Da pga (fun _ => False) (Apart Ma Mb) (.slice none 0 0) (Maps.has Da) (Maps.size Da) [] := by
    refine ⟨hrg0, ⟨rfl, .inl ⟨rfl, rfl⟩⟩, Below.of_grown hg0 (Nat.le_refl _) (by simp), Nat.le_refl _, by simp [Value.ownBlock], List.nodup_nil, by simpa using A.out.2.1.size_le, by simp, fun k => ?_⟩
    simp
    intro h1 h2
    rw [paged_has A.out.2.2.1, h1] at h2
    cases h2
  clear hrg0 hg0 hs0
  go_loopw [5] (fun v wr => ∃ left cnt ks, Hunting w wr bma w.heap.size na na Da pga (fun _ => False) (Apart Ma Mb) v left cnt ks) (fun _ wr => wr.rangeLeft bma w.heap.size)
  case atStart => exact ⟨_, _, _, hstart⟩
  case round =>
    obtain ⟨left, cnt, ks, hco⟩ := hrel
    clear hstart
    have hrg : wr.ranges Try.prog 23 ptrElem bma w.heap.size na Da left cnt := hco.1
    obtain ⟨av, cv, rfl⟩ := Nums.form hco.2.1
    have HKL : Hid (ks.length + cnt ≤ na) := hco.2.2.2.2.2.2.1
    have C : Hid (Hunting w wr bma w.heap.size na na Da pga (fun _ => False) (Apart Ma Mb) (.slice av ks.length cv) left cnt ks) := hco
    clear hco
    go_wp2_with (first | (at_next; refine wpList_next_pages _ rfl _ rfl bma w.heap.size na Da pga left cnt rfl hrg A.out.2.2.1 ?_ ?_))
    · intro hdone
      have E : Hid (Nums w.heap.size wr (.slice av ks.length cv) ks ∧ Below w.heap.size w wr ∧ ks.Nodup ∧ ks.length ≤ na ∧ (∀ k ∈ ks, k < 18446744073709551616) ∧ ∀ k, k ∈ ks ↔ ((pga k).isSome = true ∧ Apart Ma Mb k)) := ⟨C.out.2.1, C.out.2.2.1, C.out.2.2.2.2.2.1, by have := HKL.out; omega, C.out.2.2.2.2.2.2.2.1, fun k => by rw [C.out.2.2.2.2.2.2.2.2 k]; simp [hdone k]⟩
      have hrb : wr.cell? ⟨rb, 1, none⟩ = some (.map (some bmb)) := by rw [E.out.2.1.cell (p := ⟨rb, 1, none⟩) (B.out.2.2.2.2.2.2.2.2.2.1 rb B.out.2.2.2.2.2.2.1)]; exact hcb
      have hmb : wr.ownsMap Try.prog 23 ptrElem bmb nb Db := (RamIn.below_map B.out E.out.2.1)
      clear hdone hrg C
      go_wp2_with (first | (at_range; refine wpList_range_own _ rfl _ 87 rfl 23 91 keyed25 Try.underlying87 ptrElem bmb nb Db rfl hmb ?_; intro w5 hrg5 hg5 hs5))
      go_frame
      have hbb : bmb < w.heap.size := B.out.2.1.lt
      have hstart2 : Hunting w w5 bmb wr.heap.size nb (na + nb) Db pgb (fun k => (pga k).isSome = true ∧ Apart Ma Mb k) (fun k => pga k = none ∧ Apart Ma Mb k) (.slice av ks.length cv) (Maps.has Db) (Maps.size Db) ks := by
        refine ⟨hrg5, E.out.1.kept (fun g hg => hg5.block g (World.ownsRow.lt E.out.1 g hg).2 (by simp)), Below.grown E.out.2.1 hg5 E.out.2.1.size (fun q hq => by cases hq), E.out.2.1.size, fun g hg => Nat.ne_of_lt (World.ownsRow.lt E.out.1 g hg).2, E.out.2.2.1, by have h1 := E.out.2.2.2.1; have h2 := B.out.2.1.size_le; omega, E.out.2.2.2.2.1, fun k => ?_⟩
        rw [E.out.2.2.2.2.2 k]
        constructor
        · exact .inl
        · rintro (h | ⟨h1, h2, _⟩)
          · exact h
          · rw [paged_has B.out.2.2.1, h1] at h2; cases h2
      have hr5 : wr.heap.size < w5.heap.size := hrg5.lt
      clear hrg5 hg5 hs5 hmb E hrb
      generalize hr2 : wr.heap.size = r2 at *
      clear hr2
      go_loopw [5] (fun v wq => ∃ left cnt ks, Hunting w wq bmb r2 nb (na + nb) Db pgb (fun k => (pga k).isSome = true ∧ Apart Ma Mb k) (fun k => pga k = none ∧ Apart Ma Mb k) v left cnt ks) (fun _ wq => wq.rangeLeft bmb r2)
      case atStart => exact ⟨_, _, _, hstart2⟩
      case round =>
        obtain ⟨left, cnt, ks, hco⟩ := hrel
        clear hstart2
        obtain ⟨av, cv, rfl⟩ := Nums.form hco.2.1
        have hrg : World.ranges _ Try.prog 23 ptrElem bmb r2 nb Db left cnt := hco.1
        have HKL : Hid (ks.length + cnt ≤ na + nb) := hco.2.2.2.2.2.2.1
        have C : Hid (Hunting w _ bmb r2 nb (na + nb) Db pgb (fun k => (pga k).isSome = true ∧ Apart Ma Mb k) (fun k => pga k = none ∧ Apart Ma Mb k) (.slice av ks.length cv) left cnt ks) := hco
        clear hco
        go_wp2_with (first | (at_next; refine wpList_next_pages _ rfl _ rfl bmb r2 nb Db pgb left cnt rfl hrg B.out.2.2.1 ?_ ?_))
        · intro hdone
          have E : Hid (Nums w.heap.size wr (.slice av ks.length cv) ks ∧ Below w.heap.size w wr ∧ ks.Nodup ∧ (∀ k ∈ ks, k < 18446744073709551616) ∧ ∀ k, k ∈ ks ↔ Apart Ma Mb k) := ⟨C.out.2.1, C.out.2.2.1, C.out.2.2.2.2.2.1, C.out.2.2.2.2.2.2.2.1, fun k => by
            rw [C.out.2.2.2.2.2.2.2.2 k, hdone k]
            constructor
            · rintro (h | ⟨_, _, _, h⟩)
              · exact h.2
              · exact h
            · intro h
              cases ha : pga k with
              | some b => exact .inl ⟨by rw [ha]; rfl, h⟩
              | none =>
                cases hb : pgb k with
                | some b => exact .inr ⟨rfl, rfl, ha, h⟩
                | none =>
                  obtain ⟨i, hi, hne⟩ := h
                  exact absurd ((A.out.2.2.2.2.1 k ha i hi).trans (B.out.2.2.2.2.1 k hb i hi).symm) hne⟩
          have hlen : ks.length ≤ 2 := two_of E.out.2.2.1 (fun k hk => HS.out k ((E.out.2.2.2.2 k).1 hk))
          clear hdone hrg C
          by_cases h1 : ks.length ≤ 1
          · go_wp2_with (first | (go_at_call 61; refine (sort_one h1).mono ?_; rintro e w' ⟨rfl, hw⟩; rw [hw]; clear hw))
            go_ret
            exact ⟨_, ks, rfl, E.out.1, pair_short ks h1, E.out.2.2.2.2, E.out.2.2.2.1, E.out.2.1⟩
          · obtain ⟨x, y, rfl⟩ := two_list ks (by omega)
            obtain ⟨g, rfl, c0, c1, f0, f1⟩ := nums_two E.out.1
            go_wp2_with (first | (go_at_call 61; refine (sort_two c0 c1 f0 f1).mono ?_; rintro e w' ⟨rfl, q, hw⟩; rw [hw]; clear hw))
            go_ret
            obtain ⟨ks', r1, r2, r3, r4⟩ := sorted_nums E.out.1 (by have := E.out.2.2.1; simpa using this) q
            exact ⟨_, ks', rfl, r3, r1, fun k => by rw [r2 k]; simpa using E.out.2.2.2.2 k, fun k hk => E.out.2.2.2.1 k (by simpa using (r2 k).1 hk), Below.grown E.out.2.1 r4 E.out.2.1.size (fun q hq => by cases hq; exact (World.ownsRow.lt E.out.1 _ rfl).1)⟩
        · intro k c w1 cnt' hk hlk hpk hrg1 hlt hg1 hs1 hent
          have hB1 : Below w.heap.size w w1 := Below.grown C.out.2.2.1 hg1 C.out.2.2.1.size (fun q hq => by cases hq; exact C.out.2.2.2.1)
          have hpage : w1.heap[c]? = some (.cells (pageRow (fun i => Mb (k * 4096 + i))) 93 (0, 0)) := (hB1.block c (B.out.2.2.2.2.2.2.2.2.2.1 c (B.out.2.2.2.2.2.2.2.2.1 k c hpk))).trans (B.out.2.2.2.1 k c hpk)
          have hra : w1.cell? ⟨ra, 1, none⟩ = some (.map (some bma)) := by rw [hB1.cell (p := ⟨ra, 1, none⟩) (A.out.2.2.2.2.2.2.2.2.2.1 ra A.out.2.2.2.2.2.2.1)]; exact hca
          have hlook := pages_look (RamIn.below_map A.out hB1) A.out.2.2.1 k hk
          have X : Hid (_ ∧ _ ∧ _ ∧ _ ∧ _ ∧ _ ∧ _) := ⟨hB1, hpage, hrg1, hlt, hg1, hlk, hpk⟩
          have Y : Hid (Below w1.heap.size w1 w1) := Below.refl _ _
          clear hB1 hpage hrg1 hlt hg1 hs1 hlk hpk
          cases hp : pga k with
          | some b =>
            rw [hp, ptrOf_some] at hlook
            have HT : Hid (¬ (pga k = none ∧ Apart Ma Mb k)) := fun h => by rw [hp] at h; cases h.1
            clear hp
            go_wp2_with (first | (at_lookup; refine wpList_lookup_run rfl _ _ 87 rfl rfl rfl hlook ?_))
            go_roundw
            case rel => exact ⟨_, _, _, hunting_skip C.out hbb hk HT.out X.out.2.2.2.1 X.out.2.2.1 X.out.2.2.2.2.1 Y.out⟩
            case measure =>
              have h1 := (hunting_next C.out hbb X.out.2.2.1 X.out.2.2.2.2.1 Y.out).1
              rw [h1.left_eq, hrg.left_eq]
              exact X.out.2.2.2.1
          | none =>
            rw [hp, ptrOf_none] at hlook
            have HP : Hid (pga k = none) := hp
            have HZ : Hid (∀ i, i < 4096 → Ma (k * 4096 + i) = 0) := A.out.2.2.2.2.1 k hp
            clear hp
            cases hpe : pageEq (fun i => Mb (k * 4096 + i)) (fun _ => 0)
            · have hT : Apart Ma Mb k := by
                rw [Bool.eq_false_iff, Ne, pageEq_iff] at hpe
                refine Classical.byContradiction fun hn => hpe fun i hi => ?_
                have : Ma (k * 4096 + i) = Mb (k * 4096 + i) := Classical.byContradiction fun hc => hn ⟨i, hi, hc⟩
                rw [← this]; exact HZ.out i hi
              have HT : Hid (pga k = none ∧ Apart Ma Mb k) := ⟨HP.out, hT⟩
              clear hT
              go_wp2_with (first | (at_lookup; refine wpList_lookup_run rfl _ _ 87 rfl rfl rfl hlook ?_) | (refine wpList_gload81 _ rfl (by rfl) c (fun i => Mb (k * 4096 + i)) rfl X.out.2.1 ?_) | (refine wpList_gbuild81 rfl (by rfl) ?_) | (refine wpList_gneq81 _ _ _ rfl (by rfl) (fun i => Mb (k * 4096 + i)) (fun _ => 0) rfl rfl ?_) | (at_builtin; go_must (refine wpList_append_own_at _ rfl _ _ 98 rfl w.heap.size 23 i0 (.int .u64 0) 1 8 Try.underlying98 hinf hz0 hz1 hz2 rfl (by decide) _ ks.length (numRow ks) rfl (World.ownsRow.alloc (hunting_next C.out hbb X.out.2.2.1 X.out.2.2.2.2.1 Y.out).2.1 _) ⟨w1.heap.size, 0, none⟩ 1 1 [.int .u64 (k : Nat)] rfl rfl (one_new _ _ _) (by intro u hu; simp at hu; subst hu; rfl) (by have q1 := HKL.out; have q2 := (hunting_next C.out hbb X.out.2.2.1 X.out.2.2.2.2.1 Y.out).2.2.size; unfold maxLen; omega) (by have q1 := HKL.out; have q2 := (hunting_next C.out hbb X.out.2.2.1 X.out.2.2.2.2.1 Y.out).2.2.size; first | omega | (simp; omega)) (by have q1 := HKL.out; have q2 := (hunting_next C.out hbb X.out.2.2.1 X.out.2.2.2.2.1 Y.out).2.2.size; simp; omega) ?_); intro v' w3 hown' hgrow hnil hat))
              have hh := hunting_take C.out hbb (fun _ h h2 => by rw [h2.2.1] at h; cases h.1) hk X.out.2.2.2.2.2.1 (by rw [X.out.2.2.2.2.2.2]; rfl) HT.out X.out.2.2.2.1 X.out.2.2.1 X.out.2.2.2.2.1 Y.out (v' := v') (w3 := w3) (by unfold Nums; rw [numRow_snoc, List.length_append]; exact hown') ((World.grownBy_alloc w1 (.cells #[.int .u64 (k : Nat)] 23) _).trans hgrow) (hat.imp id fun h => ⟨_, h, by simp⟩)
              exact ⟨⟨_, _, _, hh⟩, by rw [hh.1.left_eq, hrg.left_eq]; exact X.out.2.2.2.1⟩
            · have HT : Hid (¬ (pga k = none ∧ Apart Ma Mb k)) := fun h => by
                obtain ⟨i, hi, hne⟩ := h.2
                have := (pageEq_iff _ _).1 hpe i hi
                exact hne ((HZ.out i hi).trans this.symm)
              go_wp2_with (first | (at_lookup; refine wpList_lookup_run rfl _ _ 87 rfl rfl rfl hlook ?_) | (refine wpList_gload81 _ rfl (by rfl) c (fun i => Mb (k * 4096 + i)) rfl X.out.2.1 ?_) | (refine wpList_gbuild81 rfl (by rfl) ?_) | (refine wpList_gneq81 _ _ _ rfl (by rfl) (fun i => Mb (k * 4096 + i)) (fun _ => 0) rfl rfl ?_))
              go_roundw
              case rel => exact ⟨_, _, _, hunting_skip C.out hbb hk HT.out X.out.2.2.2.1 X.out.2.2.1 X.out.2.2.2.2.1 Y.out⟩
              case measure =>
                have h1 := (hunting_next C.out hbb X.out.2.2.1 X.out.2.2.2.2.1 Y.out).1
                rw [h1.left_eq, hrg.left_eq]
                exact X.out.2.2.2.1
    · intro k c w1 cnt' hk hlk hpk hrg1 hlt hg1 hs1 hent
      have hB1 : Below w.heap.size w w1 := Below.grown C.out.2.2.1 hg1 C.out.2.2.1.size (fun q hq => by cases hq; exact C.out.2.2.2.1)
      have hpage : w1.heap[c]? = some (.cells (pageRow (fun i => Ma (k * 4096 + i))) 93 (0, 0)) := (hB1.block c (A.out.2.2.2.2.2.2.2.2.2.1 c (A.out.2.2.2.2.2.2.2.2.1 k c hpk))).trans (A.out.2.2.2.1 k c hpk)
      have X : Hid (_ ∧ _ ∧ _ ∧ _ ∧ _ ∧ _ ∧ _) := ⟨hB1, hpage, hrg1, hlt, hg1, hlk, hpk⟩
      have L : Hid _ := look_any ((B0.out.below hB1).below ((Below.refl w1.heap.size w1).drew)) k hk
      clear hB1 hpage hrg1 hlt hg1 hs1 hlk hpk
      go_wp2_with fail
      refine wp_region_noPanic ?_
      refine wp_region_held_drew (S := fun V => V.heap[c]? = some (.cells (pageRow (fun i => Ma (k * 4096 + i))) 93 (0, 0))) (by kernel_rfl) X.out.2.1 ?_
      intro hS
      refine wpAnyH_take (i := 0) (oi := { dst := some 30, op := Op.move (Operand.tmp 7), type := 91, pos := "differ.go:41", after := #[], guard := none }) (v := .pointer (some ⟨c, 0, none⟩)) rfl (by kernel_rfl) (by kernel_rfl) (by kernel_rfl) (fun _ _ _ h => h) (Or.inl ⟨by rfl, fun w _ => rfl⟩) hS ?_
      (try simp only [Act.put, List.setIfInBounds_toArray, List.set_cons_zero, List.set_cons_succ])
      refine wpAnyH_take (i := 1) (oi := { dst := some 31, op := Op.nilCheck (Operand.tmp 30), type := 0, pos := "differ.go:41", after := #[{ on := 0, ground := Ground.data }], guard := none }) (v := .pointer (some ⟨c, 0, none⟩)) rfl (by kernel_rfl) (by kernel_rfl) (by kernel_rfl) (fun _ _ _ h => h) (Or.inl ⟨by rfl, fun w _ => rfl⟩) hS ?_
      (try simp only [Act.put, List.setIfInBounds_toArray, List.set_cons_zero, List.set_cons_succ])
      refine wpAnyH_take (i := 2) (oi := { dst := some 32, op := Op.load 93 (Operand.tmp 31), type := 93, pos := "differ.go:41", after := #[{ on := 1, ground := Ground.data }], guard := none }) (v := .agg (pageRow (fun i => Ma (k * 4096 + i)))) rfl (by kernel_rfl) (by kernel_rfl) (by kernel_rfl) (fun _ _ _ h => h) (Or.inl ⟨by rfl, fun w hw => yield81 hw _ rfl rfl⟩) hS ?_
      (try simp only [Act.put, List.setIfInBounds_toArray, List.set_cons_zero, List.set_cons_succ])
      refine wpAnyH_take (i := 3) (oi := { dst := some 33, op := Op.move (Operand.tmp 1), type := 29, pos := "differ.go:41", after := #[], guard := none }) (v := .pointer (some ⟨rb, 0, none⟩)) rfl (by kernel_rfl) (by kernel_rfl) (by kernel_rfl) (fun _ _ _ h => h) (Or.inl ⟨by rfl, fun w _ => rfl⟩) hS ?_
      (try simp only [Act.put, List.setIfInBounds_toArray, List.set_cons_zero, List.set_cons_succ])
      refine wpAnyH_take (i := 4) (oi := { dst := some 34, op := Op.move (Operand.tmp 6), type := 23, pos := "differ.go:41", after := #[], guard := none }) (v := .int .u64 (k : Nat)) rfl (by kernel_rfl) (by kernel_rfl) (by kernel_rfl) (fun _ _ _ h => h) (Or.inl ⟨by rfl, fun w _ => rfl⟩) hS ?_
      (try simp only [Act.put, List.setIfInBounds_toArray, List.set_cons_zero, List.set_cons_succ])
      refine wpAnyH_all (rs := [5]) (by kernel_rfl) (by simp) ?_
      intro i hi
      obtain rfl : i = 5 := by simpa using hi
      refine wpOp_step (o := { dst := some 35, op := Op.call { callee := Callee.value (Operand.func 40), args := #[Operand.tmp 33, Operand.tmp 34], argTypes := #[29, 23] }, type := 91, pos := "differ.go:41", after := #[{ on := 3, ground := Ground.data }, { on := 4, ground := Ground.data }], guard := none }) rfl (fun K' hK => ?_)
      rw [if_pos (by rfl)]
      refine wp_call41 _ _ rfl _ _ rfl rfl _ L.out ?_
      rintro e w2 ⟨b2, rfl, hpg2, hbl2⟩
      refine ⟨_, rfl, hK _ _ ⟨below_box (by exact X.out.2.1) hbl2, ?_⟩⟩
      clear hK
      have hS2 : w2.heap[c]? = some (.cells (pageRow (fun i => Ma (k * 4096 + i))) 93 (0, 0)) := below_box (by exact X.out.2.1) hbl2
      (try simp only [Act.put, List.setIfInBounds_toArray, List.set_cons_zero, List.set_cons_succ])
      refine wpAnyH_take (i := 6) (oi := { dst := some 36, op := Op.nilCheck (Operand.tmp 35), type := 0, pos := "differ.go:41", after := #[{ on := 5, ground := Ground.data }], guard := none }) (v := .pointer (some ⟨b2, 0, none⟩)) rfl (by kernel_rfl) (by kernel_rfl) (by kernel_rfl) (fun _ _ _ h => h) (Or.inl ⟨by rfl, fun w _ => rfl⟩) hS2 ?_
      (try simp only [Act.put, List.setIfInBounds_toArray, List.set_cons_zero, List.set_cons_succ])
      refine wpAnyH_all (rs := [7]) (by kernel_rfl) (by simp) ?_
      intro i hi
      obtain rfl : i = 7 := by simpa using hi
      refine wpOp_step (o := { dst := some 37, op := Op.load 93 (Operand.tmp 36), type := 93, pos := "differ.go:41", after := #[{ on := 6, ground := Ground.data }], guard := none }) rfl (fun K' hK => ?_)
      rw [if_pos (by rfl)]
      refine wp_load81 _ rfl b2 (fun i => Mb (k * 4096 + i)) rfl hpg2 ?_
      refine hK _ _ ⟨hS2, ?_⟩
      clear hK
      (try simp only [Act.put, List.setIfInBounds_toArray, List.set_cons_zero, List.set_cons_succ])
      refine wpAnyH_all (rs := [8]) (by kernel_rfl) (by simp) ?_
      intro i hi
      obtain rfl : i = 8 := by simpa using hi
      refine wpOp_step (o := { dst := some 38, op := Op.binOp BinOp.neq 93 (Operand.tmp 32) (Operand.tmp 37) 93, type := 4, pos := "differ.go:41", after := #[{ on := 2, ground := Ground.data }, { on := 7, ground := Ground.data }], guard := none }) rfl (fun K' hK => ?_)
      rw [if_pos (by rfl)]
      refine wp_neq81 _ _ _ rfl (fun i => Ma (k * 4096 + i)) (fun i => Mb (k * 4096 + i)) rfl rfl ?_
      refine hK _ _ ⟨hS2, ?_⟩
      clear hK
      (try simp only [Act.put, List.setIfInBounds_toArray, List.set_cons_zero, List.set_cons_succ])
      refine wpAnyH_done (by kernel_rfl) ?_ _
      refine NoPanic.normal ?_
      have hB2 : Below w1.heap.size w1 w2 := ((Below.refl w1.heap.size w1).drew).trans hbl2
      have Y : Hid _ := hB2
      clear hpg2 hbl2 hS2 hS hB2 L
      cases hpe : pageEq (fun i => Ma (k * 4096 + i)) (fun i => Mb (k * 4096 + i))
      · have hT : Apart Ma Mb k := (apart_iff Ma Mb k).1 hpe
        have HT : Hid _ := hT
        clear hT hpe
        go_wp2_with (first | (at_builtin; go_must (refine wpList_append_own_at _ rfl _ _ 98 rfl w.heap.size 23 i0 (.int .u64 0) 1 8 Try.underlying98 hinf hz0 hz1 hz2 rfl (by decide) _ ks.length (numRow ks) rfl (World.ownsRow.alloc (hunting_next C.out hba X.out.2.2.1 X.out.2.2.2.2.1 Y.out).2.1 _) ⟨w2.heap.size, 0, none⟩ 1 1 [.int .u64 (k : Nat)] rfl rfl (one_new _ _ _) (by intro u hu; simp at hu; subst hu; rfl) (by have q1 := HKL.out; have q2 := (hunting_next C.out hba X.out.2.2.1 X.out.2.2.2.2.1 Y.out).2.2.size; unfold maxLen; omega) (by have q1 := HKL.out; have q2 := (hunting_next C.out hba X.out.2.2.1 X.out.2.2.2.2.1 Y.out).2.2.size; first | omega | (simp; omega)) (by have q1 := HKL.out; have q2 := (hunting_next C.out hba X.out.2.2.1 X.out.2.2.2.2.1 Y.out).2.2.size; simp; omega) ?_); intro v' w3 hown' hgrow hnil hat))
        have hh := hunting_take C.out hba (fun _ h => h.elim) hk X.out.2.2.2.2.2.1 (by rw [X.out.2.2.2.2.2.2]; rfl) HT.out X.out.2.2.2.1 X.out.2.2.1 X.out.2.2.2.2.1 Y.out (v' := v') (w3 := w3) (by unfold Nums; rw [numRow_snoc, List.length_append]; exact hown') ((World.grownBy_alloc w2 (.cells #[.int .u64 (k : Nat)] 23) _).trans hgrow) (hat.imp id fun h => ⟨_, h, by simp⟩)
        exact ⟨⟨_, _, _, hh⟩, by rw [hh.1.left_eq, hrg.left_eq]; exact X.out.2.2.2.1⟩
      · have hT : ¬ Apart Ma Mb k := fun h => by rw [(apart_iff Ma Mb k).2 h] at hpe; cases hpe
        have HT : Hid _ := hT
        clear hT hpe
        go_wp2
        go_roundw
        case rel => exact ⟨_, _, _, hunting_skip C.out hba hk HT.out X.out.2.2.2.1 X.out.2.2.1 X.out.2.2.2.2.1 Y.out⟩
        case measure =>
          have h1 := (hunting_next C.out hba X.out.2.2.1 X.out.2.2.2.2.1 Y.out).1
          rw [h1.left_eq, hrg.left_eq]
          exact X.out.2.2.2.1
end Go.Proofs.Ytmjdnocilbnoaaa

/- The pieces at which two memories differ: plain facts. -/
namespace Go.Proofs.Ytmjdnocilbnoaaa
open Go.RowKit Go.Maps
set_option linter.unusedVariables false
/-- the pieces of addresses that rise -/
def spans (A : List Nat) : List (Nat × Nat) := A.foldl stretchL []
theorem spans_snoc (A : List Nat) (x : Nat) : spans (A ++ [x]) = stretchL (spans A) x := by simp [spans]
theorem stretchL_cases (l : List (Nat × Nat)) (x : Nat) : stretchL l x = l ++ [(x, 1)] ∨ ∃ r p L, l = r ++ [(p, L)] ∧ p + L = x ∧ stretchL l x = r ++ [(p, L + 1)] := by
  rcases List.eq_nil_or_concat l with rfl | ⟨r, ⟨p, L⟩, rfl⟩
  · exact .inl rfl
  · rw [List.concat_eq_append]
    by_cases h : p + L = x
    · subst h; exact .inr ⟨r, p, L, rfl, rfl, stretchL_join r p L⟩
    · exact .inl (stretchL_new r p L x h)
theorem stretchL_len (l : List (Nat × Nat)) (x : Nat) : l.length ≤ (stretchL l x).length ∧ (stretchL l x).length ≤ l.length + 1 := by
  rcases stretchL_cases l x with h | ⟨r, p, L, rfl, _, h⟩ <;> rw [h] <;> simp
theorem stretchL_take (l : List (Nat × Nat)) (x m : Nat) (h : m < l.length) : (stretchL l x).take m = l.take m := by
  rcases stretchL_cases l x with h1 | ⟨r, p, L, rfl, _, h1⟩
  · rw [h1, List.take_append_of_le_length (by omega)]
  · rw [h1, List.take_append_of_le_length (by simp at h; omega), List.take_append_of_le_length (by simp at h; omega)]
theorem fold_take (A : List Nat) : ∀ (l : List (Nat × Nat)) (m : Nat), m < l.length → (A.foldl stretchL l).take m = l.take m := by
  induction A with
  | nil => intro l m h; rfl
  | cons x A ih =>
    intro l m h
    rw [List.foldl_cons, ih _ _ (Nat.lt_of_lt_of_le h (stretchL_len l x).1), stretchL_take l x m h]
/-- once there are more pieces than m, the first m stay -/
theorem spans_take (A C : List Nat) (m : Nat) (h : m < (spans A).length) : (spans (A ++ C)).take m = (spans A).take m := by
  unfold spans at *
  rw [List.foldl_append]
  exact fold_take C _ m h
theorem spans_len (A : List Nat) : (spans A).length ≤ A.length := by
  unfold spans
  suffices h : ∀ l : List (Nat × Nat), (A.foldl stretchL l).length ≤ l.length + A.length by simpa using h []
  induction A with
  | nil => intro l; simp
  | cons x A ih =>
    intro l
    have h1 := ih (stretchL l x)
    have h2 := (stretchL_len l x).2
    simp at h1 ⊢
    omega
theorem spans_top (A : List Nat) (M : Nat) (h : ∀ a ∈ A, a < M) : ∀ p ∈ spans A, p.1 + p.2 ≤ M := by
  unfold spans
  suffices hh : ∀ l : List (Nat × Nat), (∀ p ∈ l, p.1 + p.2 ≤ M) → (∀ a ∈ A, a < M) → ∀ p ∈ A.foldl stretchL l, p.1 + p.2 ≤ M from hh [] (by simp) h
  clear h
  induction A with
  | nil => intro l h _; exact h
  | cons x A ih =>
    intro l hl hA
    refine ih (stretchL l x) ?_ (fun a ha => hA a (by simp [ha]))
    have hx := hA x (by simp)
    intro p hp
    rcases stretchL_cases l x with h1 | ⟨r, q, L, rfl, he, h1⟩ <;> rw [h1] at hp
    · rcases List.mem_append.1 hp with hp | hp
      · exact hl p hp
      · simp at hp; subst hp; simp; omega
    · rcases List.mem_append.1 hp with hp | hp
      · exact hl p (by simp [hp])
      · simp at hp; subst hp; simp; omega
/-- the addresses below n of a page at which two memories differ -/
def diffsIn (Ma Mb : Nat → Nat) (k n : Nat) : List Nat := ((List.range n).filter fun i => Ma (k * 4096 + i) != Mb (k * 4096 + i)).map fun i => k * 4096 + i
theorem diffsIn_zero (Ma Mb : Nat → Nat) (k : Nat) : diffsIn Ma Mb k 0 = [] := rfl
theorem diffsIn_same (Ma Mb : Nat → Nat) (k n : Nat) (h : Ma (k * 4096 + n) = Mb (k * 4096 + n)) : diffsIn Ma Mb k (n + 1) = diffsIn Ma Mb k n := by
  unfold diffsIn
  rw [List.range_succ, List.filter_append]
  simp [h]
theorem diffsIn_new (Ma Mb : Nat → Nat) (k n : Nat) (h : Ma (k * 4096 + n) ≠ Mb (k * 4096 + n)) : diffsIn Ma Mb k (n + 1) = diffsIn Ma Mb k n ++ [k * 4096 + n] := by
  unfold diffsIn
  rw [List.range_succ, List.filter_append]
  simp [h]
theorem diffsIn_mem (Ma Mb : Nat → Nat) (k n x : Nat) : x ∈ diffsIn Ma Mb k n ↔ ∃ i, i < n ∧ Ma (k * 4096 + i) ≠ Mb (k * 4096 + i) ∧ x = k * 4096 + i := by
  unfold diffsIn
  simp only [List.mem_map, List.mem_filter, List.mem_range, bne_iff_ne]
  constructor
  · rintro ⟨i, ⟨h1, h2⟩, rfl⟩; exact ⟨i, h1, h2, rfl⟩
  · rintro ⟨i, h1, h2, rfl⟩; exact ⟨i, ⟨h1, h2⟩, rfl⟩
theorem diffsIn_len (Ma Mb : Nat → Nat) (k n : Nat) : (diffsIn Ma Mb k n).length ≤ n := by
  unfold diffsIn
  rw [List.length_map]
  exact Nat.le_trans (List.length_filter_le _ _) (by simp)
/-- .. of all pages of a list -/
def diffs (Ma Mb : Nat → Nat) (ks : List Nat) : List Nat := ks.flatMap fun k => diffsIn Ma Mb k 4096
theorem diffs_snoc (Ma Mb : Nat → Nat) (ks : List Nat) (k : Nat) : diffs Ma Mb (ks ++ [k]) = diffs Ma Mb ks ++ diffsIn Ma Mb k 4096 := by simp [diffs]
theorem diffs_len (Ma Mb : Nat → Nat) (ks : List Nat) : (diffs Ma Mb ks).length ≤ 4096 * ks.length := by
  unfold diffs
  induction ks with
  | nil => simp
  | cons k ks ih =>
    have := diffsIn_len Ma Mb k 4096
    simp at ih ⊢
    omega
theorem diffs_mem (Ma Mb : Nat → Nat) (ks : List Nat) (x : Nat) : x ∈ diffs Ma Mb ks ↔ x / 4096 ∈ ks ∧ Ma x ≠ Mb x := by
  unfold diffs
  simp only [List.mem_flatMap, diffsIn_mem]
  constructor
  · rintro ⟨k, hk, i, hi, hne, rfl⟩
    exact ⟨by rw [show (k * 4096 + i) / 4096 = k from by omega]; exact hk, hne⟩
  · rintro ⟨hk, hne⟩
    exact ⟨x / 4096, hk, x % 4096, Nat.mod_lt _ (by decide), by rw [show x / 4096 * 4096 + x % 4096 = x from by omega]; exact hne, by omega⟩
theorem pairwise_range (n : Nat) : (List.range n).Pairwise (· < ·) := List.pairwise_lt_range
theorem diffsIn_rise (Ma Mb : Nat → Nat) (k n : Nat) : (diffsIn Ma Mb k n).Pairwise (· < ·) := by
  unfold diffsIn
  rw [List.pairwise_map]
  exact ((pairwise_range n).filter _).imp (fun h => by omega)
theorem diffs_rise (Ma Mb : Nat → Nat) (ks : List Nat) (h : ks.Pairwise (· < ·)) : (diffs Ma Mb ks).Pairwise (· < ·) := by
  unfold diffs
  induction ks with
  | nil => simp
  | cons k ks ih =>
    rw [List.pairwise_cons] at h
    rw [List.flatMap_cons, List.pairwise_append]
    refine ⟨diffsIn_rise Ma Mb k 4096, ih h.2, fun a ha b hb => ?_⟩
    obtain ⟨i, hi, _, rfl⟩ := (diffsIn_mem Ma Mb k 4096 a).1 ha
    obtain ⟨k', hk', hb'⟩ := List.mem_flatMap.1 hb
    obtain ⟨j, hj, _, rfl⟩ := (diffsIn_mem Ma Mb k' 4096 b).1 hb'
    have := h.1 k' hk'
    omega
/-- lists that rise and have the same members are one -/
theorem rise_one : ∀ (A C : List Nat), A.Pairwise (· < ·) → C.Pairwise (· < ·) → (∀ x, x ∈ A ↔ x ∈ C) → A = C
  | [], [], _, _, _ => rfl
  | [], c :: C, _, _, h => by have := (h c).2 (by simp); simp at this
  | a :: A, [], _, _, h => by have := (h a).1 (by simp); simp at this
  | a :: A, c :: C, hA, hC, h => by
    rw [List.pairwise_cons] at hA hC
    have e : a = c := by
      rcases List.mem_cons.1 ((h a).1 (by simp)) with h1 | h1
      · exact h1
      · rcases List.mem_cons.1 ((h c).2 (by simp)) with h2 | h2
        · exact h2.symm
        · have := hA.1 c h2; have := hC.1 a h1; omega
    subst e
    rw [rise_one A C hA.2 hC.2 (fun x => by
      constructor
      · intro hx
        rcases List.mem_cons.1 ((h x).1 (by simp [hx])) with h1 | h1
        · subst h1; have := hA.1 x hx; omega
        · exact h1
      · intro hx
        rcases List.mem_cons.1 ((h x).2 (by simp [hx])) with h1 | h1
        · subst h1; have := hC.1 x hx; omega
        · exact h1)]
end Go.Proofs.Ytmjdnocilbnoaaa

/- The call Differ of layer 2: where two memories differ, piece by piece. -/
namespace Go.Proofs.Ytmjdnocilbnoaaa
open Go.RowKit Go.Maps
set_option linter.unusedVariables false
set_option linter.unusedSimpArgs false
/-- a block that lies where it lay, and is not the list's own -/
def Kept (w : World) (v : Value) (b : Nat) (o : Obj) : Prop := w.heap[b]? = some o ∧ v.ownBlock ≠ some b
theorem Kept.lt {w : World} {v : Value} {b : Nat} {o : Obj} (h : Kept w v b o) : b < w.heap.size := (Array.getElem?_eq_some_iff.1 h.1).1
theorem Kept.below {w w' : World} {v : Value} {b : Nat} {o : Obj} (h : Kept w v b o) (hb : Below w.heap.size w w') : Kept w' v b o := ⟨below_box h.1 hb, h.2⟩
theorem Kept.drewN {w : World} {v : Value} {b : Nat} {o : Obj} (h : Kept w v b o) (n : Nat) : Kept (w.drewN n) v b o := h
theorem Kept.stretched {B : Nat} {w w' : World} {v v' : Value} {b : Nat} {o : Obj} {l : List (Nat × Nat)} {x : Nat} (h : Kept w v b o) (hs : Stretched B w w' v v' l x) : Kept w' v' b o := by
  obtain ⟨h1, h2, h3⟩ := hs
  refine ⟨(h2.block b h.lt (fun e => h.2 e.symm)).trans h.1, fun e => ?_⟩
  rcases h3 with h3 | ⟨g, h3, hg⟩
  · exact h.2 (h3 ▸ e)
  · rw [e] at h3; cases h3; have := h.lt; omega
theorem spanRow_take (l : List (Nat × Nat)) : ∀ m, spanRow (l.take m) = (spanRow l).take (m * 2) := by
  induction l with
  | nil => intro m; simp [spanRow]
  | cons p r ih =>
    intro m
    have e : spanRow (p :: r) = .int .u64 (p.1 : Nat) :: .int .u64 (p.2 : Nat) :: spanRow r := by simp [spanRow]
    cases m with
    | zero => simp [spanRow]
    | succ m =>
      rw [List.take_succ_cons, e, show (m + 1) * 2 = m * 2 + 1 + 1 from by omega, List.take_succ_cons, List.take_succ_cons, ← ih m]
      simp [spanRow]
theorem SpanIn.cut {B : Nat} {w : World} {g n c : Nat} {l : List (Nat × Nat)} (h : SpanIn B w (.slice (some ⟨g, 0, none⟩) n c) l) (m : Nat) (hm : m ≤ l.length) : SpanIn B w (.slice (some ⟨g, 0, none⟩) m c) (l.take m) := by
  have hl := spanRow_length (l.take m)
  have h0 : (l.take m).length = m := by simp; omega
  rw [h0] at hl
  rcases h.2 with ⟨h', _⟩ | ⟨g', cap', cur, h', hb, hg, hnc, hcm, hcs, htake⟩
  · simp at h'
  · simp only [Value.slice.injEq, Option.some.injEq, Addr.mk.injEq, and_true, true_and] at h'
    obtain ⟨rfl, h2, rfl⟩ := h'
    refine ⟨?_, .inr ⟨g, c, cur, by rw [h0], hb, hg, ?_, hcm, hcs, ?_⟩⟩
    · rw [h0]; exact hl
    · rw [h0]; omega
    · rw [h0, spanRow_take, ← htake, List.take_take, Nat.min_eq_left (by omega)]
theorem look_far {w : World} {F : Nat → Prop} {rb size n : Nat} {lg : Value} {M : Nat → Nat} (h : RamAt w F rb size n lg M) (k : Nat) (hk : k < 18446744073709551616) :
    Calls Try.prog 40 #[.pointer (some ⟨rb, 0, none⟩), .int .u64 (k : Nat)] w fun e w' => ∃ b, e = .returned (.pointer (some ⟨b, 0, none⟩)) ∧ w'.heap[b]? = some (.cells (pageRow (fun i => M (k * 4096 + i))) 93 (0, 0)) ∧ Below w.heap.size w w' ∧ (F b ∨ w.heap.size ≤ b) := by
  obtain ⟨bm, pg, D, h⟩ := h
  have hlk := pages_look h.2.1 h.2.2.1 k hk
  have hc1 := h.cell1
  cases hp : pg k with
  | some b =>
    rw [hp, ptrOf_some] at hlk
    have X : Hid (_ ∧ _) := ⟨h.2.2.2.1 k b hp, h.2.2.2.2.2.2.2.2.1 k b hp⟩
    clear h hp
    go_enter Try.func40, Try.ntmps40
    go_wp2_with (first | (at_lookup; refine wpList_lookup_run rfl _ _ 87 rfl rfl rfl hlk ?_))
    go_ret
    exact ⟨b, rfl, X.out.1, Below.refl _ _, .inl X.out.2⟩
  | none =>
    rw [hp, ptrOf_none] at hlk
    have X : Hid _ := h.2.2.2.2.1 k hp
    clear h hp
    go_enter Try.func40, Try.ntmps40
    go_wp2_with (first | (at_lookup; refine wpList_lookup_run rfl _ _ 87 rfl rfl rfl hlk ?_) | (refine wpList_alloc81 rfl rfl ?_))
    go_ret
    refine ⟨w.heap.size, rfl, ?_, (Below.refl _ _).alloc (Nat.le_refl _) _, .inr (Nat.le_refl _)⟩
    rw [heap_alloc_new, zeroPage_row, pageRow_congr _ _ (fun i hi => (X.out i hi).symm)]
theorem stretch_i {B : Nat} {w : World} {v : Value} {l : List (Nat × Nat)} (h : SpanIn B w v l) (xi : Int) (x : Nat) (hxi : xi = (x : Nat)) (hx : x < 18446744073709551616) (hl : l.length < 10000) (hB : B ≤ w.heap.size) (hlo : ∀ p ∈ l, p.1 + p.2 < 18446744073709551615) :
    Calls Try.prog 41 #[v, .int .u64 xi] w fun e w' => ∃ v', e = .returned v' ∧ Stretched B w w' v v' l x := by
  subst hxi
  exact stretch_any h x hx hl hB hlo
/-- the numbers as they lie in a block -/
theorem nums_block {B : Nat} {w : World} {av : Option Addr} {cv : Nat} {ks : List Nat} (h : Nums B w (.slice av ks.length cv) ks) (h0 : 0 < ks.length) : ∃ g cur, av = some ⟨g, 0, none⟩ ∧ w.heap[g]? = some (.cells cur 23 (0, 0)) ∧ ∀ j, j < ks.length → cur[j]? = some (.int .u64 (ks.getD j 0 : Nat)) := by
  rcases h.2 with ⟨_, h1⟩ | ⟨g, cap, cur, hv, hb, hgg, hnc, hcm, hcs, htake⟩
  · omega
  · simp only [Value.slice.injEq, true_and] at hv
    refine ⟨g, cur, hv.1, hgg, fun j hj => ?_⟩
    have h2 : (numRow ks)[j]? = some (.int .u64 (ks.getD j 0 : Nat)) := by
      unfold numRow
      rw [List.getElem?_map, List.getD_eq_getElem?_getD, List.getElem?_eq_getElem hj]
      rfl
    rw [← htake, List.getElem?_take] at h2
    split at h2
    · simpa using h2
    · cases h2
end Go.Proofs.Ytmjdnocilbnoaaa

/- The call Differ of layer 2, walked. -/
namespace Go.Proofs.Ytmjdnocilbnoaaa
open Go.RowKit Go.Maps
set_option linter.unusedVariables false
set_option linter.unusedSimpArgs false
/-- what the scan has found so far -/
structure Scan (w wr : World) (v : Value) (A : List Nat) (most : Int) : Prop where
  span : SpanIn w.heap.size wr v (spans A)
  below : Below w.heap.size w wr
  few : ((spans A).length : Int) ≤ most
theorem Scan.later {w wr w' : World} {v : Value} {A : List Nat} {most : Int} (h : Scan w wr v A most) (hb : Below wr.heap.size wr w') : Scan w w' v A most :=
  ⟨h.span.kept (fun g hg => hb.block g (h.span.lt g hg).2), h.below.trans (hb.mono h.below.size), h.few⟩
theorem no_own (w wr : World) (v : Value) (l : List (Nat × Nat)) (h : SpanIn w.heap.size wr v l) (b : Nat) (hb : b < w.heap.size ∨ wr.heap.size ≤ b) : v.ownBlock ≠ some b := fun e => by
  have := h.lt b e
  omega
theorem page_cell {w : World} {b : Nat} {f : Nat → Nat} (h : w.heap[b]? = some (.cells (pageRow f) 93 (0, 0))) (i : Nat) (hi : i < 4096) : w.cell? ⟨b, i, none⟩ = some (.int .u8 (f i : Nat)) := by
  simp only [World.cell?, h]
  exact pageRow_get f i hi
theorem diffsIn_split (Ma Mb : Nat → Nat) (k i : Nat) : ∀ d, ∃ C, diffsIn Ma Mb k (i + d) = diffsIn Ma Mb k i ++ C
  | 0 => ⟨[], by simp⟩
  | d + 1 => by
    obtain ⟨C, h⟩ := diffsIn_split Ma Mb k i d
    by_cases he : Ma (k * 4096 + (i + d)) = Mb (k * 4096 + (i + d))
    · exact ⟨C, by rw [← Nat.add_assoc, diffsIn_same _ _ _ _ he, h]⟩
    · exact ⟨C ++ [k * 4096 + (i + d)], by rw [← Nat.add_assoc, diffsIn_new _ _ _ _ he, h, List.append_assoc]⟩
theorem all_split (Ma Mb : Nat → Nat) (ks : List Nat) (j i k : Nat) (h : ks.take (j + 1) = ks.take j ++ [k]) (hi : i ≤ 4096) : ∃ C, diffs Ma Mb ks = diffs Ma Mb (ks.take j) ++ diffsIn Ma Mb k i ++ C := by
  obtain ⟨C, hC⟩ := diffsIn_split Ma Mb k i (4096 - i)
  rw [show i + (4096 - i) = 4096 from by omega] at hC
  refine ⟨C ++ diffs Ma Mb (ks.drop (j + 1)), ?_⟩
  have e : ks = ks.take (j + 1) ++ ks.drop (j + 1) := (List.take_append_drop _ _).symm
  have e2 : diffs Ma Mb ks = diffs Ma Mb (ks.take (j + 1)) ++ diffs Ma Mb (ks.drop (j + 1)) := by
    unfold diffs
    rw [← List.flatMap_append, ← e]
  rw [e2, h, diffs_snoc, hC]
  simp only [List.append_assoc]
theorem SpanIn.room {B : Nat} {w : World} {g n c : Nat} {l : List (Nat × Nat)} (h : SpanIn B w (.slice (some ⟨g, 0, none⟩) n c) l) : n ≤ c := by
  rcases h.2 with ⟨h', _⟩ | ⟨g', cap', cur, h', hb, hg, hnc, hcm, hcs, htake⟩
  · simp at h'
  · simp only [Value.slice.injEq, Option.some.injEq, Addr.mk.injEq, and_true, true_and] at h'
    obtain ⟨rfl, h2, rfl⟩ := h'
    omega
set_option maxRecDepth 100000 in
set_option maxHeartbeats 4000000 in
theorem differ_some {w : World} {Fa Fb : Nat → Prop} {ra rb size na nb : Nat} {lga lgb : Value} {Ma Mb : Nat → Nat} (ha : RamAt w Fa ra size na lga Ma) (hb : RamAt w Fb rb size nb lgb Mb) (hs : 0 < size) (hna : na ≤ 1000000) (hnb : nb ≤ 1000000) (p1 p2 : Nat) (hp1 : p1 < 1000000) (hp2 : p2 < 1000000) (hS : ∀ k, Apart Ma Mb k → k = p1 ∨ k = p2) (most : Int) (hm : 1 ≤ most) :
    Calls Try.prog 19 #[.pointer (some ⟨ra, 0, none⟩), .pointer (some ⟨rb, 0, none⟩), .int .i64 most] w fun e w' => ∃ v A, e = .returned v ∧ A.Pairwise (· < ·) ∧ (∀ x, x ∈ A ↔ Ma x ≠ Mb x) ∧ SpanIn w.heap.size w' v ((spans A).take most.toNat) ∧ Below w.heap.size w w' := by
  have A0 : Hid (RamAt w Fa ra size na lga Ma) := ha
  have B0 : Hid (RamAt w Fb rb size nb lgb Mb) := hb
  have U : Hid _ := unlike_any ha hb hs hna hnb p1 p2 hS
  have HS : Hid _ := hS
  clear ha hb hS
  have hmb : decide (most < 1) = false := by simp; omega
  go_enter Try.func19, Try.ntmps19
  go_wp2_with fail
  refine (size_any A0.out).mono ?_
  rintro e w' ⟨rfl, hw⟩
  rw [hw]
  clear hw
  go_wp2_with fail
  refine (size_any B0.out).mono ?_
  rintro e w' ⟨rfl, hw⟩
  rw [hw]
  clear hw
  go_wp2_with fail
  refine Calls.mono (by exact U.out) ?_
  rintro e w1 ⟨v, ks, rfl, hn, hpw, hk, hl, hb1⟩
  obtain ⟨av, cv, rfl⟩ := hn.form
  have hk2 : ks.length ≤ 2 := two_of (hpw.imp (fun h => Nat.ne_of_lt h)) (fun k h => HS.out k ((hk k).1 h))
  have hks : ∀ k ∈ ks, k < 1000000 := fun k h => by rcases HS.out k ((hk k).1 h) with h | h <;> omega
  have E : Hid (Nums w.heap.size w1 (.slice av ks.length cv) ks ∧ ks.Pairwise (· < ·) ∧ (∀ k, k ∈ ks ↔ Apart Ma Mb k) ∧ Below w.heap.size w w1 ∧ (∀ k ∈ ks, k < 1000000)) := ⟨hn, hpw, hk, hb1, hks⟩
  clear hn hpw hk hl hb1 hks U
  have S0 : Hid (Scan w w1 (.slice none 0 0) (diffs Ma Mb (ks.take 0)) most) := ⟨⟨rfl, .inl ⟨rfl, rfl⟩⟩, E.out.2.2.2.1, by simp [diffs, spans]; omega⟩
  have HM : Hid (∀ x, x ∈ diffs Ma Mb ks ↔ Ma x ≠ Mb x) := fun x => by
    rw [diffs_mem, E.out.2.2.1]
    refine ⟨fun h => h.2, fun h => ⟨⟨x % 4096, Nat.mod_lt _ (by decide), ?_⟩, h⟩⟩
    rw [show x / 4096 * 4096 + x % 4096 = x from by omega]; exact h
  go_wp2
  go_loopw [7, 26] (fun v jv wr => ∃ j : Nat, j ≤ ks.length ∧ jv = .int .i64 j ∧ Scan w wr v (diffs Ma Mb (ks.take j)) most ∧ ∀ g o, w1.heap[g]? = some o → av = some ⟨g, 0, none⟩ → Kept wr v g o) (fun _ jv _ => ks.length - (intOf jv).toNat)
  case atStart => exact ⟨0, by omega, rfl, S0.out, fun g o h1 h2 => ⟨h1, by simp [Value.ownBlock]⟩⟩
  case round =>
    obtain ⟨j, hj, rfl, hsc, hkp⟩ := hrel
    clear S0
    by_cases hjl : j < ks.length
    · obtain ⟨gk, cur, rfl, hgk, hcur⟩ := nums_block E.out.1 (by omega)
      have K0 : Hid (Kept wr _ gk (.cells cur 23 (0, 0))) := hkp gk _ hgk rfl
      obtain ⟨ao, co, rfl⟩ := hsc.span.form
      have hcj : wr.cell? ⟨gk, j, none⟩ = some (.int .u64 (ks.getD j 0 : Nat)) := by
        simp only [World.cell?, K0.out.1]; exact hcur j hjl
      have hmem : ks.getD j 0 ∈ ks := by rw [List.getD_eq_getElem?_getD, List.getElem?_eq_getElem hjl]; exact List.getElem_mem hjl
      have htk : ks.take (j + 1) = ks.take j ++ [ks.getD j 0] := by
        rw [List.take_succ_eq_append_getElem hjl, List.getD_eq_getElem?_getD, List.getElem?_eq_getElem hjl]; rfl
      have hkb := E.out.2.2.2.2 _ hmem
      have HTK : Hid _ := htk
      have HGK : Hid (w1.heap[gk]? = some (.cells cur 23 (0, 0))) := hgk
      have SC : Hid (Scan w wr _ (diffs Ma Mb (ks.take j)) most) := hsc
      have hji : (j : Int) < ks.length := by omega
      have hlA := diffs_len Ma Mb (ks.take j)
      have hlT : (ks.take j).length ≤ 1 := by rw [List.length_take]; omega
      have HTop : Hid (∀ i, i ≤ 4096 → (∀ a ∈ diffs Ma Mb (ks.take j) ++ diffsIn Ma Mb (ks.getD j 0) i, a < 4096004096) ∧ (spans (diffs Ma Mb (ks.take j) ++ diffsIn Ma Mb (ks.getD j 0) i)).length < 10000) := fun i hi => by
        constructor
        · intro a ha
          rcases List.mem_append.1 ha with ha | ha
          · have h1 := ((diffs_mem Ma Mb _ a).1 ha).1
            have h2 := E.out.2.2.2.2 _ (List.mem_of_mem_take h1)
            omega
          · obtain ⟨q, hq, _, rfl⟩ := (diffsIn_mem Ma Mb _ _ a).1 ha
            omega
        · have h1 := spans_len (diffs Ma Mb (ks.take j) ++ diffsIn Ma Mb (ks.getD j 0) i)
          have h2 := diffsIn_len Ma Mb (ks.getD j 0) i
          rw [List.length_append] at h1
          omega
      have HAll : Hid (∀ i, i ≤ 4096 → ∃ C, diffs Ma Mb ks = diffs Ma Mb (ks.take j) ++ diffsIn Ma Mb (ks.getD j 0) i ++ C) := fun i hi => all_split Ma Mb ks j i _ htk hi
      clear htk hsc hkp hgk hcur hmem
      generalize ks.getD j 0 = k at *
      have hki : (k : Int) < 1000000 := by omega
      go_wp2_with fail
      refine (look_far (A0.out.below SC.out.below) k (by omega)).mono ?_
      rintro e w2 ⟨pb, rfl, hpp, hb2, hfar⟩
      have S2 : Hid (Scan w w2 _ (diffs Ma Mb (ks.take j)) most) := SC.out.later hb2
      have G2 : Hid (Kept w2 _ gk (.cells cur 23 (0, 0))) := K0.out.below hb2
      have P2 : Hid (Kept w2 (.slice ao (spans (diffs Ma Mb (ks.take j))).length co) pb (.cells (pageRow (fun i => Ma (k * 4096 + i))) 93 (0, 0))) := ⟨hpp, no_own w wr _ _ SC.out.span pb (hfar.imp (fun h => A0.out.lt pb h) id)⟩
      clear hpp hb2 hfar
      go_wp2_with fail
      refine (look_far (B0.out.below S2.out.below) k (by omega)).mono ?_
      rintro e w3 ⟨qb, rfl, hqq, hb3, hfar⟩
      have S3 : Hid (Scan w w3 _ (diffs Ma Mb (ks.take j)) most) := S2.out.later hb3
      have G3 : Hid (Kept w3 _ gk (.cells cur 23 (0, 0))) := G2.out.below hb3
      have P3 : Hid (Kept w3 _ pb (.cells (pageRow (fun i => Ma (k * 4096 + i))) 93 (0, 0))) := P2.out.below hb3
      have Q3 : Hid (Kept w3 (.slice ao (spans (diffs Ma Mb (ks.take j))).length co) qb (.cells (pageRow (fun i => Mb (k * 4096 + i))) 93 (0, 0))) := ⟨hqq, no_own w w2 _ _ S2.out.span qb (hfar.imp (fun h => B0.out.lt qb h) id)⟩
      clear hqq hb3 hfar S2 G2 P2 SC K0 hcj
      go_wp2
      go_loopw [7, 36] (fun v iv wq => ∃ i : Nat, i ≤ 4096 ∧ iv = .int .i64 i ∧ Scan w wq v (diffs Ma Mb (ks.take j) ++ diffsIn Ma Mb k i) most ∧ Kept wq v gk (.cells cur 23 (0, 0)) ∧ Kept wq v pb (.cells (pageRow (fun i => Ma (k * 4096 + i))) 93 (0, 0)) ∧ Kept wq v qb (.cells (pageRow (fun i => Mb (k * 4096 + i))) 93 (0, 0))) (fun _ iv _ => 4096 - (intOf iv).toNat)
      case atStart => exact ⟨0, by omega, rfl, by rw [diffsIn_zero, List.append_nil]; exact S3.out, G3.out, P3.out, Q3.out⟩
      case round =>
        obtain ⟨i, hi, rfl, hsc, hg, hp, hq⟩ := hrel
        clear S3 G3 P3 Q3
        obtain ⟨ao, co, rfl⟩ := hsc.span.form
        have X : Hid (_ ∧ _ ∧ _ ∧ _) := ⟨hsc, hg, hp, hq⟩
        clear hsc hg hp hq
        by_cases hi4 : i < 4096
        · have hii : (i : Int) < 4096 := by omega
          have cp := page_cell X.out.2.2.1.1 i hi4
          have cq := page_cell X.out.2.2.2.1 i hi4
          by_cases heq : Ma (k * 4096 + i) = Mb (k * 4096 + i)
          · have hbe : (((Ma (k * 4096 + i) : Nat) : Int) == ((Mb (k * 4096 + i) : Nat) : Int)) = true := by rw [heq]; simp
            have HQ : Hid _ := heq
            clear heq
            generalize ((Ma (k * 4096 + i) : Nat) : Int) = xa at *
            generalize ((Mb (k * 4096 + i) : Nat) : Int) = xb at *
            go_wp2
            go_quiet (fail)
            go_wp2
            go_roundw
            case rel => exact ⟨i + 1, by omega, by go_num, by rw [diffsIn_same _ _ _ _ HQ.out]; exact X.out.1.later (below_drewN (Below.refl _ _) _), X.out.2.1.drewN _, X.out.2.2.1.drewN _, X.out.2.2.2.drewN _⟩
            case measure => simp [intOf]; omega
          · have hbe : (((Ma (k * 4096 + i) : Nat) : Int) == ((Mb (k * 4096 + i) : Nat) : Int)) = false := by simp; omega
            have HQ : Hid _ := heq
            clear heq
            generalize ((Ma (k * 4096 + i) : Nat) : Int) = xa at *
            generalize ((Mb (k * 4096 + i) : Nat) : Int) = xb at *
            go_wp2
            go_quiet (fail)
            go_wp2_with fail
            have Y : Hid (Scan w (wr.drewN nq) (.slice ao (spans (diffs Ma Mb (ks.take j) ++ diffsIn Ma Mb k i)).length co) (diffs Ma Mb (ks.take j) ++ diffsIn Ma Mb k i) most) := X.out.1.later (below_drewN (Below.refl _ _) _)
            refine (stretch_i Y.out.span _ (k * 4096 + i) (by omega) (by omega) (HTop.out i hi).2 Y.out.below.size (fun p hp => by have := spans_top _ 4096004096 (HTop.out i hi).1 p hp; omega)).mono ?_
            rintro e w4 ⟨v', rfl, hst⟩
            have hsp : SpanIn w.heap.size w4 v' (spans (diffs Ma Mb (ks.take j) ++ diffsIn Ma Mb k (i + 1))) := by
              rw [diffsIn_new _ _ _ _ HQ.out, ← List.append_assoc, spans_snoc]; exact hst.1
            have hbl : Below w.heap.size w w4 := Below.grown Y.out.below hst.2.1 Y.out.below.size (fun g hg => (Y.out.span.lt g hg).1)
            have hk3 := (X.out.2.1.drewN nq).stretched hst
            have hk4 := (X.out.2.2.1.drewN nq).stretched hst
            have hk5 := (X.out.2.2.2.drewN nq).stretched hst
            have hln := (stretchL_len (spans (diffs Ma Mb (ks.take j) ++ diffsIn Ma Mb k i)) (k * 4096 + i))
            have hle : (stretchL (spans (diffs Ma Mb (ks.take j) ++ diffsIn Ma Mb k i)) (k * 4096 + i)).length = (spans (diffs Ma Mb (ks.take j) ++ diffsIn Ma Mb k (i + 1))).length := by
              rw [diffsIn_new _ _ _ _ HQ.out, ← List.append_assoc, spans_snoc]
            clear hki hkb hp1 hp2 hna hnb hlA hlT
            by_cases hmo : ((spans (diffs Ma Mb (ks.take j) ++ diffsIn Ma Mb k (i + 1))).length : Int) ≤ most
            · obtain ⟨ao', co', rfl⟩ := hsp.form
              have Z : Hid (_ ∧ _ ∧ _ ∧ _) := ⟨(⟨hsp, hbl, hmo⟩ : Scan w w4 _ _ most), hk3, hk4, hk5⟩
              clear hst hsp hbl hk3 hk4 hk5 hln hle
              go_wp2
              go_roundw
              case rel => exact ⟨i + 1, by omega, by go_num, Z.out⟩
              case measure => simp [intOf]; omega
            · obtain ⟨g', c', rfl, _⟩ := hsp.cells (by omega)
              have hroom := hsp.room
              obtain ⟨m, rfl⟩ : ∃ m : Nat, most = m := ⟨most.toNat, by omega⟩
              have Z : Hid (_ ∧ _) := ⟨hsp, hbl⟩
              have HL : Hid (m < (spans (diffs Ma Mb (ks.take j) ++ diffsIn Ma Mb k (i + 1))).length) := by
                show m < _
                omega
              have hm1 : (m : Int) ≤ (c' : Int) := by omega
              have hm2 : (m : Int) ≤ ((spans (diffs Ma Mb (ks.take j) ++ diffsIn Ma Mb k (i + 1))).length : Int) := by omega
              clear hst hsp hbl hk3 hk4 hk5 hln hle hmo
              generalize hSL : (spans (diffs Ma Mb (ks.take j) ++ diffsIn Ma Mb k (i + 1))).length = sl at *
              have HSL : Hid _ := hSL
              clear hSL
              have hmd : decide ((m : Int) < (sl : Int)) = true := by have := HL.out; simp; omega
              go_wp2
              go_ret
              obtain ⟨C, hC⟩ := HAll.out (i + 1) (by omega)
              refine ⟨_, diffs Ma Mb ks, rfl, diffs_rise Ma Mb ks E.out.2.1, HM.out, ?_, Z.out.2⟩
              rw [Int.toNat_natCast, hC, spans_take _ C m (by rw [HSL.out]; exact HL.out)]
              exact Z.out.1.cut m (by rw [HSL.out]; exact Nat.le_of_lt HL.out)
        · obtain rfl : i = 4096 := by omega
          go_wp2
          go_roundw
          case rel => exact ⟨j + 1, by omega, by go_num, by rw [HTK.out, diffs_snoc]; exact X.out.1, fun g o h1 h2 => by cases h2; rw [HGK.out] at h1; cases h1; exact X.out.2.1⟩
          case measure => simp [intOf]; omega
    · obtain rfl : j = ks.length := by omega
      obtain ⟨ao, co, rfl⟩ := hsc.span.form
      have X : Hid _ := hsc
      clear hsc hkp
      go_wp2
      go_ret
      refine ⟨_, diffs Ma Mb ks, rfl, diffs_rise Ma Mb ks E.out.2.1, HM.out, ?_, X.out.below⟩
      have h1 := X.out.span
      have h2 := X.out.few
      rw [List.take_length] at h1 h2
      rw [show (spans (diffs Ma Mb ks)).take most.toNat = spans (diffs Ma Mb ks) from List.take_of_length_le (by omega), List.take_length]
      exact h1
/-- the numbers of the pages that differ, rising -/
theorem pages_rise {Ma Mb : Nat → Nat} (p1 p2 : Nat) (hS : ∀ k, Apart Ma Mb k → k = p1 ∨ k = p2) : ∃ ks : List Nat, ks.Pairwise (· < ·) ∧ ∀ k, k ∈ ks ↔ Apart Ma Mb k := by
  by_cases h1 : Apart Ma Mb p1 <;> by_cases h2 : Apart Ma Mb p2
  · rcases Nat.lt_trichotomy p1 p2 with h | h | h
    · exact ⟨[p1, p2], by simp [h], fun k => by simp; exact ⟨fun e => by rcases e with rfl | rfl <;> assumption, hS k⟩⟩
    · subst h; exact ⟨[p1], by simp, fun k => by simp; exact ⟨fun e => by subst e; exact h1, fun e => by have := hS k e; omega⟩⟩
    · exact ⟨[p2, p1], by simp [h], fun k => by simp; exact ⟨fun e => by rcases e with rfl | rfl <;> assumption, fun e => (hS k e).symm⟩⟩
  · exact ⟨[p1], by simp, fun k => by simp; exact ⟨fun e => by subst e; exact h1, fun e => by rcases hS k e with rfl | rfl; rfl; exact absurd e h2⟩⟩
  · exact ⟨[p2], by simp, fun k => by simp; exact ⟨fun e => by subst e; exact h2, fun e => by rcases hS k e with rfl | rfl; exact absurd e h1; rfl⟩⟩
  · exact ⟨[], by simp, fun k => by simp; exact fun e => by rcases hS k e with rfl | rfl; exact h1 e; exact h2 e⟩
theorem addresses_rise {Ma Mb : Nat → Nat} (p1 p2 : Nat) (hS : ∀ k, Apart Ma Mb k → k = p1 ∨ k = p2) : ∃ A : List Nat, A.Pairwise (· < ·) ∧ ∀ x, x ∈ A ↔ Ma x ≠ Mb x := by
  obtain ⟨ks, h1, h2⟩ := pages_rise p1 p2 hS
  refine ⟨diffs Ma Mb ks, diffs_rise Ma Mb ks h1, fun x => ?_⟩
  rw [diffs_mem, h2]
  refine ⟨fun h => h.2, fun h => ⟨⟨x % 4096, Nat.mod_lt _ (by decide), ?_⟩, h⟩⟩
  rw [show x / 4096 * 4096 + x % 4096 = x from by omega]; exact h
set_option maxRecDepth 100000 in
set_option maxHeartbeats 1000000 in
theorem differ_none {w : World} {Fa Fb : Nat → Prop} {ra rb size na nb : Nat} {lga lgb : Value} {Ma Mb : Nat → Nat} (ha : RamAt w Fa ra size na lga Ma) (hb : RamAt w Fb rb size nb lgb Mb) (most : Int) (hm : most < 1) :
    Calls Try.prog 19 #[.pointer (some ⟨ra, 0, none⟩), .pointer (some ⟨rb, 0, none⟩), .int .i64 most] w fun e w' => e = .returned (.slice none 0 0) ∧ w' = w := by
  have A0 : Hid (RamAt w Fa ra size na lga Ma) := ha
  have B0 : Hid (RamAt w Fb rb size nb lgb Mb) := hb
  clear ha hb
  have hmb : decide (most < 1) = true := by simp; omega
  go_enter Try.func19, Try.ntmps19
  go_wp2_with fail
  refine (size_any A0.out).mono ?_
  rintro e w' ⟨rfl, hw⟩
  rw [hw]
  clear hw
  go_wp2_with fail
  refine (size_any B0.out).mono ?_
  rintro e w' ⟨rfl, hw⟩
  rw [hw]
  clear hw
  go_wp2
  go_ret
  exact ⟨rfl, rfl⟩
/-- where two memories of one size differ, piece by piece -/
theorem differ_any {w : World} {Fa Fb : Nat → Prop} {ra rb size na nb : Nat} {lga lgb : Value} {Ma Mb : Nat → Nat} (ha : RamAt w Fa ra size na lga Ma) (hb : RamAt w Fb rb size nb lgb Mb) (hs : 0 < size) (hna : na ≤ 1000000) (hnb : nb ≤ 1000000) (p1 p2 : Nat) (hp1 : p1 < 1000000) (hp2 : p2 < 1000000) (hS : ∀ k, Apart Ma Mb k → k = p1 ∨ k = p2) (most : Int) (A : List Nat) (hA : A.Pairwise (· < ·)) (hM : ∀ x, x ∈ A ↔ Ma x ≠ Mb x) :
    Calls Try.prog 19 #[.pointer (some ⟨ra, 0, none⟩), .pointer (some ⟨rb, 0, none⟩), .int .i64 most] w fun e w' => ∃ v, e = .returned v ∧ SpanIn w.heap.size w' v ((spans A).take most.toNat) ∧ Below w.heap.size w w' := by
  by_cases hm : 1 ≤ most
  · refine (differ_some ha hb hs hna hnb p1 p2 hp1 hp2 hS most hm).mono ?_
    rintro e w' ⟨v, A', rfl, h1, h2, h3, h4⟩
    obtain rfl := rise_one A A' hA h1 (fun x => by rw [hM, h2])
    exact ⟨v, rfl, h3, h4⟩
  · refine (differ_none ha hb most (by omega)).mono ?_
    rintro e w' ⟨rfl, rfl⟩
    rw [show most.toNat = 0 from by omega]
    exact ⟨_, rfl, ⟨rfl, .inl ⟨rfl, rfl⟩⟩, Below.refl _ _⟩
end Go.Proofs.Ytmjdnocilbnoaaa

/- What differs between two memories of 8192 bytes. -/
namespace Go.Proofs.Ytmjdnocilbnoaaa
open Go.RowKit Go.Maps
set_option linter.unusedVariables false
set_option linter.unusedSimpArgs false
set_option maxRecDepth 100000


theorem two_len {ks : List Nat} {p1 p2 : Nat} (hk : ks.Pairwise (· < ·)) (h : ∀ k ∈ ks, k = p1 ∨ k = p2) : ks.length ≤ 2 := two_of (hk.imp (fun h => Nat.ne_of_lt h)) h
theorem few_spans {M Mc : Nat → Nat} {A : List Nat} {p1 p2 : Nat} (hA : A.Pairwise (· < ·)) (hM : ∀ x, x ∈ A ↔ M x ≠ Mc x) (hS : ∀ k, Apart M Mc k → k = p1 ∨ k = p2) : (spans A).length ≤ 10000 := by
  obtain ⟨ks, h1, h2⟩ := pages_rise p1 p2 hS
  have e : A = diffs M Mc ks := rise_one _ _ hA (diffs_rise M Mc ks h1) (fun x => by
    rw [hM, diffs_mem, h2]
    refine ⟨fun h => ⟨⟨x % 4096, Nat.mod_lt _ (by decide), ?_⟩, h⟩, fun h => h.2⟩
    rw [show x / 4096 * 4096 + x % 4096 = x from by omega]; exact h)
  have h3 := diffs_len M Mc ks
  have h4 : ks.length ≤ 2 := two_len h1 (fun k hk => hS k ((h2 k).1 hk))
  have h5 := spans_len A
  rw [e] at h5 ⊢
  omega
theorem snoc_ind {P : List Nat → Prop} (h0 : P []) (h1 : ∀ A x, P A → P (A ++ [x])) : ∀ A, P A := by
  intro A
  generalize hn : A.length = n
  induction n generalizing A with
  | zero => rw [List.eq_nil_of_length_eq_zero hn]; exact h0
  | succ n ih =>
    rcases List.eq_nil_or_concat A with rfl | ⟨B, x, rfl⟩
    · cases hn
    · rw [List.concat_eq_append]
      exact h1 B x (ih B (by simp at hn; exact hn))
theorem spans_in (A : List Nat) : ∀ p ∈ spans A, 1 ≤ p.2 ∧ ∀ i, i < p.2 → p.1 + i ∈ A := by
  refine snoc_ind (P := fun A => ∀ p ∈ spans A, 1 ≤ p.2 ∧ ∀ i, i < p.2 → p.1 + i ∈ A) ?_ ?_ A
  · intro p hp; simp [spans] at hp
  · intro A x ih
    intro p hp
    rw [spans_snoc] at hp
    rcases stretchL_cases (spans A) x with h | ⟨r, q, L, h1, h2, h3⟩
    · rw [h] at hp
      rcases List.mem_append.1 hp with h4 | h4
      · exact ⟨(ih p h4).1, fun i hi => List.mem_append.2 (.inl ((ih p h4).2 i hi))⟩
      · simp at h4
        subst h4
        refine ⟨Nat.le_refl _, fun i hi => List.mem_append.2 (.inr ?_)⟩
        simp at hi ⊢
        omega
    · rw [h3] at hp
      rcases List.mem_append.1 hp with h4 | h4
      · have h5 := ih p (by rw [h1]; exact List.mem_append.2 (.inl h4))
        exact ⟨h5.1, fun i hi => List.mem_append.2 (.inl (h5.2 i hi))⟩
      · simp at h4
        subst h4
        have h5 := ih (q, L) (by rw [h1]; simp)
        refine ⟨by simp, fun i hi => List.mem_append.2 ?_⟩
        simp at hi h5 ⊢
        by_cases hiL : i < L
        · exact .inl (h5.2 i hiL)
        · right; omega
end Go.Proofs.Ytmjdnocilbnoaaa

/- QueueWrites: what is told to differ. -/
namespace Go.Proofs.Ytmjdnocilbnoaaa
open Go.RowKit Go.Maps
set_option linter.unusedVariables false
set_option linter.unusedSimpArgs false
set_option maxRecDepth 100000
theorem in_place {n D A U x : Nat} {ms : List Seg} (hg : Gd n D A U) (hok : ∀ s ∈ ms, SegOk s) (h : inU n U x ∨ inW ms x) : 2147483648 ≤ x ∧ x < 2147491840 := by
  rcases h with ⟨h1, h2⟩ | ⟨s, hs, _, h1, h2⟩
  · have := hg.u1
    have := hg.u2
    omega
  · have := in_len (hok s hs).i
    omega
/-- what is told to differ behind a service -/
theorem spans_told {V : World} {F F2 : Nat → Prop} {rb rb2 κ : Nat} {M Mx : Nat → Nat} {n D A U : Nat} {ms : List Seg} (h1 : RamAt V F2 rb2 8192 12000 (.pointer none) M) (h2 : RamAt V F rb 8192 κ (.pointer none) Mx) (hκ : κ ≤ 1000000) (hin : ∀ x, Mx x ≠ M x → inU n U x ∨ inW ms x) (hg : Gd n D A U) (hok : ∀ s ∈ ms, SegOk s) (most : Int) :
    ∃ l : List (Nat × Nat), l.length ≤ 10000 ∧ (∀ V', Below V.heap.size V V' → Calls Try.prog 19 #[.pointer (some ⟨rb2, 0, none⟩), .pointer (some ⟨rb, 0, none⟩), .int .i64 most] V' fun e w' => ∃ v, e = .returned v ∧ SpanIn V'.heap.size w' v l ∧ Below V'.heap.size V' w') ∧ ∀ p ∈ l, 1 ≤ p.2 ∧ 2147483648 ≤ p.1 ∧ p.1 + p.2 ≤ 2147491840 ∧ ∀ i, i < p.2 → inU n U (p.1 + i) ∨ inW ms (p.1 + i) := by
  have hS : ∀ k, Apart M Mx k → k = 524288 ∨ k = 524289 := by
    rintro k ⟨i, hi, hne⟩
    have := in_place hg hok (hin _ (fun e => hne e.symm))
    omega
  obtain ⟨Al, hA, hM⟩ := addresses_rise 524288 524289 hS
  have LA := few_spans hA hM hS
  refine ⟨(spans Al).take most.toNat, by rw [List.length_take]; omega, ?_, ?_⟩
  · intro V' hV
    exact differ_any (h1.below hV) (h2.below hV) (by omega) (by omega) hκ 524288 524289 (by omega) (by omega) hS most Al hA hM
  · intro p hp
    obtain ⟨q1, q2⟩ := spans_in Al p (List.mem_of_mem_take hp)
    have key : ∀ i, i < p.2 → inU n U (p.1 + i) ∨ inW ms (p.1 + i) := fun i hi => hin _ (fun e => (hM _).1 (q2 i hi) e.symm)
    have a1 := in_place hg hok (key 0 (by omega))
    have a2 := in_place hg hok (key (p.2 - 1) (by omega))
    exact ⟨q1, by omega, by omega, key⟩
end Go.Proofs.Ytmjdnocilbnoaaa

/- The statements' right and Of. -/
namespace Go.Proofs.Ytmjdnocilbnoaaa
open Go.RowKit Go.Maps
set_option linter.unusedVariables false
set_option linter.unusedSimpArgs false
set_option maxRecDepth 100000
def inQ (fi ui : Int) : Prop := 0 ≤ fi ∧ fi < 65536 ∧ 0 ≤ ui ∧ ui < 65536
theorem inQ_nat {fi ui : Int} (h : inQ fi ui) : ∃ fe us : Nat, fi = (fe : Int) ∧ ui = (us : Int) ∧ fe ≤ 65535 ∧ us ≤ 65535 := by
  obtain ⟨h1, h2, h3, h4⟩ := h
  exact ⟨fi.toNat, ui.toNat, by omega, by omega, by omega, by omega⟩
theorem right_no {w : World} {s : Int} {D A U : Nat} {rd ev al : Bool} {fi ui : Int} (h : ¬ inQ fi ui) : Calls Try.prog 7 #[.agg #[.int .i64 s, .int .u64 (D : Int), .int .u64 (A : Int), .int .u64 (U : Int), .bool rd, .int .i64 fi, .int .i64 ui, .bool ev, .bool al]] w fun e w' => e = .returned (.bool false) ∧ Below w.heap.size w w' := by
  have X : Hid ((w.alloc (.cells #[.int .i64 s, .int .u64 (D : Int), .int .u64 (A : Int), .int .u64 (U : Int), .bool rd, .int .i64 fi, .int .i64 ui, .bool ev, .bool al] 27)).heap[w.heap.size]? = some (.cells #[.int .i64 s, .int .u64 (D : Int), .int .u64 (A : Int), .int .u64 (U : Int), .bool rd, .int .i64 fi, .int .i64 ui, .bool ev, .bool al] 27 (0, 0)) ∧ Below w.heap.size w (w.alloc (.cells #[.int .i64 s, .int .u64 (D : Int), .int .u64 (A : Int), .int .u64 (U : Int), .bool rd, .int .i64 fi, .int .i64 ui, .bool ev, .bool al] 27))) := ⟨heap_alloc_new _ _, one_box _ _⟩
  have h' : ¬ (0 ≤ fi ∧ fi < 65536 ∧ 0 ≤ ui ∧ ui < 65536) := h
  have key : (¬ 0 ≤ fi) ∨ (0 ≤ fi ∧ ¬ fi < 65536) ∨ (0 ≤ fi ∧ fi < 65536 ∧ ¬ 0 ≤ ui) ∨ (0 ≤ fi ∧ fi < 65536 ∧ 0 ≤ ui ∧ ¬ ui < 65536) := by omega
  clear h h'
  rcases key with h1 | ⟨h1, h2⟩ | ⟨h1, h2, h3⟩ | ⟨h1, h2, h3, h4⟩
  all_goals
    go_enter Try.func7, Try.ntmps7
    go_upto_region 1 with fail
    generalize w.alloc (.cells #[.int .i64 s, .int .u64 (D : Int), .int .u64 (A : Int), .int .u64 (U : Int), .bool rd, .int .i64 fi, .int .i64 ui, .bool ev, .bool al] 27) = v0 at *
    obtain ⟨c0, c1, c2, c3, c4, c5, c6, c7, c8⟩ := box9_facts X.out.1
    go_wp2_with fail
    go_ret
    exact ⟨rfl, X.out.2⟩
theorem right_yes {w : World} {s : Int} {D A U : Nat} {rd ev al : Bool} {fe us : Nat} (hf : fe ≤ 65535) (hu : us ≤ 65535) : Calls Try.prog 7 #[.agg #[.int .i64 s, .int .u64 (D : Int), .int .u64 (A : Int), .int .u64 (U : Int), .bool rd, .int .i64 (fe : Int), .int .i64 (us : Int), .bool ev, .bool al]] w fun e w' => e = .returned (.bool true) ∧ Below w.heap.size w w' := by
  have X : Hid ((w.alloc (.cells #[.int .i64 s, .int .u64 (D : Int), .int .u64 (A : Int), .int .u64 (U : Int), .bool rd, .int .i64 (fe : Int), .int .i64 (us : Int), .bool ev, .bool al] 27)).heap[w.heap.size]? = some (.cells #[.int .i64 s, .int .u64 (D : Int), .int .u64 (A : Int), .int .u64 (U : Int), .bool rd, .int .i64 (fe : Int), .int .i64 (us : Int), .bool ev, .bool al] 27 (0, 0)) ∧ Below w.heap.size w (w.alloc (.cells #[.int .i64 s, .int .u64 (D : Int), .int .u64 (A : Int), .int .u64 (U : Int), .bool rd, .int .i64 (fe : Int), .int .i64 (us : Int), .bool ev, .bool al] 27))) := ⟨heap_alloc_new _ _, one_box _ _⟩
  have h1 : (0 : Int) ≤ (fe : Int) := by omega
  have h2 : (fe : Int) < 65536 := by omega
  have h3 : (0 : Int) ≤ (us : Int) := by omega
  have h4 : (us : Int) < 65536 := by omega
  clear hf hu
  go_enter Try.func7, Try.ntmps7
  go_upto_region 1 with fail
  generalize w.alloc (.cells #[.int .i64 s, .int .u64 (D : Int), .int .u64 (A : Int), .int .u64 (U : Int), .bool rd, .int .i64 (fe : Int), .int .i64 (us : Int), .bool ev, .bool al] 27) = v0 at *
  obtain ⟨c0, c1, c2, c3, c4, c5, c6, c7, c8⟩ := box9_facts X.out.1
  go_wp2_with fail
  go_ret
  exact ⟨rfl, X.out.2⟩
theorem infoQ : (Try.prog.info? 40).map (·.size) = some 9 := by kernel_rfl
theorem u16_id {m : Nat} (h : m ≤ 65535) : IntKind.u16.wrap (m : Int) = (m : Int) := by
  simp only [IntKind.wrap, IntKind.signed, IntKind.bits]
  simp
  try omega
theorem lawOf_any {w : World} {s : Int} {D A U : Nat} {rd ev al : Bool} {fe us : Nat} (hf : fe ≤ 65535) (hu : us ≤ 65535) : Calls Try.prog 10 #[.agg #[.int .i64 s, .int .u64 (D : Int), .int .u64 (A : Int), .int .u64 (U : Int), .bool rd, .int .i64 (fe : Int), .int .i64 (us : Int), .bool ev, .bool al]] w fun e w' => e = .returned (.agg #[.int .i64 s, .int .u64 (D : Int), .int .u64 (A : Int), .int .u64 (U : Int), .bool rd, .int .u16 (fe : Int), .int .u16 (us : Int), .bool ev, .bool al]) ∧ Below w.heap.size w w' := by
  have h2 := two_in w (.cells #[.int .i64 s, .int .u64 (D : Int), .int .u64 (A : Int), .int .u64 (U : Int), .bool rd, .int .i64 (fe : Int), .int .i64 (us : Int), .bool ev, .bool al] 27) (.cells #[.int .i64 0, .int .u64 0, .int .u64 0, .int .u64 0, .bool false, .int .u16 0, .int .u16 0, .bool false, .bool false] 40)
  have hb : Below w.heap.size w ((w.alloc (.cells #[.int .i64 s, .int .u64 (D : Int), .int .u64 (A : Int), .int .u64 (U : Int), .bool rd, .int .i64 (fe : Int), .int .i64 (us : Int), .bool ev, .bool al] 27)).alloc (.cells #[.int .i64 0, .int .u64 0, .int .u64 0, .int .u64 0, .bool false, .int .u16 0, .int .u16 0, .bool false, .bool false] 40)) := ((Below.refl _ _).alloc (Nat.le_refl _) _).alloc (by simp) _
  have X : Hid (((w.alloc (.cells #[.int .i64 s, .int .u64 (D : Int), .int .u64 (A : Int), .int .u64 (U : Int), .bool rd, .int .i64 (fe : Int), .int .i64 (us : Int), .bool ev, .bool al] 27)).alloc (.cells #[.int .i64 0, .int .u64 0, .int .u64 0, .int .u64 0, .bool false, .int .u16 0, .int .u16 0, .bool false, .bool false] 40)).heap[w.heap.size]? = some (.cells #[.int .i64 s, .int .u64 (D : Int), .int .u64 (A : Int), .int .u64 (U : Int), .bool rd, .int .i64 (fe : Int), .int .i64 (us : Int), .bool ev, .bool al] 27 (0, 0)) ∧ ((w.alloc (.cells #[.int .i64 s, .int .u64 (D : Int), .int .u64 (A : Int), .int .u64 (U : Int), .bool rd, .int .i64 (fe : Int), .int .i64 (us : Int), .bool ev, .bool al] 27)).alloc (.cells #[.int .i64 0, .int .u64 0, .int .u64 0, .int .u64 0, .bool false, .int .u16 0, .int .u16 0, .bool false, .bool false] 40)).heap[w.heap.size + 1]? = some (.cells #[.int .i64 0, .int .u64 0, .int .u64 0, .int .u64 0, .bool false, .int .u16 0, .int .u16 0, .bool false, .bool false] 40 (0, 0)) ∧ Below w.heap.size w ((w.alloc (.cells #[.int .i64 s, .int .u64 (D : Int), .int .u64 (A : Int), .int .u64 (U : Int), .bool rd, .int .i64 (fe : Int), .int .i64 (us : Int), .bool ev, .bool al] 27)).alloc (.cells #[.int .i64 0, .int .u64 0, .int .u64 0, .int .u64 0, .bool false, .int .u16 0, .int .u16 0, .bool false, .bool false] 40))) := ⟨h2.1, h2.2, hb⟩
  have e1 := u16_id hf
  have e2 := u16_id hu
  clear hf hu h2 hb
  go_enter Try.func10, Try.ntmps10
  go_upto_region 1 with fail
  generalize (w.alloc (.cells #[.int .i64 s, .int .u64 (D : Int), .int .u64 (A : Int), .int .u64 (U : Int), .bool rd, .int .i64 (fe : Int), .int .i64 (us : Int), .bool ev, .bool al] 27)).alloc (.cells #[.int .i64 0, .int .u64 0, .int .u64 0, .int .u64 0, .bool false, .int .u16 0, .int .u16 0, .bool false, .bool false] 40) = v0 at *
  obtain ⟨c0, c1, c2, c3, c4, c5, c6, c7, c8⟩ := box9_facts X.out.1
  refine wp_region_list ?_
  (refine wpList_step (fun KK hKK => ?_); go_simp; refine hKK _ _ ?_; clear hKK KK)
  (refine wpList_step (fun KK hKK => ?_); go_simp; refine hKK _ _ ?_; clear hKK KK)
  (refine wpList_step (fun KK hKK => ?_); go_simp; refine hKK _ _ ?_; clear hKK KK)
  (refine wpList_step (fun KK hKK => ?_); go_simp; refine hKK _ _ ?_; clear hKK KK)
  (refine wpList_step (fun KK hKK => ?_); go_simp; refine hKK _ _ ?_; clear hKK KK)
  (refine wpList_step (fun KK hKK => ?_); go_simp; refine hKK _ _ ?_; clear hKK KK)
  (refine wpList_step (fun KK hKK => ?_); go_simp; refine hKK _ _ ?_; clear hKK KK)
  (refine wpList_step (fun KK hKK => ?_); go_simp; refine hKK _ _ ?_; clear hKK KK)
  (refine wpList_step (fun KK hKK => ?_); go_simp; refine hKK _ _ ?_; clear hKK KK)
  (refine wpList_step (fun KK hKK => ?_); go_simp; refine hKK _ _ ?_; clear hKK KK)
  (refine wpList_step (fun KK hKK => ?_); go_simp; refine hKK _ _ ?_; clear hKK KK)
  (refine wpList_step (fun KK hKK => ?_); go_simp; refine hKK _ _ ?_; clear hKK KK)
  (refine wpList_step (fun KK hKK => ?_); go_simp; refine hKK _ _ ?_; clear hKK KK)
  (refine wpList_step (fun KK hKK => ?_); go_simp; refine hKK _ _ ?_; clear hKK KK)
  (refine wpList_step (fun KK hKK => ?_); go_simp; refine hKK _ _ ?_; clear hKK KK)
  refine wpList_store_row rfl 40 _ _ rfl (w.heap.size + 1) #[.int .i64 s, .int .u64 (D : Int), .int .u64 (A : Int), .int .u64 (U : Int), .bool rd, .int .u16 (fe : Int), .int .u16 (us : Int), .bool ev, .bool al] rfl rfl 40 #[.int .i64 0, .int .u64 0, .int .u64 0, .int .u64 0, .bool false, .int .u16 0, .int .u16 0, .bool false, .bool false] X.out.2.1 infoQ rfl (by simp [Value.oneCell']) ?_
  have Y : Hid ((v0.setRow (w.heap.size + 1) #[.int .i64 s, .int .u64 (D : Int), .int .u64 (A : Int), .int .u64 (U : Int), .bool rd, .int .u16 (fe : Int), .int .u16 (us : Int), .bool ev, .bool al]).heap[w.heap.size + 1]? = some (.cells #[.int .i64 s, .int .u64 (D : Int), .int .u64 (A : Int), .int .u64 (U : Int), .bool rd, .int .u16 (fe : Int), .int .u16 (us : Int), .bool ev, .bool al] 40 (0, 0)) ∧ Below w.heap.size w (v0.setRow (w.heap.size + 1) #[.int .i64 s, .int .u64 (D : Int), .int .u64 (A : Int), .int .u64 (U : Int), .bool rd, .int .u16 (fe : Int), .int .u16 (us : Int), .bool ev, .bool al])) := ⟨setRow_heap _ _ _ _ _ _ X.out.2.1, below_setRow X.out.2.2 (by omega) _⟩
  clear X c0 c1 c2 c3 c4 c5 c6 c7 c8
  generalize v0.setRow (w.heap.size + 1) #[.int .i64 s, .int .u64 (D : Int), .int .u64 (A : Int), .int .u64 (U : Int), .bool rd, .int .u16 (fe : Int), .int .u16 (us : Int), .bool ev, .bool al] = w9 at *
  obtain ⟨k0, k1, k2, k3, k4, k5, k6, k7, k8⟩ := box9_facts Y.out.1
  go_wp2_with fail
  refine bodyPost_ret (v := .agg #[.int .i64 s, .int .u64 (D : Int), .int .u64 (A : Int), .int .u64 (U : Int), .bool rd, .int .u16 (fe : Int), .int .u16 (us : Int), .bool ev, .bool al]) (by simp [results, Try.results10, go_sem, k0, k1, k2, k3, k4, k5, k6, k7, k8]) rfl ?_
  exact ⟨rfl, Y.out.2⟩
end Go.Proofs.Ytmjdnocilbnoaaa

/- The statements' serve. -/
namespace Go.Proofs.Ytmjdnocilbnoaaa
open Go.RowKit Go.Maps
set_option linter.unusedVariables false
set_option linter.unusedSimpArgs false
set_option maxRecDepth 100000
theorem RamAt.more {w : World} {F G : Nat → Prop} {rb size n : Nat} {lg : Value} {M : Nat → Nat} (h : RamAt w F rb size n lg M) (hG : ∀ k, F k → G k) (hl : ∀ k, G k → k < w.heap.size) : RamAt w G rb size n lg M := by
  obtain ⟨bm, pg, D, h1, h2, h3, h4, h5, h6, f1, f2, f3, f4, h7⟩ := h
  exact ⟨bm, pg, D, h1, h2, h3, h4, h5, h6, hG _ f1, hG _ f2, fun k b hk => hG _ (f3 k b hk), hl, h7⟩
/-- behind the device's own boxes -/
theorem serve_end {w v0 w' : World} {F F' O O' : Nat → Prop} {qb : Nat} (hb : Below w.heap.size w v0) (hO : ∀ k, O k → w.heap.size ≤ k) (hs : Step (fun k => (F k ∨ O k) ∨ k = qb) v0 (fun k => (F' k ∨ O' k) ∨ k = qb) w') : Step (fun k => F k ∨ k = qb) w (fun k => (F' k ∨ O' k) ∨ k = qb) w' :=
  ⟨hs.os.trans hb.os, hs.tape.trans hb.tape, hs.output.trans hb.output, Nat.le_trans hb.size hs.size, fun k hk hn => (hs.block k (Nat.lt_of_lt_of_le hk hb.size) (fun hc => by
      rcases hc with (hc | hc) | hc
      · exact hn (.inl hc)
      · have := hO k hc; omega
      · exact hn (.inr hc))).trans (hb.block k hk), fun k hk => by
      rcases hs.old k hk with ((h | h) | h) | h
      · exact .inl (.inl h)
      · exact .inr (hO k h)
      · exact .inl (.inr h)
      · exact .inr (Nat.le_trans hb.size h), fun k hk => by
      rcases hk with hk | hk
      · exact hs.keep k (.inl (.inl hk))
      · exact .inr hk⟩
theorem if_lt {rb b ro mo bo t : Nat} {O : Nat → Prop} {w : World} (h : If rb b ro mo bo t O w) : ∀ k, O k → k < w.heap.size := by
  obtain ⟨rfl, h1, h2, h3, _⟩ := h
  rintro k (rfl | rfl | rfl)
  · exact (Array.getElem?_eq_some_iff.1 h1).1
  · exact (Array.getElem?_eq_some_iff.1 h2).1
  · exact (Array.getElem?_eq_some_iff.1 h3).1
set_option maxHeartbeats 1000000 in
theorem law_good {w : World} {F : Nat → Prop} {rb κ : Nat} {M : Nat → Nat} (hr : RamAt w F rb 8192 κ (.pointer none) M) {qb : Nat} {n D A U : Nat} {ev al : Bool} {fe us : Nat} (hq : w.heap[qb]? = some (.cells #[.int .i64 (n : Int), .int .u64 (D : Int), .int .u64 (A : Int), .int .u64 (U : Int), .bool true, .int .u16 (fe : Int), .int .u16 (us : Int), .bool ev, .bool al] 40 (0, 0))) (hg : Gd n D A U) (hF : ¬ F qb) (hfe : fe ≤ 65535) (hus : us ≤ 65535) (b t : Nat) (hb : b ≤ 255) (ht : t ≤ 40) (hκ : κ + budF t ≤ 900000) (R : Gv Nat) (hR : giveR (devF b) (n : Int) D A U true al 65537 t M fe us = R) : Calls Try.prog 22 #[.pointer (some ⟨rb, 0, none⟩), .pointer (some ⟨qb, 0, none⟩), .int .u8 (b : Int), .int .i64 (t : Int)] w fun r w' => r = .returned (.tuple #[.bool (tellB (endM R n U ev) n A R.us us ev), .int .i64 R.e]) ∧ ∃ (F' : Nat → Prop) (κ' : Nat), RamAt w' F' rb 8192 κ' (.pointer none) (endM R n U ev) ∧ w'.heap[qb]? = some (.cells #[.int .i64 (n : Int), .int .u64 (D : Int), .int .u64 (A : Int), .int .u64 (U : Int), .bool true, .int .u16 (R.fe : Int), .int .u16 (R.us : Int), .bool ev, .bool al] 40 (0, 0)) ∧ ¬ F' qb ∧ κ' ≤ 900002 ∧ Step (fun k => F k ∨ k = qb) w (fun k => F' k ∨ k = qb) w' := by
  have hmf : ∀ (fn : Fn) (first cap : Array Value) (w : World), (Instr.makeFunc fn first cap).run Try.prog w = .ok (.func fn first cap) w := fun _ _ _ _ => rfl
  have h3 := three_in w (.cells #[.pointer (some ⟨rb, 0, none⟩)] 29) (.cells #[.int .u8 (b : Int)] 5) (.cells #[.int .i64 (t : Int)] 3)
  have XB : Hid (Below w.heap.size w (((w.alloc (.cells #[.pointer (some ⟨rb, 0, none⟩)] 29)).alloc (.cells #[.int .u8 (b : Int)] 5)).alloc (.cells #[.int .i64 (t : Int)] 3)) ∧ (((w.alloc (.cells #[.pointer (some ⟨rb, 0, none⟩)] 29)).alloc (.cells #[.int .u8 (b : Int)] 5)).alloc (.cells #[.int .i64 (t : Int)] 3)).heap[w.heap.size]? = some (.cells #[.pointer (some ⟨rb, 0, none⟩)] 29 (0, 0)) ∧ 0 = 0) := ⟨h3.2.2.2, h3.1, rfl⟩
  have hgl : Gl (If rb b (w.heap.size + 2) (w.heap.size) (w.heap.size + 1)) budF rb qb (n : Int) D A U true ev al (((w.alloc (.cells #[.pointer (some ⟨rb, 0, none⟩)] 29)).alloc (.cells #[.int .u8 (b : Int)] 5)).alloc (.cells #[.int .i64 (t : Int)] 3)) F (fun k => k = w.heap.size + 2 ∨ k = w.heap.size ∨ k = w.heap.size + 1) (((w.alloc (.cells #[.pointer (some ⟨rb, 0, none⟩)] 29)).alloc (.cells #[.int .u8 (b : Int)] 5)).alloc (.cells #[.int .i64 (t : Int)] 3)) t M fe us F (fun k => k = w.heap.size + 2 ∨ k = w.heap.size ∨ k = w.heap.size + 1) κ := ⟨hr.below h3.2.2.2, below_box hq h3.2.2.2, ⟨rfl, h3.2.2.1, h3.1, h3.2.1, by omega, by omega, ht⟩, by
    have hql := (Array.getElem?_eq_some_iff.1 hq).1
    rintro k (rfl | rfl | rfl)
    · exact ⟨fun hf => by have := hr.lt _ hf; omega, by omega⟩
    · exact ⟨fun hf => by have := hr.lt _ hf; omega, by omega⟩
    · exact ⟨fun hf => by have := hr.lt _ hf; omega, by omega⟩, hF, hκ, Step.refl _ _⟩
  have KS : Hid (Calls Try.prog 11 #[.pointer (some ⟨qb, 0, none⟩), .pointer (some ⟨rb, 0, none⟩), .func (.func 44) #[] #[.pointer (some ⟨w.heap.size + 2, 0, none⟩), .pointer (some ⟨w.heap.size, 0, none⟩), .pointer (some ⟨w.heap.size + 1, 0, none⟩)]] (((w.alloc (.cells #[.pointer (some ⟨rb, 0, none⟩)] 29)).alloc (.cells #[.int .u8 (b : Int)] 5)).alloc (.cells #[.int .i64 (t : Int)] 3)) fun e w' => e = .returned (.tuple #[.bool (tellB (endM R n U ev) n A R.us us ev), .int .i64 R.e]) ∧ Send (If rb b (w.heap.size + 2) (w.heap.size) (w.heap.size + 1)) rb qb n D A U ev al (((w.alloc (.cells #[.pointer (some ⟨rb, 0, none⟩)] 29)).alloc (.cells #[.int .u8 (b : Int)] 5)).alloc (.cells #[.int .i64 (t : Int)] 3)) F (fun k => k = w.heap.size + 2 ∨ k = w.heap.size ∨ k = w.heap.size + 1) R w') := serve_any (dev_serve rb b _ _ _ hb) hg hfe hus hgl R hR
  clear hr hq hF hg hfe hus hb ht hκ hgl h3 hR
  obtain ⟨tb, htb⟩ : ∃ tb, tellB (endM R n U ev) n A R.us us ev = tb := ⟨_, rfl⟩
  rw [htb] at KS ⊢
  clear htb
  go_enter Try.func22, Try.ntmps22
  go_upto_region 1 with fail
  generalize ((w.alloc (.cells #[.pointer (some ⟨rb, 0, none⟩)] 29)).alloc (.cells #[.int .u8 (b : Int)] 5)).alloc (.cells #[.int .i64 (t : Int)] 3) = v0 at *
  obtain ⟨m0, m1⟩ := box1_facts XB.out.2.1
  go_wp2_with (go_at_call 11; refine (KS.out).mono ?_; rintro e w1 ⟨rfl, F1, O1, κ1, hr1, hq1, hi1, hO1, hn1, hk1, hs1⟩; have X1 : Hid (RamAt w1 F1 rb 8192 κ1 (.pointer none) (endM R n U ev) ∧ w1.heap[qb]? = some (.cells #[.int .i64 (n : Int), .int .u64 (D : Int), .int .u64 (A : Int), .int .u64 (U : Int), .bool true, .int .u16 (R.fe : Int), .int .u16 (R.us : Int), .bool ev, .bool al] 40 (0, 0)) ∧ If rb b (w.heap.size + 2) (w.heap.size) (w.heap.size + 1) R.s O1 w1 ∧ (∀ k, O1 k → ¬ F1 k ∧ k ≠ qb) ∧ ¬ F1 qb ∧ κ1 ≤ 900002 ∧ Step (fun k => (F k ∨ (fun k => k = w.heap.size + 2 ∨ k = w.heap.size ∨ k = w.heap.size + 1) k) ∨ k = qb) v0 (fun k => (F1 k ∨ O1 k) ∨ k = qb) w1) := ⟨hr1, hq1, hi1, hO1, hn1, hk1, hs1⟩; clear hr1 hq1 hi1 hO1 hn1 hk1 hs1)
  go_ret2
  obtain ⟨x1, x2, x3, x4, x5, x6, x7⟩ := X1.out
  exact ⟨rfl, fun k => F1 k ∨ O1 k, κ1, x1.more (fun k hk => .inl hk) (fun k hk => hk.elim (x1.lt k) (if_lt x3 k)), x2, fun hc => hc.elim x5 (fun ho => (x4 qb ho).2 rfl), x6, serve_end XB.out.1 (by rintro k (rfl | rfl | rfl) <;> omega) x7⟩
end Go.Proofs.Ytmjdnocilbnoaaa

/- Store of a memory that is not watched. -/
namespace Go.Proofs.Ytmjdnocilbnoaaa
open Go.RowKit Go.Maps
set_option linter.unusedVariables false
set_option linter.unusedSimpArgs false
set_option maxRecDepth 100000
theorem width_any (n : Int) (w : World) : Calls Try.prog 32 #[.int .i64 n] w fun e w' => e = .returned (.bool (widB n)) ∧ w' = w := by
  go_enter Try.func32, Try.ntmps32
  go_wp2
  all_goals (go_ret; exact ⟨ret_bool (by rw [Bool.eq_iff_iff]; simp [widB, *]; try omega), rfl⟩)
set_option maxHeartbeats 400000 in
theorem store_any {w : World} {F : Nat → Prop} {rb size n : Nat} {M : Nat → Nat} (h : RamAt w F rb size n (.pointer none) M) (hs : size ≤ 268435456) (x : Nat) (k : Int) (y : Nat) (hx : x < 18446744073709551616) (hy : y < 18446744073709551616) (hn : n + 8 ≤ 1000000) :
    Calls Try.prog 21 #[.pointer (some ⟨rb, 0, none⟩), .int .u64 (x : Nat), .int .i64 k, .int .u64 (y : Nat)] w fun e w' => e = .returned (.bool (widB k && inB x k 2147483648 size)) ∧ ∃ F', RamAt w' F' rb size (n + 8) (.pointer none) (if (widB k && inB x k 2147483648 size) = true then over M x k.toNat (byteAt y) else M) ∧ Step F w F' w' := by
  cases hw : widB k with
  | false =>
    rw [Bool.false_and, if_neg (by simp)]
    have H : Hid (widB k = false) := hw
    clear hw
    go_enter Try.func21, Try.ntmps21
    go_wp2_with (first | (go_at_call 32; refine (width_any k _).mono ?_; rintro e w' ⟨rfl, rfl⟩; rw [H.out]))
    go_ret
    exact ⟨rfl, F, h.mono (by omega), Step.refl _ _⟩
  | true =>
    rw [Bool.true_and]
    have hk : k = 1 ∨ k = 2 ∨ k = 4 ∨ k = 8 := by simpa [widB] using hw
    obtain ⟨L, rfl⟩ : ∃ L : Nat, k = L := ⟨k.toNat, by omega⟩
    have hL : L ≤ 8 := by omega
    have H : Hid (widB L = true) := hw
    clear hw hk
    rw [Int.toNat_natCast]
    obtain ⟨Q, hQ⟩ : ∃ Q, Q = (if inB x L 2147483648 size = true then over M x L (byteAt y) else M) := ⟨_, rfl⟩
    rw [← hQ]
    have HQ : Hid (Q = (if inB x L 2147483648 size = true then over M x L (byteAt y) else M)) := hQ
    clear hQ
    go_enter Try.func21, Try.ntmps21
    go_wp2_with (first | (go_at_call 32; refine (width_any _ _).mono ?_; rintro e w' ⟨rfl, rfl⟩; rw [H.out]) | (go_at_call 43; refine (bytes_any y L L hy (by omega) _).mono ?_; rintro e w1 ⟨v, rfl, hown, hb⟩) | (go_at_call 23; refine (write_any (h.below hb) hs x L (byteAt y) _ hx (reads_ownF hown h.lt) (fun i _ => byteAt_le y i) (by omega)).mono ?_; rintro e w2 ⟨rfl, F2, h2, hs2⟩))
    go_ret
    exact ⟨rfl, F2, by rw [HQ.out]; exact h2.mono (by omega), (Step.of_below hb).trans hs2⟩
end Go.Proofs.Ytmjdnocilbnoaaa

/- The example, plain. -/
namespace Go.Proofs.Ytmjdnocilbnoaaa
open Go.RowKit Go.Maps
set_option linter.unusedVariables false
set_option linter.unusedSimpArgs false
set_option maxRecDepth 100000
theorem ex_gd : Gd 2 2147483648 2147483904 2147484160 := ⟨by kernel_rfl, by decide, by decide, by kernel_rfl, by decide, by decide, by decide, by decide, by decide⟩
theorem ex_e : (giveR (devF 7) ((2 : Nat) : Int) 2147483648 2147483904 2147484160 true false 65537 9 (over (over (fun _ => 0) 2147483648 8 (byteAt 2147487744)) 2147483906 2 (byteAt 2)) 0 0).e = 0 := by kernel_rfl
theorem ex_fe : (giveR (devF 7) ((2 : Nat) : Int) 2147483648 2147483904 2147484160 true false 65537 9 (over (over (fun _ => 0) 2147483648 8 (byteAt 2147487744)) 2147483906 2 (byteAt 2)) 0 0).fe = 2 := by kernel_rfl
theorem ex_us : (giveR (devF 7) ((2 : Nat) : Int) 2147483648 2147483904 2147484160 true false 65537 9 (over (over (fun _ => 0) 2147483648 8 (byteAt 2147487744)) 2147483906 2 (byteAt 2)) 0 0).us = 2 := by kernel_rfl
theorem ex_tell : tellB (endM (giveR (devF 7) ((2 : Nat) : Int) 2147483648 2147483904 2147484160 true false 65537 9 (over (over (fun _ => 0) 2147483648 8 (byteAt 2147487744)) 2147483906 2 (byteAt 2)) 0 0) 2 2147484160 false) 2 2147483904 2 0 false = true := by kernel_rfl
theorem ex_new : rightB 8192 = true := by decide
theorem ex_p1 : (widB 8 && inB (2147483648 : Nat) 8 2147483648 (8192 : Nat)) = true := by decide
theorem ex_p2 : (widB 2 && inB (2147483906 : Nat) 2 2147483648 (8192 : Nat)) = true := by decide
end Go.Proofs.Ytmjdnocilbnoaaa
