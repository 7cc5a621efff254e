/- Package disk: Same; the library's maps.Equal of maps of sectors. -/
import Derived.Test.YtkalaojbmedhjaaPe
namespace Go.Proofs.Ytkalaojbmedhjaa
open Go.RowKit Go.Maps
set_option linter.unusedVariables false
set_option linter.unusedSimpArgs false
set_option maxRecDepth 100000
section
variable (w : World) {ops : Array Oper} {rest : List Oper} {o : Oper} {a : Act} {Q : Exit → Act → World → Prop}
theorem wpList_next_sect (hg : o.guard = none) (it : Operand) (hop : o.op = Op.next it false) (b r n : Nat) (D : DataW Unit) (M : Nat → Nat) (left : Lit → Bool) (cnt : Nat) (hit : a.eval it = .pointer (some ⟨r, 0, none⟩)) (h : w.ranges Try.prog 26 secElem b r n D left cnt) (hp : Sect D M)
    (hDone : (∀ k : Nat, left (.int .u64 (k : Nat)) = false) → wpList Try.prog ops Q rest (a.put o.dst (.tuple #[.bool false])) w)
    (hMore : ∀ (k : Nat) (w' : World) (cnt' : Nat), k < 18446744073709551616 → left (.int .u64 (k : Nat)) = true → zeroB M k = false → w'.ranges Try.prog 26 secElem b r n D (fun z => left z && !z.sameKey (.int .u64 (k : Nat))) cnt' → cnt' < cnt →
      w.grownBy w' (some r) → w'.heap.size = w.heap.size → (Instr.entry (.pointer (some ⟨r, 0, none⟩))).run Try.prog w' = .ok (.tuple #[.int .u64 (k : Nat), .agg (secRow (secF M k))]) w' → wpList Try.prog ops Q rest (a.put o.dst (.tuple #[.bool true, .int .u64 (k : Nat), .agg (secRow (secF M k))])) w') :
    wpList Try.prog ops Q (o :: rest) a w := by
  refine wpList_next_ranges w hg it hop 26 keyed26 secElem (Value.int .u64) Value.agg (fun key kl hkey => by obtain ⟨x, rfl, _⟩ := Maps.keyOf_int_inv Try.underlying26 hkey; exact ⟨x, rfl⟩) (fun v y hv => by unfold secElem at hv; split at hv; exact ⟨_, rfl⟩; cases hv) b r n D left cnt hit h (fun _ hl => hDone (fun k => hl _)) ?_
  intro x c kl y w' cnt' hkey hlk hv hat hrg hlt hgr hsz hen
  obtain ⟨x', ex, rfl, hwx⟩ := Maps.keyOf_int_inv Try.underlying26 hkey
  cases ex
  have hb := bounds_u64 hwx
  obtain ⟨k, rfl⟩ : ∃ k : Nat, x = k := ⟨x.toNat, by omega⟩
  have hz : zeroB M k = false ∧ y.1 = secD (secF M k) := by
    rcases hp k with ⟨e, h2⟩ | ⟨e, h2⟩
    · have h3 : y.1 = .nil := (hat .nil).symm.trans (h2 .nil)
      have h4 : y.1 = secD fun _ => 0 := (hat (secD fun _ => 0)).symm.trans (h2 _)
      exact absurd (h4.symm.trans h3) (secD_nil _)
    · exact ⟨e, (hat .nil).symm.trans (h2 .nil)⟩
  have hc := secElem_inv hv hz.2
  simp only [Value.agg.injEq] at hc
  subst hc
  exact hMore k w' cnt' (by omega) hlk hz.1 hrg hlt hgr hsz hen
end
theorem lit_same {j k : Nat} (hk : k < 18446744073709551616) : (Lit.int .u64 (j : Nat)).sameKey (.int .u64 (k : Nat)) = decide (j = k) := by
  by_cases e : j = k
  · subst e
    rw [WideAt.sameKey_self (keyed26.key (key26 hk))]; simp
  · rw [Maps.sameKey_ne (lit_ne e)]; simp [e]
/-- the sectors that are no longer to come are alike in both -/
def Goods (M1 M2 : Nat → Nat) (left : Lit → Bool) : Prop := ∀ k : Nat, left (.int .u64 (k : Nat)) = false → zeroB M1 k = false → ∀ i, i < 512 → secF M1 k i = secF M2 k i
def RelE (w wr : World) (b1 b2 c1 c2 : Nat) (D1 D2 : DataW Unit) (M1 M2 : Nat → Nat) (left : Lit → Bool) (cnt : Nat) : Prop := wr.ranges Try.prog 26 secElem b1 w.heap.size c1 D1 left cnt ∧ wr.ownsMap Try.prog 26 secElem b2 c2 D2 ∧ w.grownBy wr none ∧ Goods M1 M2 left
theorem zero_ne {M1 M2 : Nat → Nat} {k : Nat} (h1 : zeroB M1 k = false) (h2 : zeroB M2 k = true) : ¬ ∀ a, M1 a = M2 a := fun h => by
  rw [zeroB_congr (M' := M2) (fun i hi => h _), h2] at h1; cases h1
theorem sec_ne {M1 M2 : Nat → Nat} {k : Nat} (h : secEq (secF M1 k) (secF M2 k) = false) : ¬ ∀ a, M1 a = M2 a := fun e => secEq_no h (fun i _ => e _)
set_option maxHeartbeats 4000000 in
theorem equal_any {w : World} {b1 b2 c1 c2 : Nat} {M1 M2 : Nat → Nat} (h1 : MapAt w b1 c1 M1) (h2 : MapAt w b2 c2 M2) : Calls Try.prog 32 #[.map (some b1), .map (some b2)] w fun e w' => ∃ r, e = .returned (.bool r) ∧ (r = true ↔ ∀ a, M1 a = M2 a) ∧ Below w.heap.size w w' := by
  obtain ⟨D1, o1, p1⟩ := h1
  obtain ⟨D2, o2, p2⟩ := h2
  have l1 := fun ty => o1.len (t := 58) Try.underlying58 ty
  have l2 := fun ty => o2.len (t := 58) Try.underlying58 ty
  have hb2 := o2.lt
  have hb1 := o1.lt
  have H : Hid (w.ownsMap Try.prog 26 secElem b1 c1 D1 ∧ w.ownsMap Try.prog 26 secElem b2 c2 D2 ∧ Sect D1 M1 ∧ Sect D2 M2) := ⟨o1, o2, p1, p2⟩
  clear o1 o2 p1 p2
  by_cases hsz : Maps.size D1 = Maps.size D2
  · have HS : Hid (Maps.size D1 = Maps.size D2) := hsz
    go_enter Try.func32, Try.ntmps32
    go_wp2_with (first | (at_range; refine wpList_range_own _ rfl _ 58 rfl 26 63 keyed26 Try.underlying58 secElem b1 c1 D1 rfl H.out.1 ?_; intro w0 hrg0 hg0 hs0) | go_in)
    go_frame
    have R0 : Hid (RelE w w0 b1 b2 c1 c2 D1 D2 M1 M2 (Maps.has D1) (Maps.size D1)) := ⟨hrg0, H.out.2.1.kept hg0 (by simp), hg0, fun k hk hz => by rw [sect_has H.out.2.2.1, hz] at hk; cases hk⟩
    clear hrg0 hg0 hs0 l1 l2 hsz
    go_loopw [5] (fun _ wr => ∃ left cnt, RelE w wr b1 b2 c1 c2 D1 D2 M1 M2 left cnt) (fun _ wr => wr.rangeLeft b1 w.heap.size)
    case atStart => exact ⟨_, _, R0.out⟩
    case round =>
      obtain ⟨left, cnt, hrel⟩ := hrel
      clear R0
      have R : Hid (RelE w wr b1 b2 c1 c2 D1 D2 M1 M2 left cnt) := hrel
      clear hrel
      go_upto_region 4 with fail
      refine wp_region_list ?_
      refine wpList_next_sect _ rfl _ rfl b1 w.heap.size c1 D1 M1 left cnt rfl R.out.1 H.out.2.2.1 ?_ ?_
      · intro hl
        go_wp2
        go_ret
        refine ⟨true, rfl, ⟨fun _ => ?_, fun _ => rfl⟩, (Below.refl _ _).grown R.out.2.2.1 (Nat.le_refl _) (fun j hj => by cases hj)⟩
        exact sect_same H.out.1 H.out.2.1 H.out.2.2.1 H.out.2.2.2 HS.out (fun k hz i hi => R.out.2.2.2 k (hl k) hz i hi)
      · intro k w1 cnt1 hk hlk hzk hrg1 hlt hg1 hs1 hen
        have hgw1 : w.grownBy w1 none := R.out.2.2.1.andThen hg1 (fun j hj => by cases hj; exact Or.inl (Nat.le_refl _))
        have o2 : w1.ownsMap Try.prog 26 secElem b2 c2 D2 := R.out.2.1.kept hg1 (fun e => by have := Option.some.inj e; omega)
        have G : Hid (w.grownBy w1 none ∧ w1.ownsMap Try.prog 26 secElem b2 c2 D2 ∧ zeroB M1 k = false ∧ w1.ranges Try.prog 26 secElem b1 w.heap.size c1 D1 (fun z => left z && !z.sameKey (.int .u64 (k : Nat))) cnt1 ∧ cnt1 < cnt ∧ left (.int .u64 (k : Nat)) = true) := ⟨hgw1, o2, hzk, hrg1, hlt, hlk⟩
        clear hgw1 o2 hzk hrg1 hlt hg1 hs1 hlk
        go_upto_region 5 with fail
        refine wp_region_list ?_
        (refine wpList_step (fun KK hKK => ?_); go_simp; refine hKK _ _ ?_; clear hKK KK)
        refine wpList_extract_at rfl _ _ _ _ rfl rfl rfl ?_
        refine wpList_extract_at rfl _ _ _ _ rfl rfl rfl ?_
        refine wpList_alloc63 rfl rfl ?_
        (refine wpList_step (fun KK hKK => ?_); go_simp; refine hKK _ _ ?_; clear hKK KK)
        refine wpList_store63 rfl _ _ rfl w1.heap.size (secF M1 k) (secRow fun _ => 0) rfl rfl (Box.new 63 w1 _) (by rw [secRow_size, secRow_size]) ?_
        intro w2 B2 U2
        have g2 : Below w1.heap.size w1 w2 := (((Below.refl _ _).alloc (Nat.le_refl _) _ : Below w1.heap.size w1 (w1.alloc (.cells (secRow fun _ => 0) 63)))).trans (U2.below (Nat.le_refl _) (by simp))
        have y2 : w1.grownBy w2 none := ⟨g2.os, g2.tape, g2.output, g2.size, fun i hi _ => g2.block i hi⟩
        have s2 := B2.lt
        have hlk2 : (Instr.lookup 58 (.map (some b2)) (.int .u64 (k : Nat)) true).run Try.prog w2 = .ok (.tuple #[.agg (secRow (secF M2 k)), .bool (!zeroB M2 k)]) w2 := sect_look_ok (G.out.2.1.kept y2 (by simp)) H.out.2.2.2 k hk
        have Y2 : Hid (w1.grownBy w2 none ∧ Box 63 w2 w1.heap.size (secRow (secF M1 k))) := ⟨y2, B2⟩
        clear g2 y2 U2 B2 hen
        go_upto_region 6 with fail
        refine wp_region_list ?_
        (refine wpList_step (fun KK hKK => ?_); go_simp; refine hKK _ _ ?_; clear hKK KK)
        (refine wpList_step (fun KK hKK => ?_); go_simp; refine hKK _ _ ?_; clear hKK KK)
        refine wpList_look_run rfl _ _ 58 true rfl rfl rfl hlk2 ?_
        (refine wpList_step (fun KK hKK => ?_); go_simp; refine hKK _ _ ?_; clear hKK KK)
        refine wpList_extract_at rfl _ _ _ _ rfl rfl rfl ?_
        refine wpList_extract_at rfl _ _ _ _ rfl rfl rfl ?_
        refine wpList_alloc63 rfl rfl ?_
        refine wpList_store63 rfl _ _ rfl w2.heap.size (secF M2 k) (secRow fun _ => 0) rfl rfl (Box.new 63 w2 _) (by rw [secRow_size, secRow_size]) ?_
        intro w3 B3 U3
        have g3 : Below w2.heap.size w2 w3 := (((Below.refl _ _).alloc (Nat.le_refl _) _ : Below w2.heap.size w2 (w2.alloc (.cells (secRow fun _ => 0) 63)))).trans (U3.below (Nat.le_refl _) (by simp))
        have y3 : w2.grownBy w3 none := ⟨g3.os, g3.tape, g3.output, g3.size, fun i hi _ => g3.block i hi⟩
        have Y3 : Hid (w1.grownBy w3 none ∧ Box 63 w3 w1.heap.size (secRow (secF M1 k)) ∧ Box 63 w3 w2.heap.size (secRow (secF M2 k))) := ⟨Y2.out.1.andThen y3 (fun j hj => by cases hj), Y2.out.2.step g3, B3⟩
        clear g3 y3 U3 B3 Y2 hlk2
        generalize w2.heap.size = q2 at *
        generalize w1.heap.size = q1 at *
        (refine wpList_step (fun KK hKK => ?_); go_simp; refine hKK _ _ ?_; clear hKK KK)
        cases hz2 : zeroB M2 k with
        | true =>
          have HZ : Hid (zeroB M2 k = true) := hz2
          clear hz2
          go_upto_region 7 with fail
          refine wp_region_list ?_
          (refine wpList_step (fun KK hKK => ?_); go_simp; refine hKK _ _ ?_; clear hKK KK)
          (refine wpList_step (fun KK hKK => ?_); go_simp; refine hKK _ _ ?_; clear hKK KK)
          (refine wpList_step (fun KK hKK => ?_); go_simp; refine hKK _ _ ?_; clear hKK KK)
          (refine wpList_step (fun KK hKK => ?_); go_simp; refine hKK _ _ ?_; clear hKK KK)
          (refine wpList_step (fun KK hKK => ?_); go_simp; refine hKK _ _ ?_; clear hKK KK)
          (refine wpList_step (fun KK hKK => ?_); go_simp; refine hKK _ _ ?_; clear hKK KK)
          (refine wpList_step (fun KK hKK => ?_); go_simp; refine hKK _ _ ?_; clear hKK KK)
          go_wp2
          go_ret
          refine ⟨false, rfl, ⟨fun h => (by cases h), fun h => absurd h (zero_ne G.out.2.2.1 HZ.out)⟩, (Below.refl _ _).grown (G.out.1.andThen Y3.out.1 (fun j hj => by cases hj)) (Nat.le_refl _) (fun j hj => by cases hj)⟩
        | false =>
          cases he : secEq (secF M1 k) (secF M2 k) with
          | false =>
            have HE : Hid (secEq (secF M1 k) (secF M2 k) = false) := he
            clear hz2 he
            go_upto_region 7 with fail
            refine wp_region_list ?_
            (refine wpList_step (fun KK hKK => ?_); go_simp; refine hKK _ _ ?_; clear hKK KK)
            (refine wpList_step (fun KK hKK => ?_); go_simp; refine hKK _ _ ?_; clear hKK KK)
            (refine wpList_step (fun KK hKK => ?_); go_simp; refine hKK _ _ ?_; clear hKK KK)
            refine wpList_load63G (by first | rfl | kernel_rfl) _ rfl q1 (secF M1 k) rfl Y3.out.2.1 ?_
            refine wpList_load63G (by first | rfl | kernel_rfl) _ rfl q2 (secF M2 k) rfl Y3.out.2.2 ?_
            refine wpList_neq63G (by first | rfl | kernel_rfl) _ _ _ rfl (secF M1 k) (secF M2 k) rfl rfl ?_
            rw [HE.out]
            (refine wpList_step (fun KK hKK => ?_); go_simp; refine hKK _ _ ?_; clear hKK KK)
            go_wp2
            go_ret
            refine ⟨false, rfl, ⟨fun h => (by cases h), fun h => absurd h (sec_ne HE.out)⟩, (Below.refl _ _).grown (G.out.1.andThen Y3.out.1 (fun j hj => by cases hj)) (Nat.le_refl _) (fun j hj => by cases hj)⟩
          | true =>
            have HE : Hid (secEq (secF M1 k) (secF M2 k) = true) := he
            clear hz2 he
            go_upto_region 7 with fail
            refine wp_region_list ?_
            (refine wpList_step (fun KK hKK => ?_); go_simp; refine hKK _ _ ?_; clear hKK KK)
            (refine wpList_step (fun KK hKK => ?_); go_simp; refine hKK _ _ ?_; clear hKK KK)
            (refine wpList_step (fun KK hKK => ?_); go_simp; refine hKK _ _ ?_; clear hKK KK)
            refine wpList_load63G (by first | rfl | kernel_rfl) _ rfl q1 (secF M1 k) rfl Y3.out.2.1 ?_
            refine wpList_load63G (by first | rfl | kernel_rfl) _ rfl q2 (secF M2 k) rfl Y3.out.2.2 ?_
            refine wpList_neq63G (by first | rfl | kernel_rfl) _ _ _ rfl (secF M1 k) (secF M2 k) rfl rfl ?_
            rw [HE.out]
            (refine wpList_step (fun KK hKK => ?_); go_simp; refine hKK _ _ ?_; clear hKK KK)
            go_wp2_with fail
            go_roundw
            case rel =>
              refine ⟨_, cnt1, G.out.2.2.2.1.kept Y3.out.1 (by simp) (by simp), G.out.2.1.kept Y3.out.1 (by simp), G.out.1.andThen Y3.out.1 (fun j hj => by cases hj), fun j hj hz i hi => ?_⟩
              by_cases e : j = k
              · subst e; exact (secEq_iff _ _).1 HE.out i hi
              · simp only [lit_same hk, e, decide_false, Bool.not_false, Bool.and_true] at hj
                exact R.out.2.2.2 j hj hz i hi
            case measure => rw [(G.out.2.2.2.1.kept Y3.out.1 (by simp) (by simp)).left_eq, R.out.1.left_eq]; exact G.out.2.2.2.2.1
  · have hne : ¬ ((Maps.size D1 : Int) = (Maps.size D2 : Int)) := fun e => hsz (by exact_mod_cast e)
    go_enter Try.func32, Try.ntmps32
    go_wp2
    go_ret
    refine ⟨false, rfl, ⟨fun h => (by cases h), fun h => absurd ?_ hsz⟩, Below.refl _ _⟩
    obtain ⟨a1, a2, a3⟩ := owns_keys H.out.1
    obtain ⟨e1, e2, e3⟩ := owns_keys H.out.2.1
    have hM : M1 = M2 := funext h
    have s1 := nodup_len (keysN D1) (keysN D2) a1 (fun k hk => (e2 k).2 (by rw [sect_has H.out.2.2.2, ← hM, ← sect_has H.out.2.2.1]; exact (a2 k).1 hk))
    have s2 := nodup_len (keysN D2) (keysN D1) e1 (fun k hk => (a2 k).2 (by rw [sect_has H.out.2.2.1, hM, ← sect_has H.out.2.2.2]; exact (e2 k).1 hk))
    omega
end Go.Proofs.Ytkalaojbmedhjaa
