/- The call unlike of layer 2: the first of its rounds. -/
import Derived.Test.YthnmoalomodbpaaHuntL
import Derived.Deep.DeepMust
namespace Go.Proofs.Ythnmoalomodbpaa
open Go.RowKit Go.Maps
set_option linter.unusedVariables false
set_option linter.unusedSimpArgs false
theorem RamIn.below_map {w w' : World} {F : Nat → Prop} {rb size n : Nat} {lg : Value} {M : Nat → Nat} {bm : Nat} {pg : Nat → Option Nat} {D : DataW Unit} (h : RamIn w F rb size n lg M bm pg D) (hb : Below w.heap.size w w') : w'.ownsMap Try.prog 22 ptrElem bm n D := by
  obtain ⟨h1, h2, h3, h4, h5, h6, f1, f2, f3, f4, h7⟩ := h
  obtain ⟨es, c, e1, e2, e3, e4⟩ := h2
  exact ⟨es, c, (hb.block bm (f4 bm f2)).trans e1, e2, e3, e4⟩
theorem two_of {ks : List Nat} {p q : Nat} (hn : ks.Nodup) (h : ∀ k ∈ ks, k = p ∨ k = q) : ks.length ≤ 2 := by
  match ks, hn, h with
  | [], _, _ => simp
  | [_], _, _ => simp
  | [_, _], _, _ => simp
  | a :: b :: c :: r, hn, h =>
    have ha := h a (by simp)
    have hb := h b (by simp)
    have hc := h c (by simp)
    simp at hn
    omega
theorem pair_short (ks : List Nat) (h : ks.length ≤ 1) : ks.Pairwise (· < ·) := by
  match ks, h with
  | [], _ => exact List.Pairwise.nil
  | [_], _ => simp
theorem two_list (ks : List Nat) (h : ks.length = 2) : ∃ x y, ks = [x, y] := by
  match ks, h with
  | [x, y], _ => exact ⟨x, y, rfl⟩
theorem nums_two {B : Nat} {w : World} {av : Option Addr} {cv x y : Nat} (h : Nums B w (.slice av 2 cv) [x, y]) : ∃ g, av = some ⟨g, 0, none⟩ ∧ w.cell? ⟨g, 0, none⟩ = some (.int .u64 (x : Nat)) ∧ w.cell? ⟨g, 1, none⟩ = some (.int .u64 (y : Nat)) ∧ w.frozen? ⟨g, 0, none⟩ = false ∧ w.frozen? ⟨g, 1, none⟩ = false := by
  have h' := h
  rcases h'.2 with ⟨_, h1⟩ | ⟨g, cap, cur, hv, hb, hgg, rest⟩
  · simp at h1
  · cases hv
    have hc := World.ownsRow.cells h (g := g) rfl
    have c0 := hc 0 (.int .u64 (x : Nat)) rfl
    have c1 := hc 1 (.int .u64 (y : Nat)) rfl
    rw [addr_add, Nat.zero_add] at c0 c1
    exact ⟨g, rfl, c0, c1, World.ownsRow.frozenAt h 0, World.ownsRow.frozenAt h 1⟩
theorem sorted_nums {B : Nat} {w : World} {g c x y : Nat} (h : Nums B w (.slice (some ⟨g, 0, none⟩) 2 c) [x, y]) (hxy : ¬ x = y) (q : Nat) : ∃ ks : List Nat, ks.Pairwise (· < ·) ∧ (∀ k, k ∈ ks ↔ k = x ∨ k = y) ∧ Nums B ((sortW w g x y).drewN q) (.slice (some ⟨g, 0, none⟩) 2 c) ks ∧ w.grownBy ((sortW w g x y).drewN q) (some g) := by
  unfold sortW
  by_cases hlt : y < x
  · rw [if_pos hlt]
    have h1 := World.ownsRow.stored h 1 (.int .u64 (x : Nat))
    have h2 := World.ownsRow.stored h1.1 0 (.int .u64 (y : Nat))
    exact ⟨[y, x], by simp [hlt], fun k => by simp [or_comm], h2.1, (h1.2.trans h2.2).trans (grown_drews _ q _)⟩
  · rw [if_neg hlt]
    exact ⟨[x, y], by simp; omega, fun k => by simp, h, grown_drews w q _⟩
theorem Try.info22 : (Try.prog.info? 22).map (fun i => (i.zero, i.size, i.bytes)) = some (some (.int .u64 0), 1, 8) := by kernel_rfl
theorem one_new (w : World) (x : Value) (t : TypeId) : ∀ j u, [x][j]? = some u → (w.alloc (.cells #[x] t)).cell? ((⟨w.heap.size, 0, none⟩ : Addr).add j) = some u := by
  intro j u hj
  rw [addr_add, Nat.zero_add]
  simp only [World.cell?, heap_alloc_new]
  match j, hj with
  | 0, hj => simpa using hj
set_option maxRecDepth 100000 in
set_option maxHeartbeats 2000000 in
theorem unlike_any {w : World} {Fa Fb : Nat → Prop} {ra rb size na nb : Nat} {lga lgb : Value} {Ma Mb : Nat → Nat} (ha : RamAt w Fa ra size na lga Ma) (hb : RamAt w Fb rb size nb lgb Mb) (hs : 0 < size) (hna : na ≤ 1000000) (hnb : nb ≤ 1000000) (p1 p2 : Nat) (hS : ∀ k, Apart Ma Mb k → k = p1 ∨ k = p2) :
    Calls Try.prog 60 #[.pointer (some ⟨ra, 0, none⟩), .pointer (some ⟨rb, 0, none⟩)] w fun e w' => ∃ v ks, e = .returned v ∧ Nums w.heap.size w' v ks ∧ ks.Pairwise (· < ·) ∧ (∀ k, k ∈ ks ↔ Apart Ma Mb k) ∧ (∀ k ∈ ks, k < 18446744073709551616) ∧ Below w.heap.size w w' := by
  have HS : Hid _ := hS
  clear hS
  have ha0 := ha
  have hb0 := hb
  obtain ⟨bma, pga, Da, ha⟩ := ha
  obtain ⟨bmb, pgb, Db, hb⟩ := hb
  have hca := ha.cell1
  have hcb := hb.cell1
  have hz : ((size : Int) == 0) = false := by simp; omega
  have A : Hid _ := ha
  have B : Hid _ := hb
  have A0 : Hid (RamAt w Fa ra size na lga Ma) := ha0
  have B0 : Hid (RamAt w Fb rb size nb lgb Mb) := hb0
  clear ha hb ha0 hb0
  obtain ⟨i0, hinf, hz0, hz1, hz2⟩ := info_parts Try.info22
  go_enter Try.func60, Try.ntmps60
  go_wp2_with (first | (go_at_call 59; first | (refine (size_any A0.out).mono ?_; rintro e w' ⟨rfl, hw⟩; rw [hw]; clear hw) | (refine (size_any B0.out).mono ?_; rintro e w' ⟨rfl, hw⟩; rw [hw]; clear hw)) | (at_range; refine wpList_range_own _ rfl _ 92 rfl 22 96 keyed25 Try.underlying92 ptrElem bma na Da rfl A.out.2.1 ?_; intro w0 hrg0 hg0 hs0))
  go_frame
  have hba : bma < w.heap.size := A.out.2.1.lt
  have hstart : Hunting w w0 bma w.heap.size na na Da pga (fun _ => False) (Apart Ma Mb) (.slice none 0 0) (Maps.has Da) (Maps.size Da) [] := by
    refine ⟨hrg0, ⟨rfl, .inl ⟨rfl, rfl⟩⟩, Below.of_grown hg0 (Nat.le_refl _) (by simp), Nat.le_refl _, by simp [Value.ownBlock], List.nodup_nil, by simpa using A.out.2.1.size_le, by simp, fun k => ?_⟩
    simp
    intro h1 h2
    rw [paged_has A.out.2.2.1, h1] at h2
    cases h2
  clear hrg0 hg0 hs0
  go_loopw [5] (fun v wr => ∃ left cnt ks, Hunting w wr bma w.heap.size na na Da pga (fun _ => False) (Apart Ma Mb) v left cnt ks) (fun _ wr => wr.rangeLeft bma w.heap.size)
  case atStart => exact ⟨_, _, _, hstart⟩
  case round =>
    obtain ⟨left, cnt, ks, hco⟩ := hrel
    clear hstart
    have hrg : wr.ranges Try.prog 22 ptrElem bma w.heap.size na Da left cnt := hco.1
    obtain ⟨av, cv, rfl⟩ := Nums.form hco.2.1
    have HKL : Hid (ks.length + cnt ≤ na) := hco.2.2.2.2.2.2.1
    have C : Hid (Hunting w wr bma w.heap.size na na Da pga (fun _ => False) (Apart Ma Mb) (.slice av ks.length cv) left cnt ks) := hco
    clear hco
    go_wp2_with (first | (at_next; refine wpList_next_pages _ rfl _ rfl bma w.heap.size na Da pga left cnt rfl hrg A.out.2.2.1 ?_ ?_))
    · intro hdone
      have E : Hid (Nums w.heap.size wr (.slice av ks.length cv) ks ∧ Below w.heap.size w wr ∧ ks.Nodup ∧ ks.length ≤ na ∧ (∀ k ∈ ks, k < 18446744073709551616) ∧ ∀ k, k ∈ ks ↔ ((pga k).isSome = true ∧ Apart Ma Mb k)) := ⟨C.out.2.1, C.out.2.2.1, C.out.2.2.2.2.2.1, by have := HKL.out; omega, C.out.2.2.2.2.2.2.2.1, fun k => by rw [C.out.2.2.2.2.2.2.2.2 k]; simp [hdone k]⟩
      have hrb : wr.cell? ⟨rb, 1, none⟩ = some (.map (some bmb)) := by rw [E.out.2.1.cell (p := ⟨rb, 1, none⟩) (B.out.2.2.2.2.2.2.2.2.2.1 rb B.out.2.2.2.2.2.2.1)]; exact hcb
      have hmb : wr.ownsMap Try.prog 22 ptrElem bmb nb Db := (RamIn.below_map B.out E.out.2.1)
      clear hdone hrg C
      go_wp2_with (first | (at_range; refine wpList_range_own _ rfl _ 92 rfl 22 96 keyed25 Try.underlying92 ptrElem bmb nb Db rfl hmb ?_; intro w5 hrg5 hg5 hs5))
      go_frame
      have hbb : bmb < w.heap.size := B.out.2.1.lt
      have hstart2 : Hunting w w5 bmb wr.heap.size nb (na + nb) Db pgb (fun k => (pga k).isSome = true ∧ Apart Ma Mb k) (fun k => pga k = none ∧ Apart Ma Mb k) (.slice av ks.length cv) (Maps.has Db) (Maps.size Db) ks := by
        refine ⟨hrg5, E.out.1.kept (fun g hg => hg5.block g (World.ownsRow.lt E.out.1 g hg).2 (by simp)), Below.grown E.out.2.1 hg5 E.out.2.1.size (fun q hq => by cases hq), E.out.2.1.size, fun g hg => Nat.ne_of_lt (World.ownsRow.lt E.out.1 g hg).2, E.out.2.2.1, by have h1 := E.out.2.2.2.1; have h2 := B.out.2.1.size_le; omega, E.out.2.2.2.2.1, fun k => ?_⟩
        rw [E.out.2.2.2.2.2 k]
        constructor
        · exact .inl
        · rintro (h | ⟨h1, h2, _⟩)
          · exact h
          · rw [paged_has B.out.2.2.1, h1] at h2; cases h2
      have hr5 : wr.heap.size < w5.heap.size := hrg5.lt
      clear hrg5 hg5 hs5 hmb E hrb
      generalize hr2 : wr.heap.size = r2 at *
      clear hr2
      go_loopw [5] (fun v wq => ∃ left cnt ks, Hunting w wq bmb r2 nb (na + nb) Db pgb (fun k => (pga k).isSome = true ∧ Apart Ma Mb k) (fun k => pga k = none ∧ Apart Ma Mb k) v left cnt ks) (fun _ wq => wq.rangeLeft bmb r2)
      case atStart => exact ⟨_, _, _, hstart2⟩
      case round =>
        obtain ⟨left, cnt, ks, hco⟩ := hrel
        clear hstart2
        obtain ⟨av, cv, rfl⟩ := Nums.form hco.2.1
        have hrg : World.ranges _ Try.prog 22 ptrElem bmb r2 nb Db left cnt := hco.1
        have HKL : Hid (ks.length + cnt ≤ na + nb) := hco.2.2.2.2.2.2.1
        have C : Hid (Hunting w _ bmb r2 nb (na + nb) Db pgb (fun k => (pga k).isSome = true ∧ Apart Ma Mb k) (fun k => pga k = none ∧ Apart Ma Mb k) (.slice av ks.length cv) left cnt ks) := hco
        clear hco
        go_wp2_with (first | (at_next; refine wpList_next_pages _ rfl _ rfl bmb r2 nb Db pgb left cnt rfl hrg B.out.2.2.1 ?_ ?_))
        · intro hdone
          have E : Hid (Nums w.heap.size wr (.slice av ks.length cv) ks ∧ Below w.heap.size w wr ∧ ks.Nodup ∧ (∀ k ∈ ks, k < 18446744073709551616) ∧ ∀ k, k ∈ ks ↔ Apart Ma Mb k) := ⟨C.out.2.1, C.out.2.2.1, C.out.2.2.2.2.2.1, C.out.2.2.2.2.2.2.2.1, fun k => by
            rw [C.out.2.2.2.2.2.2.2.2 k, hdone k]
            constructor
            · rintro (h | ⟨_, _, _, h⟩)
              · exact h.2
              · exact h
            · intro h
              cases ha : pga k with
              | some b => exact .inl ⟨by rw [ha]; rfl, h⟩
              | none =>
                cases hb : pgb k with
                | some b => exact .inr ⟨rfl, rfl, ha, h⟩
                | none =>
                  obtain ⟨i, hi, hne⟩ := h
                  exact absurd ((A.out.2.2.2.2.1 k ha i hi).trans (B.out.2.2.2.2.1 k hb i hi).symm) hne⟩
          have hlen : ks.length ≤ 2 := two_of E.out.2.2.1 (fun k hk => HS.out k ((E.out.2.2.2.2 k).1 hk))
          clear hdone hrg C
          by_cases h1 : ks.length ≤ 1
          · go_wp2_with (first | (go_at_call 73; refine (sort_one h1).mono ?_; rintro e w' ⟨rfl, hw⟩; rw [hw]; clear hw))
            go_ret
            exact ⟨_, ks, rfl, E.out.1, pair_short ks h1, E.out.2.2.2.2, E.out.2.2.2.1, E.out.2.1⟩
          · obtain ⟨x, y, rfl⟩ := two_list ks (by omega)
            obtain ⟨g, rfl, c0, c1, f0, f1⟩ := nums_two E.out.1
            go_wp2_with (first | (go_at_call 73; refine (sort_two c0 c1 f0 f1).mono ?_; rintro e w' ⟨rfl, q, hw⟩; rw [hw]; clear hw))
            go_ret
            obtain ⟨ks', r1, r2, r3, r4⟩ := sorted_nums E.out.1 (by have := E.out.2.2.1; simpa using this) q
            exact ⟨_, ks', rfl, r3, r1, fun k => by rw [r2 k]; simpa using E.out.2.2.2.2 k, fun k hk => E.out.2.2.2.1 k (by simpa using (r2 k).1 hk), Below.grown E.out.2.1 r4 E.out.2.1.size (fun q hq => by cases hq; exact (World.ownsRow.lt E.out.1 _ rfl).1)⟩
        · intro k c w1 cnt' hk hlk hpk hrg1 hlt hg1 hs1 hent
          have hB1 : Below w.heap.size w w1 := Below.grown C.out.2.2.1 hg1 C.out.2.2.1.size (fun q hq => by cases hq; exact C.out.2.2.2.1)
          have hpage : w1.heap[c]? = some (.cells (pageRow (fun i => Mb (k * 4096 + i))) 98 (0, 0)) := (hB1.block c (B.out.2.2.2.2.2.2.2.2.2.1 c (B.out.2.2.2.2.2.2.2.2.1 k c hpk))).trans (B.out.2.2.2.1 k c hpk)
          have hra : w1.cell? ⟨ra, 1, none⟩ = some (.map (some bma)) := by rw [hB1.cell (p := ⟨ra, 1, none⟩) (A.out.2.2.2.2.2.2.2.2.2.1 ra A.out.2.2.2.2.2.2.1)]; exact hca
          have hlook := pages_look (RamIn.below_map A.out hB1) A.out.2.2.1 k hk
          have X : Hid (_ ∧ _ ∧ _ ∧ _ ∧ _ ∧ _ ∧ _) := ⟨hB1, hpage, hrg1, hlt, hg1, hlk, hpk⟩
          have Y : Hid (Below w1.heap.size w1 w1) := Below.refl _ _
          clear hB1 hpage hrg1 hlt hg1 hs1 hlk hpk
          cases hp : pga k with
          | some b =>
            rw [hp, ptrOf_some] at hlook
            have HT : Hid (¬ (pga k = none ∧ Apart Ma Mb k)) := fun h => by rw [hp] at h; cases h.1
            clear hp
            go_wp2_with (first | (at_lookup; refine wpList_lookup_run rfl _ _ 92 rfl rfl rfl hlook ?_))
            go_roundw
            case rel => exact ⟨_, _, _, hunting_skip C.out hbb hk HT.out X.out.2.2.2.1 X.out.2.2.1 X.out.2.2.2.2.1 Y.out⟩
            case measure =>
              have h1 := (hunting_next C.out hbb X.out.2.2.1 X.out.2.2.2.2.1 Y.out).1
              rw [h1.left_eq, hrg.left_eq]
              exact X.out.2.2.2.1
          | none =>
            rw [hp, ptrOf_none] at hlook
            have HP : Hid (pga k = none) := hp
            have HZ : Hid (∀ i, i < 4096 → Ma (k * 4096 + i) = 0) := A.out.2.2.2.2.1 k hp
            clear hp
            cases hpe : pageEq (fun i => Mb (k * 4096 + i)) (fun _ => 0)
            · have hT : Apart Ma Mb k := by
                rw [Bool.eq_false_iff, Ne, pageEq_iff] at hpe
                refine Classical.byContradiction fun hn => hpe fun i hi => ?_
                have : Ma (k * 4096 + i) = Mb (k * 4096 + i) := Classical.byContradiction fun hc => hn ⟨i, hi, hc⟩
                rw [← this]; exact HZ.out i hi
              have HT : Hid (pga k = none ∧ Apart Ma Mb k) := ⟨HP.out, hT⟩
              clear hT
              go_wp2_with (first | (at_lookup; refine wpList_lookup_run rfl _ _ 92 rfl rfl rfl hlook ?_) | (refine wpList_gload81 _ rfl (by rfl) c (fun i => Mb (k * 4096 + i)) rfl X.out.2.1 ?_) | (refine wpList_gbuild81 rfl (by rfl) ?_) | (refine wpList_gneq81 _ _ _ rfl (by rfl) (fun i => Mb (k * 4096 + i)) (fun _ => 0) rfl rfl ?_) | (at_builtin; go_must (refine wpList_append_own_at _ rfl _ _ 102 rfl w.heap.size 22 i0 (.int .u64 0) 1 8 Try.underlying102 hinf hz0 hz1 hz2 rfl (by decide) _ ks.length (numRow ks) rfl (World.ownsRow.alloc (hunting_next C.out hbb X.out.2.2.1 X.out.2.2.2.2.1 Y.out).2.1 _) ⟨w1.heap.size, 0, none⟩ 1 1 [.int .u64 (k : Nat)] rfl rfl (one_new _ _ _) (by intro u hu; simp at hu; subst hu; rfl) (by have q1 := HKL.out; have q2 := (hunting_next C.out hbb X.out.2.2.1 X.out.2.2.2.2.1 Y.out).2.2.size; unfold maxLen; omega) (by have q1 := HKL.out; have q2 := (hunting_next C.out hbb X.out.2.2.1 X.out.2.2.2.2.1 Y.out).2.2.size; first | omega | (simp; omega)) (by have q1 := HKL.out; have q2 := (hunting_next C.out hbb X.out.2.2.1 X.out.2.2.2.2.1 Y.out).2.2.size; simp; omega) ?_); intro v' w3 hown' hgrow hnil hat))
              have hh := hunting_take C.out hbb (fun _ h h2 => by rw [h2.2.1] at h; cases h.1) hk X.out.2.2.2.2.2.1 (by rw [X.out.2.2.2.2.2.2]; rfl) HT.out X.out.2.2.2.1 X.out.2.2.1 X.out.2.2.2.2.1 Y.out (v' := v') (w3 := w3) (by unfold Nums; rw [numRow_snoc, List.length_append]; exact hown') ((World.grownBy_alloc w1 (.cells #[.int .u64 (k : Nat)] 22) _).trans hgrow) (hat.imp id fun h => ⟨_, h, by simp⟩)
              exact ⟨⟨_, _, _, hh⟩, by rw [hh.1.left_eq, hrg.left_eq]; exact X.out.2.2.2.1⟩
            · have HT : Hid (¬ (pga k = none ∧ Apart Ma Mb k)) := fun h => by
                obtain ⟨i, hi, hne⟩ := h.2
                have := (pageEq_iff _ _).1 hpe i hi
                exact hne ((HZ.out i hi).trans this.symm)
              go_wp2_with (first | (at_lookup; refine wpList_lookup_run rfl _ _ 92 rfl rfl rfl hlook ?_) | (refine wpList_gload81 _ rfl (by rfl) c (fun i => Mb (k * 4096 + i)) rfl X.out.2.1 ?_) | (refine wpList_gbuild81 rfl (by rfl) ?_) | (refine wpList_gneq81 _ _ _ rfl (by rfl) (fun i => Mb (k * 4096 + i)) (fun _ => 0) rfl rfl ?_))
              go_roundw
              case rel => exact ⟨_, _, _, hunting_skip C.out hbb hk HT.out X.out.2.2.2.1 X.out.2.2.1 X.out.2.2.2.2.1 Y.out⟩
              case measure =>
                have h1 := (hunting_next C.out hbb X.out.2.2.1 X.out.2.2.2.2.1 Y.out).1
                rw [h1.left_eq, hrg.left_eq]
                exact X.out.2.2.2.1
    · intro k c w1 cnt' hk hlk hpk hrg1 hlt hg1 hs1 hent
      have hB1 : Below w.heap.size w w1 := Below.grown C.out.2.2.1 hg1 C.out.2.2.1.size (fun q hq => by cases hq; exact C.out.2.2.2.1)
      have hpage : w1.heap[c]? = some (.cells (pageRow (fun i => Ma (k * 4096 + i))) 98 (0, 0)) := (hB1.block c (A.out.2.2.2.2.2.2.2.2.2.1 c (A.out.2.2.2.2.2.2.2.2.1 k c hpk))).trans (A.out.2.2.2.1 k c hpk)
      have X : Hid (_ ∧ _ ∧ _ ∧ _ ∧ _ ∧ _ ∧ _) := ⟨hB1, hpage, hrg1, hlt, hg1, hlk, hpk⟩
      have L : Hid _ := look_any ((B0.out.below hB1).below ((Below.refl w1.heap.size w1).drew)) k hk
      clear hB1 hpage hrg1 hlt hg1 hs1 hlk hpk
      go_wp2_with fail
      refine wp_region_noPanic ?_
      refine wp_region_held_drew (S := fun V => V.heap[c]? = some (.cells (pageRow (fun i => Ma (k * 4096 + i))) 98 (0, 0))) (by kernel_rfl) X.out.2.1 ?_
      intro hS
      refine wpAnyH_take (i := 0) (oi := { dst := some 30, op := Op.move (Operand.tmp 7), type := 96, pos := "differ.go:41", after := #[], guard := none }) (v := .pointer (some ⟨c, 0, none⟩)) rfl (by kernel_rfl) (by kernel_rfl) (by kernel_rfl) (fun _ _ _ h => h) (Or.inl ⟨by rfl, fun w _ => rfl⟩) hS ?_
      (try simp only [Act.put, List.setIfInBounds_toArray, List.set_cons_zero, List.set_cons_succ])
      refine wpAnyH_take (i := 1) (oi := { dst := some 31, op := Op.nilCheck (Operand.tmp 30), type := 0, pos := "differ.go:41", after := #[{ on := 0, ground := Ground.data }], guard := none }) (v := .pointer (some ⟨c, 0, none⟩)) rfl (by kernel_rfl) (by kernel_rfl) (by kernel_rfl) (fun _ _ _ h => h) (Or.inl ⟨by rfl, fun w _ => rfl⟩) hS ?_
      (try simp only [Act.put, List.setIfInBounds_toArray, List.set_cons_zero, List.set_cons_succ])
      refine wpAnyH_take (i := 2) (oi := { dst := some 32, op := Op.load 98 (Operand.tmp 31), type := 98, pos := "differ.go:41", after := #[{ on := 1, ground := Ground.data }], guard := none }) (v := .agg (pageRow (fun i => Ma (k * 4096 + i)))) rfl (by kernel_rfl) (by kernel_rfl) (by kernel_rfl) (fun _ _ _ h => h) (Or.inl ⟨by rfl, fun w hw => yield81 hw _ rfl rfl⟩) hS ?_
      (try simp only [Act.put, List.setIfInBounds_toArray, List.set_cons_zero, List.set_cons_succ])
      refine wpAnyH_take (i := 3) (oi := { dst := some 33, op := Op.move (Operand.tmp 1), type := 26, pos := "differ.go:41", after := #[], guard := none }) (v := .pointer (some ⟨rb, 0, none⟩)) rfl (by kernel_rfl) (by kernel_rfl) (by kernel_rfl) (fun _ _ _ h => h) (Or.inl ⟨by rfl, fun w _ => rfl⟩) hS ?_
      (try simp only [Act.put, List.setIfInBounds_toArray, List.set_cons_zero, List.set_cons_succ])
      refine wpAnyH_take (i := 4) (oi := { dst := some 34, op := Op.move (Operand.tmp 6), type := 22, pos := "differ.go:41", after := #[], guard := none }) (v := .int .u64 (k : Nat)) rfl (by kernel_rfl) (by kernel_rfl) (by kernel_rfl) (fun _ _ _ h => h) (Or.inl ⟨by rfl, fun w _ => rfl⟩) hS ?_
      (try simp only [Act.put, List.setIfInBounds_toArray, List.set_cons_zero, List.set_cons_succ])
      refine wpAnyH_all (rs := [5]) (by kernel_rfl) (by simp) ?_
      intro i hi
      obtain rfl : i = 5 := by simpa using hi
      refine wpOp_step (o := { dst := some 35, op := Op.call { callee := Callee.value (Operand.func 61), args := #[Operand.tmp 33, Operand.tmp 34], argTypes := #[26, 22] }, type := 96, pos := "differ.go:41", after := #[{ on := 3, ground := Ground.data }, { on := 4, ground := Ground.data }], guard := none }) rfl (fun K' hK => ?_)
      rw [if_pos (by rfl)]
      refine wp_call41 _ _ rfl _ _ rfl rfl _ L.out ?_
      rintro e w2 ⟨b2, rfl, hpg2, hbl2⟩
      refine ⟨_, rfl, hK _ _ ⟨below_box (by exact X.out.2.1) hbl2, ?_⟩⟩
      clear hK
      have hS2 : w2.heap[c]? = some (.cells (pageRow (fun i => Ma (k * 4096 + i))) 98 (0, 0)) := below_box (by exact X.out.2.1) hbl2
      (try simp only [Act.put, List.setIfInBounds_toArray, List.set_cons_zero, List.set_cons_succ])
      refine wpAnyH_take (i := 6) (oi := { dst := some 36, op := Op.nilCheck (Operand.tmp 35), type := 0, pos := "differ.go:41", after := #[{ on := 5, ground := Ground.data }], guard := none }) (v := .pointer (some ⟨b2, 0, none⟩)) rfl (by kernel_rfl) (by kernel_rfl) (by kernel_rfl) (fun _ _ _ h => h) (Or.inl ⟨by rfl, fun w _ => rfl⟩) hS2 ?_
      (try simp only [Act.put, List.setIfInBounds_toArray, List.set_cons_zero, List.set_cons_succ])
      refine wpAnyH_all (rs := [7]) (by kernel_rfl) (by simp) ?_
      intro i hi
      obtain rfl : i = 7 := by simpa using hi
      refine wpOp_step (o := { dst := some 37, op := Op.load 98 (Operand.tmp 36), type := 98, pos := "differ.go:41", after := #[{ on := 6, ground := Ground.data }], guard := none }) rfl (fun K' hK => ?_)
      rw [if_pos (by rfl)]
      refine wp_load81 _ rfl b2 (fun i => Mb (k * 4096 + i)) rfl hpg2 ?_
      refine hK _ _ ⟨hS2, ?_⟩
      clear hK
      (try simp only [Act.put, List.setIfInBounds_toArray, List.set_cons_zero, List.set_cons_succ])
      refine wpAnyH_all (rs := [8]) (by kernel_rfl) (by simp) ?_
      intro i hi
      obtain rfl : i = 8 := by simpa using hi
      refine wpOp_step (o := { dst := some 38, op := Op.binOp BinOp.neq 98 (Operand.tmp 32) (Operand.tmp 37) 98, type := 4, pos := "differ.go:41", after := #[{ on := 2, ground := Ground.data }, { on := 7, ground := Ground.data }], guard := none }) rfl (fun K' hK => ?_)
      rw [if_pos (by rfl)]
      refine wp_neq81 _ _ _ rfl (fun i => Ma (k * 4096 + i)) (fun i => Mb (k * 4096 + i)) rfl rfl ?_
      refine hK _ _ ⟨hS2, ?_⟩
      clear hK
      (try simp only [Act.put, List.setIfInBounds_toArray, List.set_cons_zero, List.set_cons_succ])
      refine wpAnyH_done (by kernel_rfl) ?_ _
      refine NoPanic.normal ?_
      have hB2 : Below w1.heap.size w1 w2 := ((Below.refl w1.heap.size w1).drew).trans hbl2
      have Y : Hid _ := hB2
      clear hpg2 hbl2 hS2 hS hB2 L
      cases hpe : pageEq (fun i => Ma (k * 4096 + i)) (fun i => Mb (k * 4096 + i))
      · have hT : Apart Ma Mb k := (apart_iff Ma Mb k).1 hpe
        have HT : Hid _ := hT
        clear hT hpe
        go_wp2_with (first | (at_builtin; go_must (refine wpList_append_own_at _ rfl _ _ 102 rfl w.heap.size 22 i0 (.int .u64 0) 1 8 Try.underlying102 hinf hz0 hz1 hz2 rfl (by decide) _ ks.length (numRow ks) rfl (World.ownsRow.alloc (hunting_next C.out hba X.out.2.2.1 X.out.2.2.2.2.1 Y.out).2.1 _) ⟨w2.heap.size, 0, none⟩ 1 1 [.int .u64 (k : Nat)] rfl rfl (one_new _ _ _) (by intro u hu; simp at hu; subst hu; rfl) (by have q1 := HKL.out; have q2 := (hunting_next C.out hba X.out.2.2.1 X.out.2.2.2.2.1 Y.out).2.2.size; unfold maxLen; omega) (by have q1 := HKL.out; have q2 := (hunting_next C.out hba X.out.2.2.1 X.out.2.2.2.2.1 Y.out).2.2.size; first | omega | (simp; omega)) (by have q1 := HKL.out; have q2 := (hunting_next C.out hba X.out.2.2.1 X.out.2.2.2.2.1 Y.out).2.2.size; simp; omega) ?_); intro v' w3 hown' hgrow hnil hat))
        have hh := hunting_take C.out hba (fun _ h => h.elim) hk X.out.2.2.2.2.2.1 (by rw [X.out.2.2.2.2.2.2]; rfl) HT.out X.out.2.2.2.1 X.out.2.2.1 X.out.2.2.2.2.1 Y.out (v' := v') (w3 := w3) (by unfold Nums; rw [numRow_snoc, List.length_append]; exact hown') ((World.grownBy_alloc w2 (.cells #[.int .u64 (k : Nat)] 22) _).trans hgrow) (hat.imp id fun h => ⟨_, h, by simp⟩)
        exact ⟨⟨_, _, _, hh⟩, by rw [hh.1.left_eq, hrg.left_eq]; exact X.out.2.2.2.1⟩
      · have hT : ¬ Apart Ma Mb k := fun h => by rw [(apart_iff Ma Mb k).2 h] at hpe; cases hpe
        have HT : Hid _ := hT
        clear hT hpe
        go_wp2
        go_roundw
        case rel => exact ⟨_, _, _, hunting_skip C.out hba hk HT.out X.out.2.2.2.1 X.out.2.2.1 X.out.2.2.2.2.1 Y.out⟩
        case measure =>
          have h1 := (hunting_next C.out hba X.out.2.2.1 X.out.2.2.2.2.1 Y.out).1
          rw [h1.left_eq, hrg.left_eq]
          exact X.out.2.2.2.1
end Go.Proofs.Ythnmoalomodbpaa
