/- The document: Put. -/
import Derived.Test.YtjmgdhnjldimgaaDa
namespace Go.Proofs.Ytjmgdhnjldimgaa
open Go.RowKit
set_option linter.unusedVariables false
set_option linter.unusedSimpArgs false
set_option maxRecDepth 100000
/-- 'copy' into a row of its own that is as long -/
theorem wpList_copy_wa {w : World} {ops : Array Oper} {rest : List Oper} {o : Oper} {a : Act} {Q : Exit → Act → World → Prop} {x : Value} {d g n : Nat} {l : List Nat} {cur : Array Value} (hgd : o.guard = none) (s y : Operand) (ho : o.op = .call { callee := .builtin .copy, args := #[s, y], argTypes := #[25, 25] }) (hs : a.eval s = .slice (some ⟨g, 0, none⟩) n n) (hy : a.eval y = x) (hg : w.heap[g]? = some (.cells cur 5 (0, 0))) (hc : cur.size = n) (hm : n ≤ 1000000) (hr : RL w x d l) (hl : l.length = n)
    (hK : ∀ w', WA w' (.slice (some ⟨g, 0, none⟩) n n) g l → Upon g w w' → wpList Try.prog ops Q rest (a.put o.dst (.int .i64 (n : Nat))) w') : wpList Try.prog ops Q (o :: rest) a w := by
  obtain ⟨ax, cx, rfl, h1, h2, h3⟩ := hr
  by_cases h0 : l = []
  · subst h0
    rw [List.length_nil] at hl
    subst hl
    refine wpList_plain hgd fun _ hKK => ?_
    have hsz : (sizeOf 5).run Try.prog w = .ok 1 w := by kernel_rfl
    have hrun : (Builtin.copy_ #[25, 25] o.type #[.slice (some ⟨g, 0, none⟩) 0 0, .slice ax 0 cx]).run Try.prog w = .ok (.int .i64 0) w := by
      cases ax <;> simp [Builtin.copy_, run_underlying Try.underlying25, Builtin.lenOf, Builtin.firstCells, hsz, loadCells, loadCellsFrom, storeCells, goInt]
    unfold Oper.wp
    simp [execOp, ho, resolve, invoke, builtin, hs, hy, hrun, Result.andThen]
    exact hKK _ _ (hK w (.inr ⟨0, cur, rfl, hg, Nat.le_refl _, by omega, by omega, by simp [row8]⟩) (Upon.refl _ _))
  · obtain ⟨off, rfl, hl3⟩ := h3.resolve_left h0
    rw [hl] at hy h1
    refine wpList_copy_own hgd s y 25 25 ho 5 Try.underlying25 size5 g 0 n n ⟨d, off, none⟩ n cx hs hy cur 5 hg (row8 l) (by rw [row8_length, hl]; exact (Nat.min_self n).symm) (fun j u hu => by obtain ⟨z, e1, rfl⟩ := row8_at hu; rw [addr_add]; exact hl3 j z e1) (by rw [row8_length]; omega) (row8_one l) ?_
    rw [row8_length, hl]
    refine hK _ (.inr ⟨n, _, by rw [hl], setRow_heap w g cur _ 5 (0, 0) hg, by omega, ?_, by omega, ?_⟩) (upon_row (Upon.refl _ _) _)
    · simp only [List.size_toArray, List.length_append, List.length_take, List.length_drop, Array.length_toList, row8_length]
      omega
    · simp only [List.take_zero, List.nil_append]
      rw [← row8_length l]
      exact List.take_left
def midL (K : Fi) (i c : Nat) : Nat := (K.lost + (i - min i c)) % 18446744073709551616
def midK (K : Fi) (i c : Nat) : Fi := { K with lost := midL K i c }
theorem midL_next {K : Fi} {i c : Nat} (h : c ≤ i) : IntKind.u64.wrap ((midL K i c : Int) + 1) = (midL K (i + 1) c : Int) := by
  rw [wrap_u64]
  unfold midL
  rw [show min i c = c from by omega, show min (i + 1) c = c from by omega]
  omega
theorem midK_same {K : Fi} {i c : Nat} (h : i < c) : midK K (i + 1) c = midK K i c := by
  unfold midK midL
  rw [show min (i + 1) c = i + 1 from by omega, show min i c = i from by omega, Nat.sub_self, Nat.sub_self]
theorem midK_zero {K : Fi} (hK : K.Ok) (c : Nat) : midK K 0 c = K := by
  unfold midK midL
  rw [Nat.zero_min, Nat.add_zero, Nat.mod_eq_of_lt hK.lo]
theorem Tw.below_of {w W : World} {c d : Array Value} (h : Tw w W c d) : Below w.heap.size w W := h.2.2
set_option maxHeartbeats 4000000 in
theorem dput_any {w : World} {K : Fi} {va : Option Addr} {vc d dd : Nat} (hK : K.Ok) (hr : RL w (.slice va K.l.length vc) d K.l) (x : Value) (D : List Nat) (hx : RL w x dd D) (hL : D.length ≤ 100000) :
    Calls Try.prog 25 #[.agg (fifoC K (.slice va K.l.length vc)), x] w fun e w' => ∃ v2 c2 d', e = .returned (.tuple #[.agg (fifoC (putK K D) (.slice v2 (putK K D).l.length c2)), .int .i64 (putN K D : Nat)]) ∧ RL w' (.slice v2 (putK K D).l.length c2) d' (putK K D).l ∧ w.heap.size ≤ d' ∧ Below w.heap.size w w' := by
  obtain ⟨i0, hi, hz0, hz1, hz2⟩ := info_parts Try.info5
  have hle := hK.len
  have hrm := hK.rm.2
  obtain ⟨ax, cx, hv⟩ := hx.form
  subst hv
  obtain ⟨m, hm⟩ : ∃ m, D.length = m := ⟨_, rfl⟩
  obtain ⟨z, hz⟩ : ∃ z, K.l.length = z := ⟨_, rfl⟩
  obtain ⟨c, hc⟩ : ∃ c, K.room - z = c := ⟨_, rfl⟩
  have E : Hid (D.length = m ∧ K.l.length = z ∧ K.room - z = c ∧ z ≤ K.room ∧ midK K 0 c = K) := ⟨hm, hz, hc, by omega, midK_zero hK c⟩
  have F : Hid (putK K D = ⟨K.l ++ D.take (min m c), K.room, midL K m c, K.taken⟩ ∧ putN K D = min m c) := by
    have e : putN K D = min m c := by unfold putN; rw [hm, hz, hc]
    refine ⟨?_, e⟩
    unfold putK midL
    rw [e, hm]
  have H : Hid (RL w (.slice va K.l.length vc) d K.l ∧ RL w (.slice ax D.length cx) dd D) := ⟨hr, hx⟩
  clear hr hx hK
  rw [hm] at H hL
  rw [hz] at H hle
  rw [hm, hz]
  clear hm hz hc
  go_enter Try.func25, Try.ntmps25
  go_upto_region 0 with fail
  refine wp_region_list ?_
  refine wpList_enter2 K _ _ _ _ rfl rfl rfl rfl rfl ?_
  intro W hT
  have T0 : Hid (Tw w W (fifoC K (.slice va z vc)) zeroC) := hT
  clear hT
  have c0 := T0.out.1.cell 0 (.slice va z vc) rfl
  go_wp2_with (first | (at_make; refine wpList_make_full _ rfl _ _ 25 rfl W.heap.size 5 i0 (.int .u8 0) 1 Try.underlying25 hi hz0 hz1 _ _ _ _ z rfl rfl ?m1 ?m2 ?m3 ?m4 ?m5 ?_))
  case m1 => rfl
  case m2 => rfl
  case m3 => rw [hz2]; omega
  case m4 => unfold maxLen; omega
  case m5 => omega
  intro w1 hown0 hgrow0
  have hb0 : Below W.heap.size W w1 := Below.grown (Below.refl _ _) hgrow0 (Nat.le_refl _) (by simp)
  obtain ⟨cur, hcur, hcs⟩ : ∃ cur, w1.heap[W.heap.size]? = some (.cells cur 5 (0, 0)) ∧ cur.size = z := by
    rcases hown0.2 with ⟨h1, _⟩ | ⟨g', cap, cur, hv, _, hg, _, _, hsz, _⟩
    · cases h1
    · cases hv
      exact ⟨cur, hg, by omega⟩
  have Y : Hid (Tw w w1 (fifoC K (.slice va z vc)) zeroC ∧ w1.heap[W.heap.size]? = some (.cells cur 5 (0, 0)) ∧ cur.size = z ∧ w.heap.size + 1 < W.heap.size ∧ W.heap.size < w1.heap.size) := ⟨T0.out.step hb0, hcur, hcs, T0.out.lt, (Array.getElem?_eq_some_iff.1 hcur).1⟩
  clear hown0 hgrow0 hb0 hcur hcs T0 c0 hi hz0 hz1 hz2
  generalize W.heap.size = q at *
  have c0 := Y.out.1.1.cell 0 (.slice va z vc) rfl
  go_upto_region 2 with fail
  refine wp_region_list ?_
  (refine wpList_step (fun KK hKK => ?_); go_simp; refine hKK _ _ ?_; clear hKK KK)
  (refine wpList_step (fun KK hKK => ?_); go_simp; refine hKK _ _ ?_; clear hKK KK)
  (refine wpList_step (fun KK hKK => ?_); go_simp; refine hKK _ _ ?_; clear hKK KK)
  refine wpList_copy_wa rfl _ _ rfl rfl rfl Y.out.2.1 Y.out.2.2.1 (by omega) (H.out.1.step Y.out.1.2.2) E.out.2.1 ?_
  intro w2 h1 h2
  have Z : Hid (Tw w w2 (fifoC K (.slice va z vc)) zeroC ∧ WA w2 (.slice (some ⟨q, 0, none⟩) z z) q K.l ∧ w.heap.size + 1 < q) := by
    obtain ⟨⟨y1, y2, y3⟩, _, _, y4, y5⟩ := Y.out
    exact ⟨⟨h2.box y1 (by omega), h2.box y2 (by omega), y3.trans (h2.below (by omega) y3.size)⟩, h1, y4⟩
  clear h1 h2 Y c0
  go_wp2
  go_loopw [6, 7, 8] (fun vo vn vi wr => ∃ k go, k ≤ m ∧ vi = .int .i64 ((k : Nat) : Int) ∧ vn = .int .i64 ((min k c : Nat) : Int) ∧ WA wr vo go (K.l ++ D.take (min k c)) ∧ w.heap.size + 1 < go ∧ Tw w wr (fifoC (midK K k c) (.slice va z vc)) zeroC) (fun _ _ i _ => m - (intOf i).toNat)
  case atStart => exact ⟨0, q, Nat.zero_le _, rfl, by rw [Nat.zero_min]; rfl, by rw [Nat.zero_min, List.take_zero, List.append_nil]; exact Z.out.2.1, Z.out.2.2, by rw [E.out.2.2.2.2]; exact Z.out.1⟩
  case round =>
    obtain ⟨k, go, hk, rfl, rfl, hwa, hgo, htw⟩ := hrel
    clear Z
    obtain ⟨p, hp⟩ : ∃ p, min k c = p := ⟨_, rfl⟩
    rw [hp] at hwa
    rw [hp]
    have hform := hwa.reads.form
    have hln : (K.l ++ D.take p).length = z + p := by rw [List.length_append, List.length_take, E.out.1, E.out.2.1]; omega
    rw [hln] at hform
    obtain ⟨lo, hlo⟩ : ∃ lo, z + p = lo := ⟨_, rfl⟩
    rw [hlo] at hform
    obtain ⟨ao, co, hv⟩ := hform
    subst hv
    have T : Hid (WA wr (.slice ao lo co) go (K.l ++ D.take p) ∧ Tw w wr (fifoC (midK K k c) (.slice va z vc)) zeroC ∧ min k c = p ∧ z + p = lo) := ⟨hwa, htw, hp, hlo⟩
    have ee := E.out
    clear hwa htw hln
    have c1 := T.out.2.1.1.cell 1 (.int .i64 (K.room : Nat)) rfl
    by_cases hlt : k < m
    · have n1 : decide ((k : Int) < (m : Int)) = true := by simp; omega
      have n2 : decide (k < m) = true := by simp; omega
      by_cases hroom : k < c
      · have n3 : decide ((lo : Int) < (K.room : Int)) = true := by simp; omega
        have n4 : decide (lo < K.room) = true := by simp; omega
        obtain ⟨y, hy⟩ : ∃ y, D[k]? = some y := ⟨_, get_cast (by omega)⟩
        obtain ⟨av, cv, e1, _, _, hR⟩ := H.out.2.step T.out.2.1.2.2
        simp only [Value.slice.injEq] at e1
        obtain ⟨rfl, -, rfl⟩ := e1
        obtain ⟨off, rfl, hl⟩ := hR.resolve_left (by intro e; rw [e] at hy; simp at hy)
        have cy := hl k y hy
        have HY : Hid (D[k]? = some y) := hy
        have hkm : (k : Int) < m := by omega
        have hpk : p = k := by omega
        have B : Hid (k < m ∧ k < c ∧ p = k ∧ z + p = lo ∧ z ≤ 4096) := ⟨hlt, hroom, hpk, hlo, by omega⟩
        clear hl hy hR ee hp hlo hlt hroom hpk hle hrm hk
        go_upto_region 8 with fail
        refine wp_region_list ?_
        (refine wpList_step (fun KK hKK => ?_); go_simp; refine hKK _ _ ?_; clear hKK KK)
        (refine wpList_step (fun KK hKK => ?_); go_simp; refine hKK _ _ ?_; clear hKK KK)
        (refine wpList_step (fun KK hKK => ?_); go_simp; refine hKK _ _ ?_; clear hKK KK)
        (refine wpList_step (fun KK hKK => ?_); go_simp; refine hKK _ _ ?_; clear hKK KK)
        (refine wpList_step (fun KK hKK => ?_); go_simp; refine hKK _ _ ?_; clear hKK KK)
        (refine wpList_step (fun KK hKK => ?_); go_simp; refine hKK _ _ ?_; clear hKK KK)
        have b1 : Below wr.heap.size wr (wr.alloc (.cells #[.int .u8 (y : Nat)] 5)) := (Below.refl _ _).alloc (Nat.le_refl _) _
        have Z : Hid (RL (wr.alloc (.cells #[.int .u8 (y : Nat)] 5)) (.slice (some ⟨wr.heap.size, 0, none⟩) 1 1) wr.heap.size [y] ∧ WA (wr.alloc (.cells #[.int .u8 (y : Nat)] 5)) (.slice ao lo co) go (K.l ++ D.take p) ∧ Tw w (wr.alloc (.cells #[.int .u8 (y : Nat)] 5)) (fifoC (midK K k c) (.slice va z vc)) zeroC) := ⟨RL.one (Box.new 5 wr _), T.out.1.step b1, T.out.2.1.step b1⟩
        have hsw : wr.heap.size < (wr.alloc (.cells #[.int .u8 (y : Nat)] 5)).heap.size := by simp
        have htl := T.out.2.1.lt
        clear b1 cy c1 T
        generalize wr.alloc (.cells #[.int .u8 (y : Nat)] 5) = w1 at *
        generalize wr.heap.size = q1 at *
        refine wpList_append_wa rfl _ _ rfl rfl rfl Z.out.2.1 Z.out.1 (by have b := B.out; have e := E.out; rw [List.length_append, List.length_take, e.1, e.2.1]; show _ + 1 ≤ _; omega) ?_
        intro v2 w2 g2 h1 h2 h3
        have V : Hid (WA w2 v2 g2 (K.l ++ D.take (min (k + 1) c)) ∧ w.heap.size + 1 < g2 ∧ Tw w w2 (fifoC (midK K (k + 1) c) (.slice va z vc)) zeroC ∧ (K.l ++ D.take (min (k + 1) c)).length = z + (k + 1) ∧ min (k + 1) c = k + 1) := by
          have b := B.out
          have e := E.out
          have e1 : min (k + 1) c = k + 1 := by omega
          obtain ⟨z1, z2, z3⟩ := Z.out.2.2
          have h4 : K.l ++ D.take p ++ [y] = K.l ++ D.take (k + 1) := by rw [List.append_assoc, b.2.2.1, List.take_add_one, HY.out]; rfl
          rw [e1]
          rw [h4] at h1
          refine ⟨h1, by omega, ?_, by rw [List.length_append, List.length_take, e.1, e.2.1]; omega, rfl⟩
          rw [midK_same b.2.1]
          exact ⟨h2.box z1 (by omega), h2.box z2 (by omega), z3.trans (h2.below (by omega) z3.size)⟩
        clear h1 h2 h3 Z
        have hform2 := V.out.1.reads.form
        rw [V.out.2.2.2.1] at hform2
        obtain ⟨a2, cp2, hv⟩ := hform2
        subst hv
        have b := B.out
        have hpk : p = k := b.2.2.1
        have hkm2 : k < m := b.1
        clear b
        go_wp2
        exact ⟨⟨k + 1, g2, by omega, by go_num, by rw [V.out.2.2.2.2]; go_num, V.out.1, V.out.2.1, V.out.2.2.1⟩, by simp [intOf]; omega⟩
      · have n3 : decide ((lo : Int) < (K.room : Int)) = false := by simp; omega
        have n4 : decide (lo < K.room) = false := by simp; omega
        have c2 := T.out.2.1.1.cell 2 (.int .u64 (midL K k c : Nat)) rfl
        have f2 := T.out.2.1.1.frozen 2
        have e3 := midL_next (K := K) (show c ≤ k by omega)
        have hpc : min (k + 1) c = p := by omega
        have B : Hid (k < m ∧ min (k + 1) c = p) := ⟨hlt, hpc⟩
        clear ee hp hlo hlt hroom hpc
        go_upto_region 6 with fail
        have V : Hid (WA (wr.setCell ⟨w.heap.size, 2, none⟩ (.int .u64 (midL K (k + 1) c : Nat))) (.slice ao lo co) go (K.l ++ D.take p) ∧ Tw w (wr.setCell ⟨w.heap.size, 2, none⟩ (.int .u64 (midL K (k + 1) c : Nat))) (fifoC (midK K (k + 1) c) (.slice va z vc)) zeroC) := by
          have hu : Upon w.heap.size wr (wr.setCell ⟨w.heap.size, 2, none⟩ (.int .u64 (midL K (k + 1) c : Nat))) := (Upon.refl _ _).set 2 _
          exact ⟨T.out.1.upon hu (by omega), T.out.2.1.set 2 _⟩
        clear T c1 c2 f2
        generalize wr.setCell ⟨w.heap.size, 2, none⟩ (.int .u64 (midL K (k + 1) c : Nat)) = w2 at *
        have b := B.out
        have hkm2 : k < m := b.1
        clear b
        go_wp2
        exact ⟨⟨k + 1, go, by omega, by go_num, by rw [B.out.2], by rw [B.out.2]; exact V.out.1, hgo, V.out.2⟩, by simp [intOf]; omega⟩
    · have n1 : decide ((k : Int) < (m : Int)) = false := by simp; omega
      have n2 : decide (k < m) = false := by simp; omega
      have hkm : k = m := by omega
      have c0 := T.out.2.1.1.cell 0 (.slice va z vc) rfl
      have f0 := T.out.2.1.1.frozen 0
      have hL2 : (putK K D).l = K.l ++ D.take p ∧ midK K k c = { putK K D with l := K.l } ∧ putN K D = p := by
        have f := F.out
        rw [hkm] at hp
        rw [f.1, f.2, hp, hkm]
        exact ⟨rfl, rfl, rfl⟩
      have hlen : (putK K D).l.length = lo := by rw [hL2.1, List.length_append, List.length_take, ee.1, ee.2.1]; omega
      have L : Hid ((putK K D).l = K.l ++ D.take p ∧ midK K k c = { putK K D with l := K.l } ∧ putN K D = p ∧ (putK K D).l.length = lo) := ⟨hL2.1, hL2.2.1, hL2.2.2, hlen⟩
      clear hL2 ee hp hlo hlen hkm hlt
      go_upto_region 12 with fail
      have V : Hid (WA (wr.setCell ⟨w.heap.size, 0, none⟩ (.slice ao lo co)) (.slice ao lo co) go (putK K D).l ∧ Tw w (wr.setCell ⟨w.heap.size, 0, none⟩ (.slice ao lo co)) (fifoC (putK K D) (.slice ao lo co)) zeroC) := by
        have hu : Upon w.heap.size wr (wr.setCell ⟨w.heap.size, 0, none⟩ (.slice ao lo co)) := (Upon.refl _ _).set 0 _
        have t := T.out.2.1.set 0 (.slice ao lo co)
        rw [L.out.2.1] at t
        refine ⟨by rw [L.out.1]; exact T.out.1.upon hu (by omega), t⟩
      clear T c0 f0 c1
      generalize wr.setCell ⟨w.heap.size, 0, none⟩ (.slice ao lo co) = w2 at *
      refine wp_region_list ?_
      refine wpList_load28 rfl _ rfl w.heap.size (putK K D) _ _ _ rfl V.out.2.1 ?_
      (refine wpList_step (fun KK hKK => ?_); go_simp; refine hKK _ _ ?_; clear hKK KK)
      refine wpList_store28 rfl _ _ rfl (w.heap.size + 1) (putK K D) _ _ _ zeroC rfl rfl V.out.2.2.1 rfl ?_
      intro W9 B9 U9
      have T9 : Hid (Tw w W9 (fifoC (putK K D) (.slice ao lo co)) (fifoC (putK K D) (.slice ao lo co)) ∧ WA W9 (.slice ao lo co) go (putK K D).l) := ⟨V.out.2.res B9 U9, V.out.1.upon U9 (by omega)⟩
      clear B9 U9 V
      go_wp2_with fail
      refine bodyPost_ret (v := .tuple #[.agg (fifoC (putK K D) (.slice ao lo co)), .int .i64 (p : Nat)]) (results2 (p := 4) (t := 5) rfl _ _ (w.heap.size + 1) (putK K D) _ _ _ rfl T9.out.1.2.1) rfl ?_
      rw [L.out.2.2.2, L.out.2.2.1]
      exact ⟨_, _, rfl, go, T9.out.2.reads, by omega, T9.out.1.2.2⟩
end Go.Proofs.Ytjmgdhnjldimgaa
