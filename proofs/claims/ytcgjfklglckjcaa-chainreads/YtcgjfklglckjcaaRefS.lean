/- The document's answers Write, where it puts bytes, and Store of layer 2. -/
import Derived.Test.YtcgjfklglckjcaaRefW
namespace Go.Proofs.Ytcgjfklglckjcaa
open Go.RowKit Go.Maps
set_option linter.unusedVariables false
theorem Step.drew {F F' : Nat → Prop} {w w' : World} (h : Step F w F' w') : Step F w F' w'.drew := ⟨h.os, h.tape, h.output, h.size, h.block, h.old, h.keep⟩
theorem step_pair (w : World) (g k : Nat) (a b : Value) : Step (fun x => x = g) w (fun x => x = g) ((w.setCell ⟨g, k * 2, none⟩ a).setCell ⟨g, k * 2 + 1, none⟩ b) :=
  (step_setCell w g (k * 2) a).trans (step_setCell _ g (k * 2 + 1) b)
set_option maxHeartbeats 2000000 in
theorem rwrite_in (F : Nat → Prop) (w : World) (s x L n : Nat) (v d : Value) (bs : Nat → Nat × Nat) (f : Nat → Nat) (h : RefIn F w v n bs) (hd : Reads .u8 w d L f) (hn : n ≤ 1000000) (hs : s ≤ 268435456) (hx : x < 18446744073709551616) (hL : L ≤ 1000000) (hin : inB x L 2147483648 s = true) :
    Calls Try.prog 33 #[.agg #[.int .u64 (s : Nat), v], .int .u64 (x : Nat), d] w fun e w' => ∃ v', e = .returned (.tuple #[.agg #[.int .u64 (s : Nat), v'], .bool true]) ∧ RefIn (fun k => k < w.heap.size) w' v' (n + L) (wrote bs n x f) ∧ Below w.heap.size w w' := by
  obtain ⟨i0, hi, hz0, hz1, hz2⟩ := info_parts Try.info125
  obtain ⟨av, cv, rfl⟩ := h.form
  obtain ⟨adt, cd, rfl⟩ := reads_form hd
  have hb : (2147483648 : Int) ≤ x ∧ (x : Int) + L ≤ 2147483648 + s := by simpa [inB] using hin
  obtain ⟨N, hN⟩ : ∃ N : Nat, (n : Int) + (L : Int) = (N : Nat) := ⟨n + L, by omega⟩
  have hN2 : N ≤ 2000000 ∧ n ≤ N := by omega
  have HN : Hid (N = n + L) := by show N = n + L; omega
  have H : Hid (_ ∧ _ ∧ _) := ⟨hin, h, hd⟩
  clear hin h hd
  go_enter Try.func33, Try.ntmps33
  go_wp2_with (first | (go_at_call 17; refine (rhas_any s x L _ (by omega) hx (by omega) _).mono ?_; rintro e w1 ⟨rfl, hb1⟩; rw [H.out.1]; have hbx := boxes hb1; obtain ⟨a0, a1, a2, a3⟩ := box_facts hbx.1; obtain ⟨d0, d1, d2, d3⟩ := box_facts hbx.2.1; have X : Hid (_ ∧ _ ∧ _ ∧ _) := hbx; clear hbx hb1) | (at_make; refine wpList_make_full _ rfl _ _ 30 rfl w1.heap.size 125 i0 (.agg #[.int .u64 0, .int .u8 0]) 2 Try.underlying30 hi hz0 hz1 _ _ _ _ N rfl rfl ?m1 ?m2 ?m3 ?m4 ?m5 ?_))
  case m1 => first | rfl | exact hN
  case m2 => first | rfl | exact hN
  case m3 => rw [hz2]; omega
  case m4 => unfold maxLen; omega
  case m5 => omega
  · intro w2 hown0 hgrow0
    have hp0 := pairs_made hown0
    obtain ⟨x1, x2, x3, x4⟩ := X.out
    have hB2 : Below w.heap.size w w2 := Below.grown x3 hgrow0 x3.size (by simp)
    have y1 : w2.heap[w.heap.size]? = some (.cells #[.int .u64 (s : Nat), .slice av n cv] 32) := (hgrow0.block _ (by omega) (by simp)).trans x1
    have y2 : w2.heap[w.heap.size + 1]? = some (.cells #[.int .u64 0, .slice none 0 0] 32) := (hgrow0.block _ (by omega) (by simp)).trans x2
    have hg : w.heap.size + 2 ≤ w1.heap.size := x4
    generalize w1.heap.size = g at *
    have Y : Hid (_ ∧ _ ∧ _ ∧ _) := ⟨hp0, hB2, y1, y2⟩
    clear hp0 hB2 y1 y2 x1 x2 x3 x4 X hown0 hgrow0 a0 a1 a2 a3 d0 d1 d2 d3
    go_wp2
    go_loopw [9] (fun i wr => ∃ k : Nat, k ≤ n ∧ i = .int .i64 k ∧ PairsAt wr g N (fun i => if i < k then bs i else (0, 0)) ∧ Step (fun x => x = g) w2 (fun x => x = g) wr) (fun i _ => n - (intOf i).toNat)
    case atStart => exact ⟨0, by omega, rfl, Y.out.1.congr (fun i hi => by simp), Step.refl _ _⟩
    case round =>
      obtain ⟨k, hk, rfl, hp, hst⟩ := hrel
      have z1 : wr.heap[w.heap.size]? = some (.cells #[.int .u64 (s : Nat), .slice av n cv] 32) := (hst.block _ (Array.getElem?_eq_some_iff.1 Y.out.2.2.1).1 (by omega)).trans Y.out.2.2.1
      obtain ⟨a0, a1, a2, a3⟩ := box_facts z1
      clear z1
      by_cases hlt : k < n
      · obtain ⟨c1, c2⟩ := hp.2 k (by omega)
        have f1 := hp.frozen (k * 2)
        have f2 := hp.frozen (k * 2 + 1)
        have hBw : Below w.heap.size w wr := Y.out.2.1.trans (hst.below Y.out.2.1.size (fun q hq => by omega))
        have hr := H.out.2.1.below hBw
        rcases hr with ⟨h0, _⟩ | ⟨gv, c', hv, _, hc⟩
        · omega
        simp only [Value.slice.injEq] at hv
        obtain ⟨rfl, -, rfl⟩ := hv
        obtain ⟨e1, e2⟩ := hc k hlt
        have hkn : (k : Int) < n := by omega
        have hkN : (k : Int) < N := by omega
        have Z : Hid (_ ∧ _) := ⟨hp, hst⟩
        clear hc hp hst hBw
        generalize hq1 : (bs k).1 = q1 at *
        generalize hq2 : (bs k).2 = q2 at *
        have HQ : Hid (_ ∧ _) := ⟨hq1, hq2⟩
        clear hq1 hq2
        go_wp2
        go_roundw
        case rel =>
          refine ⟨k + 1, by omega, by go_num, (Z.out.1.set k q1 q2 (by omega)).congr (fun i hi => ?_), Z.out.2.trans (step_pair _ _ _ _ _)⟩
          by_cases e : i = k
          · subst e
            rw [if_pos rfl, if_pos (by omega), ← HQ.out.1, ← HQ.out.2]
          · rw [if_neg e]
            by_cases h1 : i < k
            · rw [if_pos h1, if_pos (by omega)]
            · rw [if_neg h1, if_neg (by omega)]
        case measure => simp [intOf]; omega
      · obtain rfl : k = n := by omega
        have hp1 : PairsAt wr g N (fun i => if i < k + 0 then wrote bs k x f i else (0, 0)) := hp.congr (fun i hi => by
          by_cases h1 : i < k
          · rw [if_pos h1, if_pos (by omega)]; unfold wrote; rw [if_pos h1]
          · rw [if_neg h1, if_neg (by omega)])
        have Z : Hid (_ ∧ _) := ⟨hp1, hst⟩
        clear hp hp1 hst
        go_wp2
        go_loopw [10] (fun i wr => ∃ j : Nat, j ≤ L ∧ i = .int .i64 j ∧ PairsAt wr g N (fun i => if i < k + j then wrote bs k x f i else (0, 0)) ∧ Step (fun x => x = g) w2 (fun x => x = g) wr) (fun i _ => L - (intOf i).toNat)
        case atStart => exact ⟨0, by omega, rfl, Z.out.1, Z.out.2⟩
        case round =>
          obtain ⟨j, hj, rfl, hp, hst⟩ := hrel
          clear Z a0 a1 a2 a3
          have z1 : wr.heap[w.heap.size]? = some (.cells #[.int .u64 (s : Nat), .slice av k cv] 32) := (hst.block _ (Array.getElem?_eq_some_iff.1 Y.out.2.2.1).1 (by omega)).trans Y.out.2.2.1
          have z2 : wr.heap[w.heap.size + 1]? = some (.cells #[.int .u64 0, .slice none 0 0] 32) := (hst.block _ (Array.getElem?_eq_some_iff.1 Y.out.2.2.2).1 (by omega)).trans Y.out.2.2.2
          have hBw : Below w.heap.size w wr := Y.out.2.1.trans (hst.below Y.out.2.1.size (fun q hq => by omega))
          obtain ⟨a0, a1, a2, a3⟩ := box_facts z1
          by_cases hlt : j < L
          · clear z1 z2
            obtain ⟨y, hy⟩ : ∃ y : Nat, (k : Int) + (j : Int) = (y : Nat) := ⟨k + j, by omega⟩
            obtain ⟨z, hz⟩ : ∃ z : Nat, (x : Int) + (j : Int) = (z : Nat) := ⟨x + j, by omega⟩
            have hyN : y < N := by omega
            have hyN2 : (y : Int) < N := by omega
            have hzb : z < 18446744073709551616 := by omega
            have HY : Hid (y = k + j ∧ z = x + j) := by constructor <;> omega
            obtain ⟨c1, c2⟩ := hp.2 y (by omega)
            have f1 := hp.frozen (y * 2)
            have f2 := hp.frozen (y * 2 + 1)
            have hr := reads_below H.out.2.2 hBw
            obtain ⟨bd, od, c', hv, hc⟩ := reads_some hr (by omega)
            simp only [Value.slice.injEq] at hv
            obtain ⟨rfl, -, rfl⟩ := hv
            have e1 := hc j hlt
            have hjL : (j : Int) < L := by omega
            have Z : Hid (_ ∧ _) := ⟨hp, hst⟩
            clear hc hp hst hBw hr
            generalize hq1 : f j = q1 at *
            have HQ : Hid (f j = q1) := hq1
            clear hq1
            go_wp2
            go_region
            go_wp2
            go_roundw
            case rel =>
              refine ⟨j + 1, by omega, by go_num, (Z.out.1.set y z q1 hyN).congr (fun i hi => ?_), Z.out.2.trans (step_pair _ _ _ _ _).drew⟩
              obtain ⟨hy1, hz1⟩ := HY.out
              by_cases e : i = y
              · subst e
                rw [if_pos rfl, if_pos (by omega)]
                unfold wrote
                rw [if_neg (by omega), show i - k = j from by omega, HQ.out, hz1]
              · rw [if_neg e]
                by_cases h1 : i < k + j
                · rw [if_pos h1, if_pos (by omega)]
                · rw [if_neg h1, if_neg (by omega)]
            case measure => simp [intOf]; omega
          · obtain rfl : j = L := by omega
            obtain ⟨d0, d1, d2, d3⟩ := box_facts z2
            have Z : Hid (_ ∧ _) := ⟨hp, hBw⟩
            clear hp hst hBw z1 z2
            go_wp2
            refine bodyPost_ret (v := .tuple #[.agg #[.int .u64 (s : Nat), .slice (some ⟨g, 0, none⟩) N N], .bool true]) (by simp [results, Try.results33, go_sem, d0, d1]) rfl ⟨_, rfl, ?_, ?_⟩
            · rw [← HN.out]
              refine .inr ⟨g, N, rfl, by omega, fun i hi => ?_⟩
              obtain ⟨c1, c2⟩ := Z.out.1.2 i hi
              have hij : i < k + j := by have := HN.out; omega
              simp only [hij, if_true] at c1 c2
              refine ⟨?_, ?_⟩
              · rw [World.cell?_setCell_other _ _ _ _ (fun h => by simp only [Addr.mk.injEq] at h; omega), World.cell?_setCell_other _ _ _ _ (fun h => by simp only [Addr.mk.injEq] at h; omega), World.cell?_setCell_other _ _ _ _ (fun h => by simp only [Addr.mk.injEq] at h; omega)]
                exact c1
              · rw [World.cell?_setCell_other _ _ _ _ (fun h => by simp only [Addr.mk.injEq] at h; omega), World.cell?_setCell_other _ _ _ _ (fun h => by simp only [Addr.mk.injEq] at h; omega), World.cell?_setCell_other _ _ _ _ (fun h => by simp only [Addr.mk.injEq] at h; omega)]
                exact c2
            · exact ((Z.out.2.setCell (p := ⟨w.heap.size, 1, none⟩) (Nat.le_refl _) _).setCell (p := ⟨w.heap.size + 1, 0, none⟩) (by simp) _).setCell (p := ⟨w.heap.size + 1, 1, none⟩) (by simp) _
end Go.Proofs.Ytcgjfklglckjcaa
