/- The statement on what is told to a log returns true for every input. -/
import Derived.Test.YtbodmgihoklhiaaTold
namespace Go.Proofs.Ytbodmgihoklhiaa
open Go.RowKit Go.Maps
set_option linter.unusedVariables false
/-- a memory that is watched, and beside it two lists of pieces of the asker's -/
def Mid (W : World) (G : Nat → Prop) (rb lb n : Nat) (w : World) (ws rs : List (Nat × Nat)) (vw vr : Value) (ws0 rs0 : List (Nat × Nat)) : Prop :=
  LogAt W.heap.size w G rb n lb ws rs ∧ SpanIn W.heap.size w vw ws0 ∧ SpanIn W.heap.size w vr rs0 ∧ (∀ g, vw.ownBlock = some g → ¬ G g ∧ vr.ownBlock ≠ some g) ∧ (∀ g, vr.ownBlock = some g → ¬ G g) ∧ Below W.heap.size W w ∧ (∀ q, G q → W.heap.size ≤ q)
theorem Mid.below {W : World} {G : Nat → Prop} {rb lb n : Nat} {w w1 : World} {ws rs ws0 rs0 : List (Nat × Nat)} {vw vr : Value} (h : Mid W G rb lb n w ws rs vw vr ws0 rs0) (hb : Below w.heap.size w w1) : Mid W G rb lb n w1 ws rs vw vr ws0 rs0 := by
  obtain ⟨h1, h2, h3, h4, h5, h6, h7⟩ := h
  exact ⟨h1.below hb, h2.kept (fun g hg => hb.block g (h2.lt g hg).2), h3.kept (fun g hg => hb.block g (h3.lt g hg).2), h4, h5, h6.trans (hb.mono h6.size), h7⟩
theorem Mid.step {W : World} {G G1 : Nat → Prop} {rb lb n n1 : Nat} {w w1 : World} {ws rs ws0 rs0 ws1 rs1 : List (Nat × Nat)} {vw vr : Value} (h : Mid W G rb lb n w ws rs vw vr ws0 rs0) (hl : LogAt W.heap.size w1 G1 rb n1 lb ws1 rs1) (hs : Step G w G1 w1) : Mid W G1 rb lb n1 w1 ws1 rs1 vw vr ws0 rs0 := by
  obtain ⟨h1, h2, h3, h4, h5, h6, h7⟩ := h
  have hn : ∀ g, g < w.heap.size → ¬ G g → ¬ G1 g := fun g hg hf h => by rcases hs.old g h with h' | h'; exact hf h'; omega
  exact ⟨hl, h2.kept (fun g hg => hs.block g (h2.lt g hg).2 (h4 g hg).1), h3.kept (fun g hg => hs.block g (h3.lt g hg).2 (h5 g hg)), fun g hg => ⟨hn g (h2.lt g hg).2 (h4 g hg).1, (h4 g hg).2⟩, fun g hg => hn g (h3.lt g hg).2 (h5 g hg), h6.trans (hs.below h6.size h7), hs.base h6.size h7⟩
theorem LogAt.grown {B : Nat} {w w1 : World} {G : Nat → Prop} {rb n lb : Nat} {ws rs : List (Nat × Nat)} {row : Option Nat} (h : LogAt B w G rb n lb ws rs) (hg : w.grownBy w1 row) (hr : ∀ k, row = some k → ¬ G k) : LogAt B w1 G rb n lb ws rs := by
  obtain ⟨F, lw, lr, M, h⟩ := h
  exact ⟨F, lw, lr, M, h.kept hg.size (fun k hk => hg.block k (h.2.2.2.2.2.2.2.2.2 k hk) (fun e => hr k e.symm hk))⟩
theorem Mid.addW {W : World} {G : Nat → Prop} {rb lb n : Nat} {w w1 : World} {ws rs ws0 rs0 : List (Nat × Nat)} {vw vr v' : Value} {x L : Nat} (h : Mid W G rb lb n w ws rs vw vr ws0 rs0) (ha : Added W.heap.size w w1 vw v' ws0 x L) : Mid W G rb lb n w1 ws rs v' vr (ws0 ++ [(x, L)]) rs0 := by
  obtain ⟨h1, h2, h3, h4, h5, h6, h7⟩ := h
  obtain ⟨a1, a2, a3⟩ := ha
  refine ⟨h1.grown a2 (fun k hk => (h4 k hk).1), a1, h3.kept (fun g hg => a2.block g (h3.lt g hg).2 (fun e => (h4 g e.symm).2 hg)), fun g hg => ?_, h5, Below.grown h6 a2 h6.size (fun j hj => (h2.lt j hj).1), h7⟩
  rcases a3 with e | ⟨g', e, hge⟩
  · exact h4 g (e ▸ hg)
  · rw [e] at hg; cases hg
    exact ⟨fun hf => by have := h1.lt _ hf; omega, fun e2 => by have := (h3.lt _ e2).2; omega⟩
theorem Mid.addR {W : World} {G : Nat → Prop} {rb lb n : Nat} {w w1 : World} {ws rs ws0 rs0 : List (Nat × Nat)} {vw vr v' : Value} {x L : Nat} (h : Mid W G rb lb n w ws rs vw vr ws0 rs0) (ha : Added W.heap.size w w1 vr v' rs0 x L) : Mid W G rb lb n w1 ws rs vw v' ws0 (rs0 ++ [(x, L)]) := by
  obtain ⟨h1, h2, h3, h4, h5, h6, h7⟩ := h
  obtain ⟨a1, a2, a3⟩ := ha
  refine ⟨h1.grown a2 (fun k hk => h5 k hk), h2.kept (fun g hg => a2.block g (h2.lt g hg).2 (fun e => (h4 g hg).2 e.symm)), a1, fun g hg => ⟨(h4 g hg).1, fun e2 => ?_⟩, fun g hg => ?_, Below.grown h6 a2 h6.size (fun j hj => (h3.lt j hj).1), h7⟩
  · rcases a3 with e | ⟨g', e, hge⟩
    · exact (h4 g hg).2 (e ▸ e2)
    · rw [e] at e2; cases e2; have := (h2.lt _ hg).2; omega
  · rcases a3 with e | ⟨g', e, hge⟩
    · exact h5 g (e ▸ hg)
    · rw [e] at hg; cases hg
      intro hf; have := h1.lt _ hf; omega
theorem Mid.mono {W : World} {G : Nat → Prop} {rb lb n n' : Nat} {w : World} {ws rs ws0 rs0 : List (Nat × Nat)} {vw vr : Value} (h : Mid W G rb lb n w ws rs vw vr ws0 rs0) (hn : n ≤ n') : Mid W G rb lb n' w ws rs vw vr ws0 rs0 := ⟨h.1.mono hn, h.2⟩
theorem logStore {B : Nat} {w : World} {G : Nat → Prop} {rb n lb : Nat} {ws rs : List (Nat × Nat)} (h : LogAt B w G rb n lb ws rs) (x : Nat) (k : Int) (y : Nat) (b : Bool) (hb : putB x k 4096 = b) (hx : x < 18446744073709551616) (hy : y < 18446744073709551616) (hn : n + 8 ≤ 1000000) (hl : ws.length < 4096) (hB : B ≤ w.heap.size) :
    Calls Try.prog 17 #[.pointer (some ⟨rb, 0, none⟩), .int .u64 (x : Nat), .int .i64 k, .int .u64 (y : Nat)] w fun e w' => e = .returned (.bool b) ∧ ∃ G', LogAt B w' G' rb (n + 8) lb (if b = true then ws ++ [(x, k.toNat)] else ws) rs ∧ Step G w G' w' := by
  subst hb; exact store_log h x k y hx hy hn hl hB
theorem store_2g {w : World} {F : Nat → Prop} {rb n : Nat} {M : Nat → Nat} (h : RamAt w F rb 4096 n (.pointer none) M) (hn : n + 8 ≤ 1000000) :
    Calls Try.prog 17 #[.pointer (some ⟨rb, 0, none⟩), .int .u64 2147483648, .int .i64 1, .int .u64 1] w fun e w' => e = .returned (.bool true) ∧ ∃ F' M', RamAt w' F' rb 4096 (n + 8) (.pointer none) M' ∧ Step F w F' w' :=
  (store_any h (by omega) 2147483648 1 1 (by omega) (by omega) hn).mono fun e w' ⟨he, F', h1, h2⟩ => ⟨he, F', _, h1, h2⟩
theorem SpanIn.below2 {B : Nat} {w w' : World} {v : Value} {l : List (Nat × Nat)} (h : SpanIn B w v l) (hb : Below w.heap.size w w') : SpanIn B w' v l := h.kept (fun g hg => hb.block g (h.lt g hg).2)
/-- what is there when the memory is watched no more -/
theorem logs_end {W : World} {G F F5 : Nat → Prop} {rb n lb : Nat} {w w5 : World} {lw lr vw vr : Value} {M : Nat → Nat} {ws rs : List (Nat × Nat)} (h : LogIn W.heap.size w G F rb n lb lw lr M ws rs)
    (hm : SpanIn W.heap.size w vw ws ∧ SpanIn W.heap.size w vr rs ∧ (∀ g, vw.ownBlock = some g → ¬ G g ∧ vr.ownBlock ≠ some g) ∧ (∀ g, vr.ownBlock = some g → ¬ G g) ∧ Below W.heap.size W w ∧ (∀ q, G q → W.heap.size ≤ q)) (hs : Step F (w.setCell ⟨rb, 2, none⟩ (.pointer none)) F5 w5) :
    w5.heap[lb]? = some (.cells #[lw, lr] 49 (0, 0)) ∧ SpanIn W.heap.size w5 lw ws ∧ SpanIn W.heap.size w5 lr rs ∧ SpanIn W.heap.size w5 vw ws ∧ SpanIn W.heap.size w5 vr rs ∧ Below W.heap.size W w5 := by
  obtain ⟨h1, h2, h3, h4, h5, h6, h7, h8, h9, h10⟩ := h
  obtain ⟨m1, m2, m3, m4, m5, m6⟩ := hm
  have e0 : (w.setCell ⟨rb, 2, none⟩ (.pointer none)).heap.size = w.heap.size := by simp [World.setCell]
  have hF : F rb := h1.own
  have keep : ∀ g, g < w.heap.size → ¬ F g → w5.heap[g]? = w.heap[g]? := fun g hg hf => by
    rw [hs.block g (by omega) hf]
    exact heap_setCell w rb 2 _ g (fun e => hf (e ▸ hF))
  have hB1 : Below W.heap.size W (w.setCell ⟨rb, 2, none⟩ (.pointer none)) := m5.setCell (p := ⟨rb, 2, none⟩) (m6 rb (h7 rb hF)) _
  exact ⟨(keep lb (h10 lb h8) h9).trans h2, h3.kept (fun g hg => keep g (h3.lt g hg).2 (h5 g hg).1), h4.kept (fun g hg => keep g (h4.lt g hg).2 (h6 g hg).1), m1.kept (fun g hg => keep g (m1.lt g hg).2 (fun hf => (m3 g hg).1 (h7 g hf))), m2.kept (fun g hg => keep g (m2.lt g hg).2 (fun hf => m4 g hg (h7 g hf))), hB1.trans (hs.below hB1.size (fun q hq => m6 q (h7 q hq)))⟩
set_option maxRecDepth 100000 in
set_option maxHeartbeats 8000000 in
theorem logs_walk (W : World) (v : Value) (len : Nat) (ops : Nat → OpD) (hsc : ScriptIn W v len ops) : Calls Try.prog 6 #[v] W fun e w' => e = .returned (.bool true) ∧ Below W.heap.size W w' := by
  obtain ⟨i0, hi, hz0, hz1, hz2⟩ := info_parts Try.info54
  obtain ⟨sa, sc, rfl⟩ : ∃ a c, v = .slice a len c := by
    rcases hsc with ⟨rfl, a, c, rfl⟩ | ⟨b, off, cap, rfl, _⟩
    · exact ⟨_, _, rfl⟩
    · exact ⟨_, _, rfl⟩
  have hlen : len ≤ 9223372036854775807 := by
    rcases hsc with ⟨rfl, _⟩ | ⟨b, off, cap, _, h, _⟩
    · omega
    · exact h
  have HS : Hid _ := hsc
  clear hsc
  go_enter Try.func6, Try.ntmps6
  go_wp2_with (first | (go_at_call 9; refine (awake_any _).mono ?_; rintro e w1 ⟨rfl, hb1⟩) | (go_at_call 11; refine (new_4096 _).mono ?_; rintro e w2 ⟨rb, F, rfl, h2, hF, hb2⟩; have hal : Below w2.heap.size w2 (w2.alloc (.cells #[.slice none 0 0, .slice none 0 0] 49)) := (Below.refl _ _).alloc (Nat.le_refl _) _; have hFl : ¬ F w2.heap.size := (fun hq => by have := h2.lt _ hq; omega)) | (go_at_call 18; refine (watch_log (h2.below hal) (heap_alloc_new w2 _) hFl).mono ?_; rintro e w3 ⟨rfl, h3, hl3, hs3⟩))
  have hstart : Mid W (fun k => F k ∨ k = w2.heap.size) rb w2.heap.size 0 w3 [] [] (.slice none 0 0) (.slice none 0 0) [] [] := by
    have hB2 : Below W.heap.size W w2 := hb1.trans (hb2.mono hb1.size)
    have hB3 : Below W.heap.size W (w2.alloc (.cells #[.slice none 0 0, .slice none 0 0] 49)) := hB2.trans (hal.mono hB2.size)
    have hG : ∀ q, F q ∨ q = w2.heap.size → W.heap.size ≤ q := fun q hq => by
      rcases hq with hq | rfl
      · exact Nat.le_trans hb1.size (hF q hq)
      · exact hB2.size
    have hB4 : Below W.heap.size W w3 := hB3.trans (hs3.below hB3.size (fun k hk => by rcases hk with rfl | rfl; exact hG _ (.inl h2.own); exact hB2.size))
    have hsz : w2.heap.size + 1 ≤ w3.heap.size := by have := hs3.size; simpa using this
    refine ⟨⟨F, .slice none 0 0, .slice none 0 0, fun _ => 0, h3, hl3, World.ownsRow_nil _ _ _ _, World.ownsRow_nil _ _ _ _, fun g hg => (by cases hg), fun g hg => (by cases hg), fun k hk => .inl hk, .inr rfl, hFl, fun k hk => ?_⟩, World.ownsRow_nil _ _ _ _, World.ownsRow_nil _ _ _ _, fun g hg => (by cases hg), fun g hg => (by cases hg), hB4, hG⟩
    rcases hk with hk | rfl
    · have := h2.lt k hk; omega
    · omega
  generalize w2.heap.size = lb at *
  clear h2 hF hb2 hal hFl h3 hl3 hs3 hb1
  go_loopw [6, 7, 8] (fun vw vr i wr => ∃ (j : Nat) (G : Nat → Prop) (ws rs : List (Nat × Nat)), j ≤ len ∧ j ≤ 30 ∧ i = .int .i64 j ∧ ws.length ≤ j ∧ rs.length ≤ j ∧ Mid W G rb lb (64 * j) wr ws rs vw vr ws rs) (fun _ _ i _ => 30 - (intOf i).toNat)
  case atStart => exact ⟨0, _, [], [], by omega, by omega, rfl, by simp, by simp, hstart⟩
  case round =>
    obtain ⟨j, G, ws, rs, hj, hj30, rfl, hlw, hlr, hmid⟩ := hrel
    clear hstart
    by_cases hgo : j < len ∧ j < 30
    · obtain ⟨hg1, hg2⟩ := hgo
      have hgi1 : (j : Int) < len := by omega
      have hgi2 : (j : Int) < 30 := by omega
      rcases HS.out with ⟨h0, _⟩ | ⟨bs, os, cs, hv, _, hops⟩
      · omega
      simp only [Value.slice.injEq] at hv
      obtain ⟨rfl, -, rfl⟩ := hv
      obtain ⟨k0, k1, k2, k3, k4, kin, kl⟩ := hops j hg1
      clear hops
      generalize ops j = o at *
      obtain ⟨z, x, k, y, oa, ol, oc⟩ := o
      simp only at k0 k1 k2 k3 k4 kl
      have hx : x < 18446744073709551616 := kin.1
      have hy : y < 18446744073709551616 := kin.2.1
      have hfive := five_later (And.intro k0 (And.intro k1 (And.intro k2 (And.intro k3 k4)))) hmid.2.2.2.2.2.1
      obtain ⟨c0, c1, c2, c3, c4⟩ := hfive
      obtain ⟨s, hs⟩ : ∃ s, smallB ⟨z, x, k, y, oa, ol, oc⟩ = s := ⟨_, rfl⟩
      have hGlt := hmid.1.lt
      have K : Hid (_ ∧ _ ∧ _) := ⟨kin, hs, hmid⟩
      clear k0 k1 k2 k3 k4 kin hs hmid
      cases s with
      | false =>
        go_wp2_with (first | (go_at_call 19; refine (small_flat z x k y oa ol oc kl _).mono ?_; rw [K.out.2.1]; rintro e w3 ⟨rfl, hb3⟩))
        go_ret
        have hm := K.out.2.2.2.2.2.2.2.1
        exact ⟨rfl, hm.trans (((Below.refl _ _).alloc hm.size _).trans (hb3.mono (by have := hm.size; simp; omega)))⟩
      | true =>
        go_wp2_with (first | (fail))
        refine (small_flat z x k y oa ol oc kl _).mono ?_
        rw [K.out.2.1]
        rintro e w3 ⟨rfl, hb3⟩
        have hb3' : Below wr.heap.size wr w3 := ((Below.refl _ _).alloc (Nat.le_refl _) _).trans (hb3.mono (by simp))
        have x3 := below_box (heap_alloc_new wr _) hb3
        obtain ⟨q0, q1, q2, q3, q4⟩ := box5_facts x3
        have hm3 := K.out.2.2.below hb3'
        have hin3 := K.out.1.later hm3.2.2.2.2.2.1 hm3.2.2.2.2.2.2
        have hsm : ol ≤ 64 ∧ (z ≠ 3 ∨ 0 ≤ k ∧ k ≤ 64) := by simpa [smallB] using K.out.2.1
        have hno : ¬ G wr.heap.size := fun hq => by have := hGlt _ hq; omega
        have Y : Hid (_ ∧ _ ∧ _ ∧ _) := ⟨hm3, x3, hin3, hno⟩
        clear hb3 hb3' x3 hm3 hin3 hno c0 c1 c2 c3 c4
        have hl1 : ws.length < 4096 ∧ rs.length < 4096 := by omega
        have hW3 : W.heap.size ≤ w3.heap.size := Y.out.1.2.2.2.2.2.1.size
        by_cases h0 : z = 0
        · subst h0
          cases hb : putB x k 4096 with
          | true =>
            have hw := hb
            simp only [putB, Bool.and_eq_true] at hw
            have hk : k = 1 ∨ k = 2 ∨ k = 4 ∨ k = 8 := by simpa [widB] using hw.1
            obtain ⟨L, rfl⟩ : ∃ L : Nat, k = L := ⟨k.toNat, by omega⟩
            have hL : L ≤ 8 := by omega
            have HB : Hid (putB x L 4096 = true) := hb
            clear hb hw hk
            go_wp2_with (first | (go_at_call 17; refine (logStore Y.out.1.1 x L y true HB.out hx hy (by omega) hl1.1 hW3).mono ?_; rintro e w4 ⟨rfl, G4, h4, hs4⟩; rw [if_pos rfl, Int.toNat_natCast] at h4; have x4 := step_box hs4 Y.out.2.1 Y.out.2.2.2; clear q0 q1 q2 q3 q4; obtain ⟨q0, q1, q2, q3, q4⟩ := box5_facts x4; have Z : Hid (_ ∧ _) := ⟨Y.out.1.step h4 hs4, x4⟩; clear h4 hs4 x4) | (at_builtin; refine wpList_append_own_at _ rfl _ _ 47 rfl W.heap.size 54 i0 (.agg #[.int .u64 0, .int .u64 0]) 2 16 Try.underlying47 hi hz0 hz1 hz2 rfl (by decide) _ ws.length (spanRow ws) rfl (World.ownsRow.alloc Z.out.1.2.1 _) ⟨w4.heap.size, 0, none⟩ 1 1 [.int .u64 (x : Nat), .int .u64 (L : Nat)] rfl rfl (two_new _ _ _ _) (by intro u hu; simp at hu; rcases hu with rfl | rfl <;> rfl) (by unfold maxLen; omega) (by omega) (by have := Z.out.1.2.2.2.2.2.1.size; simp; omega) ?_; intro v' w5 hown' hgrow hnil hat))
            go_wp2
            go_roundw
            case rel => exact ⟨j + 1, G4, ws ++ [(x, L)], rs, by omega, by omega, by go_num, by simp; omega, by omega, (Z.out.1.addW (added_of hown' hgrow hat)).mono (by omega)⟩
            case measure => simp [intOf]; omega
          | false =>
            have HB : Hid (putB x k 4096 = false) := hb
            clear hb
            go_wp2_with (first | (go_at_call 17; refine (logStore Y.out.1.1 x k y false HB.out hx hy (by omega) hl1.1 hW3).mono ?_; rintro e w4 ⟨rfl, G4, h4, hs4⟩; rw [if_neg (by simp)] at h4; have Z : Hid _ := Y.out.1.step h4 hs4; clear h4 hs4))
            go_wp2
            go_roundw
            case rel => exact ⟨j + 1, G4, ws, rs, by omega, by omega, by go_num, by omega, by omega, Mid.mono Z.out (by omega)⟩
            case measure => simp [intOf]; omega
        by_cases h1 : z = 1
        · subst h1
          obtain ⟨_, _, f, hf, hrd⟩ := Y.out.2.2.1
          have HR : Hid (_ ∧ _) := ⟨hf, hrd⟩
          clear hf hrd
          cases hb : inB x ol 2147483648 (4096 : Nat) with
          | true =>
            have HB : Hid (inB x ol 2147483648 (4096 : Nat) = true) := hb
            clear hb
            by_cases hol : 0 < ol
            · have hol2 : (0 : Int) < ol := by omega
              go_wp2_with (first | (go_at_call 20; refine (write_log Y.out.1.1 x ol f _ hx HR.out.2 (fun i _ => HR.out.1 i) (by omega) hl1.1 hW3).mono ?_; rw [HB.out, if_pos rfl]; rintro e w4 ⟨rfl, G4, h4, hs4⟩; rw [show more ws x ol = ws ++ [(x, ol)] from (by unfold more; rw [if_pos hol])] at h4; have x4 := step_box hs4 Y.out.2.1 Y.out.2.2.2; clear q0 q1 q2 q3 q4; obtain ⟨q0, q1, q2, q3, q4⟩ := box5_facts x4; have Z : Hid (_ ∧ _) := ⟨Y.out.1.step h4 hs4, x4⟩; clear h4 hs4 x4) | (at_builtin; refine wpList_append_own_at _ rfl _ _ 47 rfl W.heap.size 54 i0 (.agg #[.int .u64 0, .int .u64 0]) 2 16 Try.underlying47 hi hz0 hz1 hz2 rfl (by decide) _ ws.length (spanRow ws) rfl (World.ownsRow.alloc Z.out.1.2.1 _) ⟨w4.heap.size, 0, none⟩ 1 1 [.int .u64 (x : Nat), .int .u64 (ol : Nat)] rfl rfl (two_new _ _ _ _) (by intro u hu; simp at hu; rcases hu with rfl | rfl <;> rfl) (by unfold maxLen; omega) (by omega) (by have := Z.out.1.2.2.2.2.2.1.size; simp; omega) ?_; intro v' w5 hown' hgrow hnil hat))
              go_wp2
              go_roundw
              case rel => exact ⟨j + 1, G4, ws ++ [(x, ol)], rs, by omega, by omega, by go_num, by simp; omega, by omega, (Z.out.1.addW (added_of hown' hgrow hat)).mono (by omega)⟩
              case measure => simp [intOf]; omega
            · obtain rfl : ol = 0 := by omega
              go_wp2_with (first | (go_at_call 20; refine (write_log Y.out.1.1 x 0 f _ hx HR.out.2 (fun i _ => HR.out.1 i) (by omega) hl1.1 hW3).mono ?_; rw [HB.out, if_pos rfl]; rintro e w4 ⟨rfl, G4, h4, hs4⟩; rw [show more ws x 0 = ws from (by unfold more; rw [if_neg (by omega)])] at h4; have x4 := step_box hs4 Y.out.2.1 Y.out.2.2.2; clear q0 q1 q2 q3 q4; obtain ⟨q0, q1, q2, q3, q4⟩ := box5_facts x4; have Z : Hid (_ ∧ _) := ⟨Y.out.1.step h4 hs4, x4⟩; clear h4 hs4 x4))
              go_wp2
              go_roundw
              case rel => exact ⟨j + 1, G4, ws, rs, by omega, by omega, by go_num, by omega, by omega, Mid.mono Z.out.1 (by omega)⟩
              case measure => simp [intOf]; omega
          | false =>
            have HB : Hid (inB x ol 2147483648 (4096 : Nat) = false) := hb
            clear hb
            go_wp2_with (first | (go_at_call 20; refine (write_log Y.out.1.1 x ol f _ hx HR.out.2 (fun i _ => HR.out.1 i) (by omega) hl1.1 hW3).mono ?_; rw [HB.out, if_neg (by simp)]; rintro e w4 ⟨rfl, G4, h4, hs4⟩; have Z : Hid _ := Y.out.1.step h4 hs4; clear h4 hs4))
            go_wp2
            go_roundw
            case rel => exact ⟨j + 1, G4, ws, rs, by omega, by omega, by go_num, by omega, by omega, Mid.mono Z.out (by omega)⟩
            case measure => simp [intOf]; omega
        by_cases h2 : z = 2
        · subst h2
          obtain ⟨F0, lw0, lr0, M0, hL0⟩ := Y.out.1.1
          have HR : Hid _ := hL0.1
          clear hL0
          go_wp2_with (first | (go_at_call 16; refine (load_any HR.out (by omega) x k hx).mono ?_; rintro e w4 ⟨rfl, hb4⟩))
          go_wp2
          go_roundw
          case rel => exact ⟨j + 1, G, ws, rs, by omega, by omega, by go_num, by omega, by omega, (Y.out.1.below hb4).mono (by omega)⟩
          case measure => simp [intOf]; omega
        by_cases h3 : z = 3
        · subst h3
          obtain ⟨L, rfl⟩ : ∃ L : Nat, k = L := ⟨k.toNat, by omega⟩
          have hL : L ≤ 64 := by omega
          cases hb : inB x L 2147483648 (4096 : Nat) with
          | true =>
            have HB : Hid (inB x L 2147483648 (4096 : Nat) = true) := hb
            clear hb
            by_cases hol : 0 < L
            · have hol2 : (0 : Int) < L := by omega
              go_wp2_with (first | (go_at_call 21; refine (read_log Y.out.1.1 x L hx (by omega) hl1.2 hW3).mono ?_; rw [HB.out, if_pos rfl]; rintro e w4 ⟨vr4, rfl, G4, h4, hs4⟩; rw [show more rs x L = rs ++ [(x, L)] from (by unfold more; rw [if_pos hol])] at h4; have x4 := step_box hs4 Y.out.2.1 Y.out.2.2.2; clear q0 q1 q2 q3 q4; obtain ⟨q0, q1, q2, q3, q4⟩ := box5_facts x4; have Z : Hid (_ ∧ _) := ⟨Y.out.1.step h4 hs4, x4⟩; clear h4 hs4 x4) | (at_builtin; refine wpList_append_own_at _ rfl _ _ 47 rfl W.heap.size 54 i0 (.agg #[.int .u64 0, .int .u64 0]) 2 16 Try.underlying47 hi hz0 hz1 hz2 rfl (by decide) _ rs.length (spanRow rs) rfl (World.ownsRow.alloc Z.out.1.2.2.1 _) ⟨w4.heap.size, 0, none⟩ 1 1 [.int .u64 (x : Nat), .int .u64 (L : Nat)] rfl rfl (two_new _ _ _ _) (by intro u hu; simp at hu; rcases hu with rfl | rfl <;> rfl) (by unfold maxLen; omega) (by omega) (by have := Z.out.1.2.2.2.2.2.1.size; simp; omega) ?_; intro v' w5 hown' hgrow hnil hat))
              go_wp2
              go_roundw
              case rel => exact ⟨j + 1, G4, ws, rs ++ [(x, L)], by omega, by omega, by go_num, by omega, by simp; omega, (Z.out.1.addR (added_of hown' hgrow hat)).mono (by omega)⟩
              case measure => simp [intOf]; omega
            · obtain rfl : L = 0 := by omega
              go_wp2_with (first | (go_at_call 21; refine (read_log (rs := rs) Y.out.1.1 x 0 hx (by omega) hl1.2 hW3).mono ?_; rw [HB.out, if_pos rfl]; rintro e w4 ⟨vr4, rfl, G4, h4, hs4⟩; rw [show more rs x 0 = rs from (by unfold more; rw [if_neg (by omega)])] at h4; have x4 := step_box hs4 Y.out.2.1 Y.out.2.2.2; clear q0 q1 q2 q3 q4; obtain ⟨q0, q1, q2, q3, q4⟩ := box5_facts x4; have Z : Hid (_ ∧ _) := ⟨Y.out.1.step h4 hs4, x4⟩; clear h4 hs4 x4))
              go_wp2
              go_roundw
              case rel => exact ⟨j + 1, G4, ws, rs, by omega, by omega, by go_num, by omega, by omega, Mid.mono Z.out.1 (by omega)⟩
              case measure => simp [intOf]; omega
          | false =>
            have HB : Hid (inB x L 2147483648 (4096 : Nat) = false) := hb
            clear hb
            go_wp2_with (first | (go_at_call 21; refine (read_log Y.out.1.1 x L hx (by omega) hl1.2 hW3).mono ?_; rw [HB.out, if_neg (by simp)]; rintro e w4 ⟨vr4, rfl, G4, h4, hs4⟩; have Z : Hid _ := Y.out.1.step h4 hs4; clear h4 hs4))
            go_wp2
            go_roundw
            case rel => exact ⟨j + 1, G4, ws, rs, by omega, by omega, by go_num, by omega, by omega, Mid.mono Z.out (by omega)⟩
            case measure => simp [intOf]; omega
        · have e0 : (z == 0) = false := by simp [h0]
          have e1 : (z == 1) = false := by simp [h1]
          have e2 : (z == 2) = false := by simp [h2]
          have e3 : (z == 3) = false := by simp [h3]
          clear h0 h1 h2 h3
          go_wp2
          go_roundw
          case rel => exact ⟨j + 1, G, ws, rs, by omega, by omega, by go_num, by omega, by omega, Mid.mono Y.out.1 (by omega)⟩
          case measure => simp [intOf]; omega
    · obtain ⟨F, lw, lr, M, hL⟩ := hmid.1
      have hm2 := hmid.2
      have hnil := hL.1.setLog (lg' := .pointer none)
      have X : Hid (_ ∧ _ ∧ _) := ⟨hL, hm2, hnil⟩
      clear hmid hL hm2 hnil
      by_cases hl : (j : Int) < len
      · have hl2 : ¬ (j : Int) < 30 := by omega
        go_wp2_with (first | (go_at_call 18; refine (watch_nil X.out.1.1).mono ?_; rintro e w4 ⟨rfl, rfl⟩) | (go_at_call 17; refine (store_2g X.out.2.2 (by omega)).mono ?_; rintro e w5 ⟨rfl, F5, M5, h5, hs5⟩; have hend := logs_end X.out.1 X.out.2.1 hs5; obtain ⟨p0, p1, p2, p3⟩ := box_facts hend.1; have Y : Hid _ := hend; clear hend) | (go_at_call 22; first | (have _h := Second; refine (same_spans (l := rs) (by exact Y.out.2.2.1.below2 hq1) (by exact Y.out.2.2.2.2.1.below2 hq1) (by omega)).mono ?_; rintro e w7 ⟨rfl, qq, rfl⟩) | (refine (same_spans (l := ws) (by exact Y.out.2.1) (by exact Y.out.2.2.2.1) (by omega)).mono ?_; rintro e w6 ⟨rfl, qq, rfl⟩; have hq1 : Below w5.heap.size w5 (w5.drewN qq) := below_drewN (Below.refl _ _) qq; have Second : True := trivial)))
        go_ret
        exact ⟨rfl, below_drewN Y.out.2.2.2.2.2 _⟩
      · go_wp2_with (first | (go_at_call 18; refine (watch_nil X.out.1.1).mono ?_; rintro e w4 ⟨rfl, rfl⟩) | (go_at_call 17; refine (store_2g X.out.2.2 (by omega)).mono ?_; rintro e w5 ⟨rfl, F5, M5, h5, hs5⟩; have hend := logs_end X.out.1 X.out.2.1 hs5; obtain ⟨p0, p1, p2, p3⟩ := box_facts hend.1; have Y : Hid _ := hend; clear hend) | (go_at_call 22; first | (have _h := Second; refine (same_spans (l := rs) (by exact Y.out.2.2.1.below2 hq1) (by exact Y.out.2.2.2.2.1.below2 hq1) (by omega)).mono ?_; rintro e w7 ⟨rfl, qq, rfl⟩) | (refine (same_spans (l := ws) (by exact Y.out.2.1) (by exact Y.out.2.2.2.1) (by omega)).mono ?_; rintro e w6 ⟨rfl, qq, rfl⟩; have hq1 : Below w5.heap.size w5 (w5.drewN qq) := below_drewN (Below.refl _ _) qq; have Second : True := trivial)))
        go_ret
        exact ⟨rfl, below_drewN Y.out.2.2.2.2.2 _⟩
end Go.Proofs.Ytbodmgihoklhiaa
