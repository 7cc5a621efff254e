/- The document's answers of layer 2: a memory as what was written, the last ones counting. -/
import Derived.Test.YtcgjfklglckjcaaOwns
import Derived.Test.YtcgjfklglckjcaaSizes
namespace Go.Proofs.Ytcgjfklglckjcaa
open Go.RowKit Go.Maps
set_option linter.unusedVariables false
/-- the byte at an address: the last of the first k that were written there -/
def rget (bs : Nat → Nat × Nat) : Nat → Nat → Nat
  | 0, _ => 0
  | k + 1, a => if (bs k).1 = a then (bs k).2 else rget bs k a
/-- a list of bytes with their addresses, in no block of F -/
def RefIn (F : Nat → Prop) (w : World) (v : Value) (n : Nat) (bs : Nat → Nat × Nat) : Prop :=
  (n = 0 ∧ ∃ a c, v = .slice a 0 c) ∨ ∃ g c, v = .slice (some ⟨g, 0, none⟩) n c ∧ ¬ F g ∧ ∀ i, i < n → w.cell? ⟨g, i * 2, none⟩ = some (.int .u64 ((bs i).1 : Nat)) ∧ w.cell? ⟨g, i * 2 + 1, none⟩ = some (.int .u8 ((bs i).2 : Nat))
theorem RefIn.form {F : Nat → Prop} {w : World} {v : Value} {n : Nat} {bs : Nat → Nat × Nat} (h : RefIn F w v n bs) : ∃ a c, v = .slice a n c := by
  rcases h with ⟨rfl, a, c, rfl⟩ | ⟨g, c, rfl, _⟩
  · exact ⟨a, c, rfl⟩
  · exact ⟨_, c, rfl⟩
theorem RefIn.step {F F' : Nat → Prop} {w w' : World} {v : Value} {n : Nat} {bs : Nat → Nat × Nat} (h : RefIn F w v n bs) (hs : Step F w F' w') : RefIn F' w' v n bs := by
  rcases h with h | ⟨g, c, hv, hb, hc⟩
  · exact .inl h
  · by_cases h0 : n = 0
    · subst h0; exact .inl ⟨rfl, _, c, hv⟩
    · have hlt : g < w.heap.size := block_lt_of_cell (hc 0 (by omega)).1
      refine .inr ⟨g, c, hv, fun hf => ?_, fun i hi => ?_⟩
      · rcases hs.old g hf with h3 | h3
        · exact hb h3
        · omega
      · rw [World.cell?_of_block (a := ⟨g, i * 2, none⟩) (hs.block g hlt hb), World.cell?_of_block (a := ⟨g, i * 2 + 1, none⟩) (hs.block g hlt hb)]; exact hc i hi
theorem RefIn.below {F : Nat → Prop} {w w' : World} {v : Value} {n : Nat} {bs : Nat → Nat × Nat} (h : RefIn F w v n bs) (hb : Below w.heap.size w w') : RefIn F w' v n bs := h.step (Step.of_below hb)
set_option maxHeartbeats 400000 in
theorem rget_any (F : Nat → Prop) (w : World) (s : Value) (v : Value) (n a : Nat) (bs : Nat → Nat × Nat) (h : RefIn F w v n bs) (hn : n ≤ 1000000) (ha : a < 18446744073709551616) :
    Calls Try.prog 47 #[.agg #[s, v], .int .u64 (a : Nat)] w fun e w' => e = .returned (.int .u8 (rget bs n a : Nat)) ∧ Below w.heap.size w w' := by
  obtain ⟨ad, c, rfl⟩ := h.form
  have hb : Below w.heap.size w (w.alloc (.cells #[s, .slice ad n c] 32)) := (Below.refl _ _).alloc (Nat.le_refl _) _
  have h1 := h.below hb
  have hc1 : (w.alloc (.cells #[s, .slice ad n c] 32)).cell? ⟨w.heap.size, 1, none⟩ = some (.slice ad n c) := by simp only [World.cell?, heap_alloc_new]; rfl
  go_enter Try.func47, Try.ntmps47
  go_wp2
  generalize w.alloc (.cells #[s, .slice ad n c] 32) = W1 at *
  have HB : Hid (Below w.heap.size w W1) := hb
  clear hb h
  go_loop [5] (fun i => ∃ k : Nat, k ≤ n ∧ i = .int .i64 ((k : Int) - 1) ∧ rget bs n a = rget bs k a) (fun i => (intOf i + 1).toNat)
  case atStart => exact ⟨n, Nat.le_refl _, rfl, rfl⟩
  case round =>
    obtain ⟨k, hk, rfl, hrg⟩ := hrel
    have HG : Hid (rget bs n a = rget bs k a) := hrg
    clear hrg
    by_cases h0 : k = 0
    · subst h0
      clear h1
      go_wp2
      go_ret
      exact ⟨by rw [HG.out]; rfl, HB.out⟩
    · obtain ⟨j, rfl⟩ : ∃ j, k = j + 1 := ⟨k - 1, by omega⟩
      rcases h1 with ⟨hn0, _⟩ | ⟨g, c', hv, _, hc⟩
      · omega
      obtain ⟨hca, hcb⟩ := hc j (by omega)
      simp only [Value.slice.injEq] at hv
      obtain ⟨rfl, -, rfl⟩ := hv
      have e : ((j + 1 : Nat) : Int) - 1 = (j : Int) := by omega
      rw [e]
      have hjn : (j : Int) < n := by omega
      have hst : rget bs (j + 1) a = if (bs j).1 = a then (bs j).2 else rget bs j a := rfl
      have HS : Hid _ := hst
      clear hc e hst
      generalize hx1 : (bs j).1 = y1 at *
      generalize hx2 : (bs j).2 = y2 at *
      clear hx1 hx2
      by_cases hy : y1 = a
      · subst hy
        go_wp2
        go_ret
        exact ⟨by rw [HG.out, HS.out]; simp, HB.out⟩
      · have hne : ((y1 : Int) == (a : Int)) = false := by simp; omega
        go_wp2
        go_round
        case rel => exact ⟨j, by omega, by go_num, by rw [HG.out, HS.out, if_neg hy]⟩
        case measure => simp [intOf]
/-- what is written behind others -/
def wrote (bs : Nat → Nat × Nat) (n x : Nat) (f : Nat → Nat) (i : Nat) : Nat × Nat := if i < n then bs i else (x + (i - n), f (i - n))
theorem rget_congr (bs cs : Nat → Nat × Nat) : ∀ n a, (∀ i, i < n → bs i = cs i) → rget bs n a = rget cs n a
  | 0, _, _ => rfl
  | n + 1, a, h => by rw [rget, rget, h n (by omega), rget_congr bs cs n a (fun i hi => h i (by omega))]
theorem rget_wrote (bs : Nat → Nat × Nat) (n x : Nat) (f : Nat → Nat) : ∀ L a, rget (wrote bs n x f) (n + L) a = over (rget bs n) x L f a
  | 0, a => by rw [over_zero, Nat.add_zero]; exact rget_congr _ _ n a (fun i hi => by unfold wrote; rw [if_pos hi])
  | L + 1, a => by
    have ih := rget_wrote bs n x f L a
    rw [show n + (L + 1) = (n + L) + 1 from by omega, rget, ih]
    have e : wrote bs n x f (n + L) = (x + L, f L) := by unfold wrote; rw [if_neg (by omega), show n + L - n = L from by omega]
    rw [e]
    unfold over
    by_cases h : x + L = a
    · subst h
      rw [if_pos rfl, if_pos (by omega)]; show f L = f _; congr 1; omega
    · rw [if_neg h]
      by_cases h2 : x ≤ a ∧ a < x + L
      · rw [if_pos h2, if_pos (by omega)]
      · rw [if_neg h2, if_neg (by omega)]
theorem rread_out (F : Nat → Prop) (w : World) (s x L : Nat) (v : Value) (hs : s < 18446744073709551616) (hx : x < 18446744073709551616) (hL : L < 18446744073709551616) (hin : inB x L 2147483648 s = false) :
    Calls Try.prog 75 #[.agg #[.int .u64 (s : Nat), v], .int .u64 (x : Nat), .int .u64 (L : Nat)] w fun e w' => e = .returned (.tuple #[.slice none 0 0, .bool false]) ∧ Below w.heap.size w w' := by
  have H : Hid (inB x L 2147483648 s = false) := hin
  clear hin
  go_enter Try.func75, Try.ntmps75
  go_wp2_with (first | (go_at_call 17; refine (rhas_any s x L _ hs hx hL _).mono ?_; rintro e w1 ⟨rfl, hb1⟩; rw [H.out]))
  go_ret2
  exact ⟨rfl, ((Below.refl _ _).alloc (Nat.le_refl _) _).trans (hb1.mono (by simp))⟩
theorem addr_num (x i : Nat) (h : x + i < 18446744073709551616) : IntKind.u64.wrap ((x : Int) + (i : Int)) = ((x + i : Nat) : Int) := by
  rw [wrap_u64]; omega
theorem row_below {w w' : World} {base : Nat} {e : TypeId} {g n cap : Nat} {xs : List Value} (h : w.ownsRow base e 1 (.slice (some ⟨g, 0, none⟩) n cap) n xs) (hb : Below w.heap.size w w') : w'.ownsRow base e 1 (.slice (some ⟨g, 0, none⟩) n cap) n xs :=
  row_step (F := fun _ => False) h (Step.of_below hb) (fun h => h)
theorem fill_step (f : Nat → Nat) (k L : Nat) : (rowK .u8 (fun i => if i < k then f i else 0) L).set k (.int .u8 (f k : Nat)) = rowK .u8 (fun i => if i < k + 1 then f i else 0) L := by
  rw [rowK_set]
  apply rowK_congr
  intro i hi
  by_cases e : i = k
  · subst e; simp
  · rw [if_neg e]
    by_cases h : i < k
    · rw [if_pos h, if_pos (by omega)]
    · rw [if_neg h, if_neg (by omega)]
theorem fill_done (f : Nat → Nat) (L : Nat) : rowK .u8 (fun i => if i < L then f i else 0) L = rowK .u8 f L := rowK_congr _ _ _ _ (fun i hi => by rw [if_pos hi])
theorem fill_zero (f : Nat → Nat) (L : Nat) : rowK .u8 (fun _ => 0) L = rowK .u8 (fun i => if i < 0 then f i else 0) L := rowK_congr _ _ _ _ (fun i hi => by rw [if_neg (by omega)])
set_option maxHeartbeats 1000000 in
theorem rread_in (F : Nat → Prop) (w : World) (s x L n : Nat) (v : Value) (bs : Nat → Nat × Nat) (h : RefIn F w v n bs) (hn : n ≤ 1000000) (hs : s ≤ 268435456) (hx : x < 18446744073709551616) (hL : L < 18446744073709551616) (hin : inB x L 2147483648 s = true) :
    Calls Try.prog 75 #[.agg #[.int .u64 (s : Nat), v], .int .u64 (x : Nat), .int .u64 (L : Nat)] w fun e w' => ∃ g, e = .returned (.tuple #[.slice (some ⟨g, 0, none⟩) L L, .bool true]) ∧ w'.ownsRow w.heap.size 5 1 (.slice (some ⟨g, 0, none⟩) L L) L (rowK .u8 (fun i => rget bs n (x + i)) L) ∧ Below w.heap.size w w' := by
  obtain ⟨i0, hi, hz0, hz1, hz2⟩ := info_parts Try.info5
  have hb : (2147483648 : Int) ≤ x ∧ (x : Int) + L ≤ 2147483648 + s := by simpa [inB] using hin
  have H : Hid (inB x L 2147483648 s = true) := hin
  clear hin
  go_enter Try.func75, Try.ntmps75
  go_wp2_with (first | (go_at_call 17; refine (rhas_any s x L _ (by omega) hx hL _).mono ?_; rintro e w1 ⟨rfl, hb1⟩; rw [H.out]) | (at_make; refine wpList_make_full _ rfl _ _ 64 rfl w.heap.size 5 i0 (.int .u8 0) 1 Try.underlying64 hi hz0 hz1 _ _ _ _ L rfl rfl ?m1 ?m2 ?m3 ?m4 ?m5 ?_))
  case m1 => rfl
  case m2 => rfl
  case m3 => rw [hz2]; omega
  case m4 => unfold maxLen; omega
  case m5 => have := hb1.size; simp at this; omega
  · intro w2 hown0 hgrow0
    have hb01 : Below w.heap.size w w1 := ((Below.refl _ _).alloc (Nat.le_refl _) _).trans (hb1.mono (by simp))
    have hb02 : Below w.heap.size w w2 := Below.grown hb01 hgrow0 hb01.size (by simp)
    have hbox : w2.heap[w.heap.size]? = some (.cells #[.int .u64 (s : Nat), v] 32) := by
      have e1 : w1.heap[w.heap.size]? = some (.cells #[.int .u64 (s : Nat), v] 32) := (hb1.block w.heap.size (by simp)).trans (heap_alloc_new w _)
      exact (hgrow0.block w.heap.size (by have := hb1.size; simp at this; omega) (by simp)).trans e1
    rw [toList_madeCells_one, rowK_zero] at hown0
    have hgl := hown0.lt w1.heap.size rfl
    have h0 : w.heap.size < w1.heap.size := by have := hb1.size; simp at this; omega
    generalize w1.heap.size = g at *
    have X : Hid (_ ∧ _ ∧ _) := ⟨hown0, hb02, hbox⟩
    clear hown0 hgrow0 hb01 hb02 hbox hb1
    go_wp2
    go_loopw [9] (fun i wr => ∃ k : Nat, k ≤ L ∧ i = .int .i64 k ∧ wr.ownsRow w.heap.size 5 1 (.slice (some ⟨g, 0, none⟩) L L) L (rowK .u8 (fun i => if i < k then rget bs n (x + i) else 0) L) ∧ Below w.heap.size w wr ∧ wr.heap[w.heap.size]? = some (.cells #[.int .u64 (s : Nat), v] 32)) (fun i _ => L - (intOf i).toNat)
    case atStart => exact ⟨0, by omega, rfl, by rw [← fill_zero (fun i => rget bs n (x + i))]; exact X.out.1, X.out.2.1, X.out.2.2⟩
    case round =>
      obtain ⟨k, hk, rfl, hown, hbw, hbox⟩ := hrel
      clear X
      by_cases hlt : k < L
      · have hb0 : wr.cell? ⟨w.heap.size, 0, none⟩ = some (.int .u64 (s : Nat)) := by simp only [World.cell?, hbox]; rfl
        have hb1 : wr.cell? ⟨w.heap.size, 1, none⟩ = some v := by simp only [World.cell?, hbox]; rfl
        have hkL : (k : Int) < L := by omega
        have hr := h.below hbw
        obtain ⟨y, hy⟩ : ∃ y : Nat, (x : Int) + (k : Int) = (y : Nat) := ⟨x + k, by omega⟩
        have hyx : y = x + k := by omega
        have hyb : y < 18446744073709551616 := by omega
        have Y : Hid (_ ∧ _ ∧ _ ∧ _ ∧ _) := ⟨hown, hbw, hbox, hr, hyx⟩
        clear hown hbw hbox hr hyx h
        go_wp2_with (first | (go_at_call 47; refine (rget_any F _ _ _ n y bs Y.out.2.2.2.1 hn hyb).mono ?_; rintro e w3 ⟨rfl, hb3⟩; have hown3 := row_below Y.out.1 hb3; have hc3 : w3.cell? ⟨g, k, none⟩ = some (.int .u8 ((if k < k then rget bs n (x + k) else 0 : Nat) : Nat)) := (by rw [hown3.cellAt k (by omega)]; exact rowK_get _ _ _ _ hlt); have hf3 := hown3.frozenAt k; clear hown3))
        obtain ⟨hown, hbw, hbox, hr, hyx⟩ := Y.out
        have hown3 := row_below hown hb3
        have hown4 := hown3.stored k (.int .u8 (rget bs n y : Nat))
        rw [hyx, fill_step (fun i => rget bs n (x + i))] at hown4
        rw [hyx]
        have hb4 : Below w.heap.size w w3 := hbw.trans (hb3.mono hbw.size)
        have hbox3 : w3.heap[w.heap.size]? = some (.cells #[.int .u64 (s : Nat), v] 32) := (hb3.block _ (Array.getElem?_eq_some_iff.1 hbox).1).trans hbox
        go_roundw
        case rel => exact ⟨k + 1, by omega, by go_num, hown4.1, hb4.setCell (p := ⟨g, k, none⟩) hgl.1 _, ((step_setCell w3 g k _).block _ (Array.getElem?_eq_some_iff.1 hbox3).1 (by omega)).trans hbox3⟩
        case measure => simp [intOf]; omega
      · obtain rfl : k = L := by omega
        rw [fill_done (fun i => rget bs n (x + i))] at hown
        go_wp2
        go_ret2
        exact ⟨g, rfl, hown, hbw⟩
end Go.Proofs.Ytcgjfklglckjcaa
