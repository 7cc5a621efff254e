/- The document's answer Store of layer 2. -/
import Derived.Test.YtalgidnmmghejaaRefS
namespace Go.Proofs.Ytalgidnmmghejaa
open Go.RowKit Go.Maps
set_option linter.unusedVariables false
theorem two_boxes (w : World) (o1 o2 : Obj) : Below w.heap.size w ((w.alloc o1).alloc o2) := ((Below.refl _ _).alloc (Nat.le_refl _) _).alloc (by simp) _
set_option maxHeartbeats 400000 in
theorem rstore_no (w : World) (s x y : Nat) (k : Int) (av : Option Addr) (n cv : Nat) (hno : widB k = false) :
    Calls Try.prog 31 #[.agg #[.int .u64 (s : Nat), .slice av n cv], .int .u64 (x : Nat), .int .i64 k, .int .u64 (y : Nat)] w fun e w' => e = .returned (.tuple #[.agg #[.int .u64 (s : Nat), .slice av n cv], .bool false]) ∧ Below w.heap.size w w' := by
  have H : Hid (widB k = false) := hno
  clear hno
  go_enter Try.func31, Try.ntmps31
  go_wp2_with (first | (go_at_call 62; refine (sized_any k _).mono ?_; rintro e w' ⟨rfl, rfl⟩; rw [H.out]))
  refine bodyPost_ret (v := .tuple #[.agg #[.int .u64 (s : Nat), .slice av n cv], .bool false]) (by simp [results, Try.results31, go_sem]) rfl ⟨rfl, ?_⟩
  exact two_boxes _ _ _
theorem boxesD {w w1 : World} {o1 o2 : Obj} (hb : Below ((w.alloc o1).alloc o2).drew.heap.size ((w.alloc o1).alloc o2).drew w1) :
    w1.heap[w.heap.size]? = some o1 ∧ w1.heap[w.heap.size + 1]? = some o2 ∧ Below w.heap.size w w1 ∧ w.heap.size + 2 ≤ w1.heap.size := boxes ⟨hb.os, hb.tape, hb.output, hb.size, hb.block⟩
set_option maxHeartbeats 1000000 in
theorem rstore_out (w : World) (s x y L : Nat) (av : Option Addr) (n cv : Nat) (hs : s < 18446744073709551616) (hx : x < 18446744073709551616) (hy : y < 18446744073709551616) (hw : widB L = true) (hin : inB x L 2147483648 s = false) :
    Calls Try.prog 31 #[.agg #[.int .u64 (s : Nat), .slice av n cv], .int .u64 (x : Nat), .int .i64 (L : Nat), .int .u64 (y : Nat)] w fun e w' => e = .returned (.tuple #[.agg #[.int .u64 (s : Nat), .slice av n cv], .bool false]) ∧ Below w.heap.size w w' := by
  have hk : (L : Int) = 1 ∨ (L : Int) = 2 ∨ (L : Int) = 4 ∨ (L : Int) = 8 := by simpa [widB] using hw
  have hL : L ≤ 8 := by omega
  have H : Hid (_ ∧ _) := ⟨hw, hin⟩
  clear hw hin hk
  go_enter Try.func31, Try.ntmps31
  go_wp2_with (first | (go_at_call 62; refine (sized_any _ _).mono ?_; rintro e w' ⟨rfl, rfl⟩; rw [H.out.1]))
  go_region_with (first | (go_at_call 64; refine (rbytes_any y L L hy (by omega) _).mono ?_; rintro e w1 ⟨v1, rfl, hown1, hb1⟩; obtain ⟨a1, c1, rfl⟩ := reads_form (reads_own hown1); have hbx1 := boxesD hb1; obtain ⟨p0, p1, p2, p3⟩ := box_facts hbx1.1; clear hbx1) | (go_at_call 63; refine (rwrite_out _ s x L av n cv a1 c1 hs hx (by omega) H.out.2).mono ?_; rintro e w2 ⟨rfl, hb2⟩; have hbx := boxesD (hb1.trans (hb2.mono hb1.size)); obtain ⟨d0, d1, d2, d3⟩ := box_facts hbx.2.1; have X : Hid _ := hbx.2.2.1; clear hbx hb1 hb2))
  all_goals
    go_wp2
    refine bodyPost_ret (v := .tuple #[.agg #[.int .u64 (s : Nat), .slice av n cv], .bool false]) (by simp [results, Try.results31, go_sem, d0, d1]) rfl ⟨rfl, ?_⟩
    exact (X.out.setCell (p := ⟨w.heap.size + 1, 0, none⟩) (by simp) _).setCell (p := ⟨w.heap.size + 1, 1, none⟩) (by simp) _
theorem RefIn.set {w : World} {v u : Value} {n B b o : Nat} {bs : Nat → Nat × Nat} (h : RefIn (fun k => k < B) w v n bs) (hb : b < B) : RefIn (fun k => k < B) (w.setCell ⟨b, o, none⟩ u) v n bs := by
  rcases h with h | ⟨g, c, hv, hg, hc⟩
  · exact .inl h
  · refine .inr ⟨g, c, hv, hg, fun i hi => ?_⟩
    rw [World.cell?_setCell_other _ _ _ _ (fun h => by simp only [Addr.mk.injEq] at h; omega), World.cell?_setCell_other _ _ _ _ (fun h => by simp only [Addr.mk.injEq] at h; omega)]
    exact hc i hi
theorem RefIn.mono {F F' : Nat → Prop} {w : World} {v : Value} {n : Nat} {bs : Nat → Nat × Nat} (h : RefIn F w v n bs) (hF : ∀ k, F' k → F k) : RefIn F' w v n bs := by
  rcases h with h | ⟨g, c, hv, hg, hc⟩
  · exact .inl h
  · exact .inr ⟨g, c, hv, fun hf => hg (hF g hf), hc⟩
set_option maxHeartbeats 1000000 in
theorem rstore_in (F : Nat → Prop) (w : World) (s x y L : Nat) (v : Value) (n : Nat) (bs : Nat → Nat × Nat) (h : RefIn F w v n bs) (hn : n ≤ 1000000) (hs : s ≤ 268435456) (hx : x < 18446744073709551616) (hy : y < 18446744073709551616) (hw : widB L = true) (hin : inB x L 2147483648 s = true) :
    Calls Try.prog 31 #[.agg #[.int .u64 (s : Nat), v], .int .u64 (x : Nat), .int .i64 (L : Nat), .int .u64 (y : Nat)] w fun e w' => ∃ v', e = .returned (.tuple #[.agg #[.int .u64 (s : Nat), v'], .bool true]) ∧ RefIn (fun k => k < w.heap.size) w' v' (n + L) (wrote bs n x (byteAt y)) ∧ Below w.heap.size w w' := by
  obtain ⟨av, cv, rfl⟩ := h.form
  have hk : (L : Int) = 1 ∨ (L : Int) = 2 ∨ (L : Int) = 4 ∨ (L : Int) = 8 := by simpa [widB] using hw
  have hL : L ≤ 8 := by omega
  have H : Hid (_ ∧ _ ∧ _) := ⟨hw, hin, h⟩
  clear hw hin hk h
  go_enter Try.func31, Try.ntmps31
  go_wp2_with (first | (go_at_call 62; refine (sized_any _ _).mono ?_; rintro e w' ⟨rfl, rfl⟩; rw [H.out.1]))
  go_region_with (first | (go_at_call 64; refine (rbytes_any y L L hy (by omega) _).mono ?_; rintro e w1 ⟨v1, rfl, hown1, hb1⟩; obtain ⟨a1, c1, rfl⟩ := reads_form (reads_own hown1); have hbx1 := boxesD hb1; obtain ⟨p0, p1, p2, p3⟩ := box_facts hbx1.1; have X1 : Hid _ := hbx1.2.2; clear hbx1) | (go_at_call 63; refine (rwrite_in F _ s x L n _ _ bs (byteAt y) (by exact H.out.2.2.below X1.out.1) (by exact reads_own hown1) hn hs hx (by omega) H.out.2.1).mono ?_; rintro e w2 ⟨v', rfl, hr2, hb2⟩; obtain ⟨a2, c2, rfl⟩ := hr2.form; have hbx := boxesD (hb1.trans (hb2.mono hb1.size)); obtain ⟨d0, d1, d2, d3⟩ := box_facts hbx.2.1; have X : Hid (_ ∧ _) := ⟨hbx.2.2.1, hr2⟩; clear hbx hb1 hb2 hr2))
  all_goals
    go_wp2
    refine bodyPost_ret (v := .tuple #[.agg #[.int .u64 (s : Nat), .slice a2 (n + L) c2], .bool true]) (by simp [results, Try.results31, go_sem, d0, d1]) rfl ⟨_, rfl, ?_, ?_⟩
    · have := X1.out.2
      exact ((X.out.2.set (by omega)).set (by omega)).mono (fun k hk => by omega)
    · exact (X.out.1.setCell (p := ⟨w.heap.size + 1, 0, none⟩) (by simp) _).setCell (p := ⟨w.heap.size + 1, 1, none⟩) (by simp) _
end Go.Proofs.Ytalgidnmmghejaa
