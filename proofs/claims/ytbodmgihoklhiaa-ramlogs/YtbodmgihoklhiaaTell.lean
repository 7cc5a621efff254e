/- The calls of layer 2 on a memory that is watched: what is put, and read in pieces, is told to the log. -/
import Derived.Test.YtbodmgihoklhiaaLog
namespace Go.Proofs.Ytbodmgihoklhiaa
open Go.RowKit Go.Maps
set_option linter.unusedVariables false
theorem watched_log {w : World} {F : Nat → Prop} {rb size n lb : Nat} {M : Nat → Nat} (h : RamAt w F rb size n (.pointer (some ⟨lb, 0, none⟩)) M) (L : Nat) (hL : L < 18446744073709551616) :
    Calls Try.prog 52 #[.pointer (some ⟨rb, 0, none⟩), .int .u64 (L : Nat)] w fun e w' => e = .returned (.bool (decide (0 < L))) ∧ w' = w := by
  have hc := h.cells.2
  by_cases h0 : (0 : Int) < L
  · have e : decide (0 < L) = true := by simp; omega
    rw [e]
    go_enter Try.func52, Try.ntmps52
    go_wp2
    go_ret
    exact ⟨rfl, rfl⟩
  · have e : decide (0 < L) = false := by simp; omega
    rw [e]
    go_enter Try.func52, Try.ntmps52
    go_wp2
    go_ret
    exact ⟨rfl, rfl⟩
/-- a piece more, if it has a byte -/
def more (l : List (Nat × Nat)) (x L : Nat) : List (Nat × Nat) := if 0 < L then l ++ [(x, L)] else l
theorem more_length (l : List (Nat × Nat)) (x L : Nat) : (more l x L).length ≤ l.length + 1 := by unfold more; split <;> simp
set_option maxHeartbeats 1000000 in
theorem tellWrite_log {B : Nat} {w : World} {G : Nat → Prop} {rb n lb : Nat} {ws rs : List (Nat × Nat)} (h : LogAt B w G rb n lb ws rs) (x L : Nat) (hL : L < 18446744073709551616) (hl : ws.length < 4096) (hB : B ≤ w.heap.size) :
    Calls Try.prog 38 #[.pointer (some ⟨rb, 0, none⟩), .int .u64 (x : Nat), .int .u64 (L : Nat)] w fun e w' => e = .returned (.tuple #[]) ∧ ∃ G', LogAt B w' G' rb n lb (more ws x L) rs ∧ Step G w G' w' := by
  obtain ⟨F, lw, lr, M, h⟩ := h
  by_cases h0 : 0 < L
  · have e0 : decide (0 < L) = true := by simp [h0]
    have hm : more ws x L = ws ++ [(x, L)] := by simp [more, h0]
    rw [hm]
    have hc2 := h.1.cells.2
    obtain ⟨p0, p1, p2, p3⟩ := box_facts h.2.1
    obtain ⟨al, cl, rfl⟩ := h.2.2.1.form
    have hD : LogIn B w.drew G F rb n lb (.slice al ws.length cl) lr M ws rs := h.kept (Nat.le_refl _) (fun _ _ => rfl)
    have H : Hid (_ ∧ _ ∧ _) := ⟨h, hD, e0⟩
    clear h hD e0 hm
    go_enter Try.func38, Try.ntmps38
    go_wp2_with (first | (go_at_call 52; refine (watched_log H.out.1.1 L hL).mono ?_; rw [H.out.2.2]; rintro e w' ⟨rfl, rfl⟩))
    go_region_with (first | (go_at_call 53; refine (add_any (B := B) (w := w'.drew) H.out.2.1.2.2.1 x L hl (by exact hB)).mono ?_; rintro e w1 ⟨v', rfl, ha⟩; have q2 : w1.cell? ⟨rb, 2, none⟩ = some (.pointer (some ⟨lb, 0, none⟩)) := (by rw [World.cell?_of_block (a := ⟨rb, 2, none⟩) (ha.2.1.block rb (H.out.1.1.lt _ H.out.1.1.own) (fun e => (H.out.1.2.2.2.2.1 rb e.symm).1 H.out.1.1.own))]; exact hc2); have hlb : w1.heap[lb]? = some (.cells #[.slice al ws.length cl, lr] 49 (0, 0)) := (ha.2.1.block lb (H.out.1.2.2.2.2.2.2.2.2.2 lb H.out.1.2.2.2.2.2.2.2.1) (fun e => (H.out.1.2.2.2.2.1 lb e.symm).2.1 rfl)).trans H.out.1.2.1; obtain ⟨r0, r1, r2, r3⟩ := box_facts hlb; obtain ⟨a', c', hv'⟩ := ha.1.form; rw [show (ws ++ [(x, L)]).length = ws.length + 1 from by simp] at hv'; subst hv'; have X : Hid _ := ha; clear ha hlb))
    all_goals
      go_wp2
      go_end0
      obtain ⟨hl2, hst⟩ := H.out.2.1.toldW X.out
      exact ⟨rfl, _, ⟨F, _, lr, M, hl2⟩, ⟨hst.os, hst.tape, hst.output, hst.size, hst.block, hst.old, hst.keep⟩⟩
  · have e0 : decide (0 < L) = false := by simp [h0]
    have hm : more ws x L = ws := by simp [more, h0]
    rw [hm]
    have H : Hid (_ ∧ _) := ⟨h, e0⟩
    clear h e0 hm
    go_enter Try.func38, Try.ntmps38
    go_wp2_with (first | (go_at_call 52; refine (watched_log H.out.1.1 L hL).mono ?_; rw [H.out.2]; rintro e w' ⟨rfl, rfl⟩))
    go_end0
    exact ⟨rfl, G, ⟨F, lw, lr, M, H.out.1⟩, Step.refl _ _⟩
set_option maxHeartbeats 1000000 in
theorem tellRead_log {B : Nat} {w : World} {G : Nat → Prop} {rb n lb : Nat} {ws rs : List (Nat × Nat)} (h : LogAt B w G rb n lb ws rs) (x L : Nat) (hL : L < 18446744073709551616) (hl : rs.length < 4096) (hB : B ≤ w.heap.size) :
    Calls Try.prog 39 #[.pointer (some ⟨rb, 0, none⟩), .int .u64 (x : Nat), .int .u64 (L : Nat)] w fun e w' => e = .returned (.tuple #[]) ∧ ∃ G', LogAt B w' G' rb n lb ws (more rs x L) ∧ Step G w G' w' := by
  obtain ⟨F, lw, lr, M, h⟩ := h
  by_cases h0 : 0 < L
  · have e0 : decide (0 < L) = true := by simp [h0]
    have hm : more rs x L = rs ++ [(x, L)] := by simp [more, h0]
    rw [hm]
    have hc2 := h.1.cells.2
    obtain ⟨p0, p1, p2, p3⟩ := box_facts h.2.1
    obtain ⟨al, cl, rfl⟩ := h.2.2.2.1.form
    have hD : LogIn B w.drew G F rb n lb lw (.slice al rs.length cl) M ws rs := h.kept (Nat.le_refl _) (fun _ _ => rfl)
    have H : Hid (_ ∧ _ ∧ _) := ⟨h, hD, e0⟩
    clear h hD e0 hm
    go_enter Try.func39, Try.ntmps39
    go_wp2_with (first | (go_at_call 52; refine (watched_log H.out.1.1 L hL).mono ?_; rw [H.out.2.2]; rintro e w' ⟨rfl, rfl⟩))
    go_region_with (first | (go_at_call 53; refine (add_any (B := B) (w := w'.drew) H.out.2.1.2.2.2.1 x L hl (by exact hB)).mono ?_; rintro e w1 ⟨v', rfl, ha⟩; have q2 : w1.cell? ⟨rb, 2, none⟩ = some (.pointer (some ⟨lb, 0, none⟩)) := (by rw [World.cell?_of_block (a := ⟨rb, 2, none⟩) (ha.2.1.block rb (H.out.1.1.lt _ H.out.1.1.own) (fun e => (H.out.1.2.2.2.2.2.1 rb e.symm).1 H.out.1.1.own))]; exact hc2); have hlb : w1.heap[lb]? = some (.cells #[lw, .slice al rs.length cl] 49 (0, 0)) := (ha.2.1.block lb (H.out.1.2.2.2.2.2.2.2.2.2 lb H.out.1.2.2.2.2.2.2.2.1) (fun e => (H.out.1.2.2.2.2.2.1 lb e.symm).2.1 rfl)).trans H.out.1.2.1; obtain ⟨r0, r1, r2, r3⟩ := box_facts hlb; obtain ⟨a', c', hv'⟩ := ha.1.form; rw [show (rs ++ [(x, L)]).length = rs.length + 1 from by simp] at hv'; subst hv'; have X : Hid _ := ha; clear ha hlb))
    all_goals
      go_wp2
      go_end0
      obtain ⟨hl2, hst⟩ := H.out.2.1.toldR X.out
      exact ⟨rfl, _, ⟨F, lw, _, M, hl2⟩, ⟨hst.os, hst.tape, hst.output, hst.size, hst.block, hst.old, hst.keep⟩⟩
  · have e0 : decide (0 < L) = false := by simp [h0]
    have hm : more rs x L = rs := by simp [more, h0]
    rw [hm]
    have H : Hid (_ ∧ _) := ⟨h, e0⟩
    clear h e0 hm
    go_enter Try.func39, Try.ntmps39
    go_wp2_with (first | (go_at_call 52; refine (watched_log H.out.1.1 L hL).mono ?_; rw [H.out.2]; rintro e w' ⟨rfl, rfl⟩))
    go_end0
    exact ⟨rfl, G, ⟨F, lw, lr, M, H.out.1⟩, Step.refl _ _⟩
set_option maxHeartbeats 400000 in
theorem write_log {B : Nat} {w : World} {G : Nat → Prop} {rb n lb : Nat} {ws rs : List (Nat × Nat)} (h : LogAt B w G rb n lb ws rs) (x L : Nat) (f : Nat → Nat) (v : Value) (hx : x < 18446744073709551616) (hr : ReadsF G w v L f) (hf : ∀ i, i < L → f i ≤ 255) (hn : n + L ≤ 1000000) (hl : ws.length < 4096) (hB : B ≤ w.heap.size) :
    Calls Try.prog 20 #[.pointer (some ⟨rb, 0, none⟩), .int .u64 (x : Nat), v] w fun e w' => e = .returned (.bool (inB x L 2147483648 (4096 : Nat))) ∧ ∃ G', LogAt B w' G' rb (n + L) lb (if inB x L 2147483648 (4096 : Nat) = true then more ws x L else ws) rs ∧ Step G w G' w' := by
  obtain ⟨a, cap, rfl, hL⟩ := hr.form
  obtain ⟨F, lw, lr, M, h⟩ := h
  have hrF : ReadsF F w (.slice a L cap) L f := by
    rcases hr with h1 | ⟨b, off, c, hv, hG, h1⟩
    · exact .inl h1
    · exact .inr ⟨b, off, c, hv, fun hF => hG (h.2.2.2.2.2.2.1 b hF), h1⟩
  cases hin : inB x L 2147483648 (4096 : Nat) with
  | true =>
    rw [if_pos rfl]
    have hb : (2147483648 : Int) ≤ x ∧ (x : Int) + L ≤ 2147483648 + 4096 := by simpa [inB] using hin
    have H : Hid (_ ∧ _ ∧ _) := ⟨hin, h, hrF⟩
    clear hin h hrF hr
    go_enter Try.func20, Try.ntmps20
    go_wp2_with (first | (go_at_call 14; refine (has_any H.out.2.1.1 (by omega) x L hx (by omega)).mono ?_; rintro e w' ⟨rfl, rfl⟩; rw [H.out.1]) | (go_at_call 37; refine (put_any H.out.2.1.1 x L f _ H.out.2.2 hf (by omega) hn).mono ?_; rintro e w1 ⟨rfl, F1, h1, hs1⟩; have hp := H.out.2.1.put h1 hs1; have X : Hid _ := hp; clear hp h1 hs1) | (go_at_call 38; refine (tellWrite_log ⟨_, _, _, _, X.out.1⟩ x L (by omega) hl (by have := X.out.2.size; omega)).mono ?_; rintro e w2 ⟨rfl, G2, h2, hs2⟩))
    go_ret
    exact ⟨rfl, G2, h2, X.out.2.trans hs2⟩
  | false =>
    rw [if_neg (by simp)]
    have H : Hid (_ ∧ _) := ⟨hin, h⟩
    clear hin h hrF hr
    go_enter Try.func20, Try.ntmps20
    go_wp2_with (first | (go_at_call 14; refine (has_any H.out.2.1 (by omega) x L hx (by omega)).mono ?_; rintro e w' ⟨rfl, rfl⟩; rw [H.out.1]))
    go_ret
    exact ⟨rfl, G, ⟨F, lw, lr, M, H.out.2.1.mono (by omega), H.out.2.2⟩, Step.refl _ _⟩
end Go.Proofs.Ytbodmgihoklhiaa
