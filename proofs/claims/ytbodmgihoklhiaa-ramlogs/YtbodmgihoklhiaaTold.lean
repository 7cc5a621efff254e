/- The calls Store, Read, Load and Watch of layer 2 on a memory that is watched. -/
import Derived.Test.YtbodmgihoklhiaaTell
namespace Go.Proofs.Ytbodmgihoklhiaa
open Go.RowKit Go.Maps
set_option linter.unusedVariables false
theorem LogAt.mono {B : Nat} {w : World} {G : Nat → Prop} {rb n n' lb : Nat} {ws rs : List (Nat × Nat)} (h : LogAt B w G rb n lb ws rs) (hn : n ≤ n') : LogAt B w G rb n' lb ws rs := by
  obtain ⟨F, lw, lr, M, h⟩ := h
  exact ⟨F, lw, lr, M, h.1.mono hn, h.2⟩
set_option maxHeartbeats 400000 in
theorem store_log {B : Nat} {w : World} {G : Nat → Prop} {rb n lb : Nat} {ws rs : List (Nat × Nat)} (h : LogAt B w G rb n lb ws rs) (x : Nat) (k : Int) (y : Nat) (hx : x < 18446744073709551616) (hy : y < 18446744073709551616) (hn : n + 8 ≤ 1000000) (hl : ws.length < 4096) (hB : B ≤ w.heap.size) :
    Calls Try.prog 17 #[.pointer (some ⟨rb, 0, none⟩), .int .u64 (x : Nat), .int .i64 k, .int .u64 (y : Nat)] w fun e w' => e = .returned (.bool (putB x k 4096)) ∧ ∃ G', LogAt B w' G' rb (n + 8) lb (if putB x k 4096 = true then ws ++ [(x, k.toNat)] else ws) rs ∧ Step G w G' w' := by
  unfold putB
  cases hw : widB k with
  | false =>
    rw [Bool.false_and, if_neg (by simp)]
    have H : Hid (_ ∧ _) := ⟨hw, h⟩
    clear hw h
    go_enter Try.func17, Try.ntmps17
    go_wp2_with (first | (go_at_call 32; refine (width_any k _).mono ?_; rintro e w' ⟨rfl, rfl⟩; rw [H.out.1]))
    go_ret
    exact ⟨rfl, G, LogAt.mono H.out.2 (by omega), Step.refl _ _⟩
  | true =>
    rw [Bool.true_and]
    have hk : k = 1 ∨ k = 2 ∨ k = 4 ∨ k = 8 := by simpa [widB] using hw
    obtain ⟨L, rfl⟩ : ∃ L : Nat, k = L := ⟨k.toNat, by omega⟩
    have hL : L ≤ 8 := by omega
    have hmm : more ws x L = ws ++ [(x, L)] := by unfold more; rw [if_pos (by omega)]
    rw [Int.toNat_natCast, ← hmm]
    have H : Hid (_ ∧ _) := ⟨hw, h⟩
    obtain ⟨Q, hQ⟩ : ∃ Q, Q = (if inB x L 2147483648 (4096 : Nat) = true then more ws x L else ws) := ⟨_, rfl⟩
    have HQ : Hid (Q = (if inB x L 2147483648 (4096 : Nat) = true then more ws x L else ws)) := hQ
    rw [← hQ]
    clear hw h hk hmm hQ
    go_enter Try.func17, Try.ntmps17
    go_wp2_with (first | (go_at_call 32; refine (width_any _ _).mono ?_; rintro e w' ⟨rfl, rfl⟩; rw [H.out.1]) | (go_at_call 35; refine (bytes_any y L L hy (by omega) _).mono ?_; rintro e w1 ⟨v, rfl, hown, hb⟩) | (go_at_call 20; refine (write_log (LogAt.below H.out.2 hb) x L (byteAt y) _ hx (reads_ownF hown (LogAt.lt H.out.2)) (fun i _ => byteAt_le y i) (by omega) hl (Nat.le_trans hB hb.size)).mono ?_; rintro e w2 ⟨rfl, G2, h2, hs2⟩))
    go_ret
    exact ⟨rfl, G2, by rw [HQ.out]; exact h2.mono (by omega), (Step.of_below hb).trans hs2⟩
set_option maxHeartbeats 400000 in
theorem read_log {B : Nat} {w : World} {G : Nat → Prop} {rb n lb : Nat} {ws rs : List (Nat × Nat)} (h : LogAt B w G rb n lb ws rs) (x L : Nat) (hx : x < 18446744073709551616) (hL : L < 18446744073709551616) (hl : rs.length < 4096) (hB : B ≤ w.heap.size) :
    Calls Try.prog 21 #[.pointer (some ⟨rb, 0, none⟩), .int .u64 (x : Nat), .int .u64 (L : Nat)] w fun e w' => ∃ v, e = .returned (.tuple #[v, .bool (inB x L 2147483648 (4096 : Nat))]) ∧ ∃ G', LogAt B w' G' rb n lb ws (if inB x L 2147483648 (4096 : Nat) = true then more rs x L else rs) ∧ Step G w G' w' := by
  obtain ⟨F, lw, lr, M, h⟩ := h
  cases hin : inB x L 2147483648 (4096 : Nat) with
  | false =>
    rw [if_neg (by simp)]
    refine (read_out h.1 (by omega) x L hx hL hin).mono ?_
    rintro e w' ⟨rfl, rfl⟩
    exact ⟨_, rfl, G, ⟨F, lw, lr, M, h⟩, Step.refl _ _⟩
  | true =>
    rw [if_pos rfl]
    obtain ⟨i0, hi, hz0, hz1, hz2⟩ := info_parts Try.info5
    have hb : (2147483648 : Int) ≤ x ∧ (x : Int) + L ≤ 2147483648 + 4096 := by simpa [inB] using hin
    have H : Hid (_ ∧ _) := ⟨hin, h⟩
    clear hin h
    go_enter Try.func21, Try.ntmps21
    go_wp2_with (first | (go_at_call 14; refine (has_any H.out.2.1 (by omega) x L hx hL).mono ?_; rintro e w' ⟨rfl, rfl⟩; rw [H.out.1]) | (at_make; refine wpList_make_full _ rfl _ _ 40 rfl w'.heap.size 5 i0 (.int .u8 0) 1 Try.underlying40 hi hz0 hz1 _ _ _ _ L rfl rfl ?m1 ?m2 ?m3 ?m4 ?m5 ?_))
    case m1 => rfl
    case m2 => rfl
    case m3 => rw [hz2]; omega
    case m4 => unfold maxLen; omega
    case m5 => omega
    · intro w1 hown0 hgrow0
      have hb0 : Below w'.heap.size w' w1 := Below.grown (Below.refl _ _) hgrow0 (Nat.le_refl _) (by simp)
      rw [toList_madeCells_one, rowK_zero] at hown0
      have hrow := whole_row hown0
      have hnew := hown0.lt w'.heap.size rfl
      have hl1 : LogAt B w1 G rb n lb ws rs := LogAt.below ⟨F, lw, lr, M, H.out.2⟩ hb0
      have hG : ¬ G w'.heap.size := fun hf => by have := H.out.2.2.2.2.2.2.2.2.2.2 _ hf; omega
      have hGF : ∀ k, F k → G k := H.out.2.2.2.2.2.2.2.1
      have X : Hid (_ ∧ _ ∧ _ ∧ _ ∧ _) := ⟨hrow, hb0, hl1, hG, hGF⟩
      clear hown0 hgrow0 hrow hb0 hl1 hG hGF
      go_wp2_with (first | (go_at_call 33; refine (get_any (H.out.2.1.below X.out.2.1) x L L w'.heap.size L 5 _ (.inr rfl) (Nat.le_refl _) (by omega) (fun hf => X.out.2.2.2.1 (X.out.2.2.2.2 _ hf)) X.out.1 (by omega)).mono ?_; rintro e w2 ⟨rfl, hr2, hs2⟩; have hl2 : LogAt B w2 G rb n lb ws rs := (by obtain ⟨F0, a0, b0, M0, h0⟩ := X.out.2.2.1; exact ⟨F0, a0, b0, M0, h0.kept hs2.size (fun k hk => hs2.block k (h0.2.2.2.2.2.2.2.2.2 k hk) (fun e => X.out.2.2.2.1 (e ▸ hk)))⟩); have hB2 : Below w'.heap.size w' w2 := X.out.2.1.trans (hs2.below (by omega) (fun k hk => by omega)); have Y : Hid (_ ∧ _) := ⟨hl2, hB2⟩; clear hl2 hB2 hr2 hs2) | (go_at_call 39; refine (tellRead_log Y.out.1 x L hL hl (Nat.le_trans hB Y.out.2.size)).mono ?_; rintro e w3 ⟨rfl, G3, h3, hs3⟩))
      go_ret2
      exact ⟨_, rfl, G3, h3, (Step.of_below Y.out.2).trans hs3⟩
theorem RamAt.setLog {w : World} {F : Nat → Prop} {rb size n : Nat} {lg lg' : Value} {M : Nat → Nat} (h : RamAt w F rb size n lg M) : RamAt (w.setCell ⟨rb, 2, none⟩ lg') F rb size n lg' M := by
  obtain ⟨bm, pg, D, h1, h2, h3, h4, h5, h6, f1, f2, f3, f4, h7⟩ := h
  have hne : ∀ k, (∀ c, w.heap[k]? ≠ some (.cells c 70 (0, 0))) → k ≠ rb := fun k hk e => hk _ (e ▸ h1)
  have old : ∀ k, k ≠ rb → (w.setCell ⟨rb, 2, none⟩ lg').heap[k]? = w.heap[k]? := fun k hk => heap_setCell w rb 2 lg' k hk
  obtain ⟨es, c, e1, e2, e3, e4⟩ := h2
  refine ⟨bm, pg, D, ?_, ⟨es, c, (old bm (hne bm (fun q => by rw [e1]; simp))).trans e1, e2, e3, e4⟩, h3, fun k b hk => (old b (hne b (fun q => by rw [h4 k b hk]; simp))).trans (h4 k b hk), h5, h6, f1, f2, f3, fun k hk => by simp [World.setCell]; exact f4 k hk, h7⟩
  rw [setCell_eq_setRow w rb 2 _ 70 (0, 0) lg' h1, setRow_heap w rb _ _ 70 _ h1]; rfl
theorem RamAt.frozen {w : World} {F : Nat → Prop} {rb size n : Nat} {lg : Value} {M : Nat → Nat} (h : RamAt w F rb size n lg M) : w.frozen? ⟨rb, 2, none⟩ = false := by
  obtain ⟨bm, pg, D, h1, _⟩ := h
  simp [World.frozen?, h1]
theorem clip_nil (w : World) : Calls Try.prog 36 #[.slice none 0 0] w fun e w' => e = .returned (.slice none 0 0) ∧ w' = w := by
  go_enter Try.func36, Try.ntmps36
  go_wp2
  go_ret
  exact ⟨rfl, rfl⟩
theorem watch_nil {w : World} {F : Nat → Prop} {rb size n lb : Nat} {M : Nat → Nat} (h : RamAt w F rb size n (.pointer (some ⟨lb, 0, none⟩)) M) :
    Calls Try.prog 18 #[.pointer (some ⟨rb, 0, none⟩), .pointer none] w fun e w' => e = .returned (.tuple #[]) ∧ w' = w.setCell ⟨rb, 2, none⟩ (.pointer none) := by
  have hc := h.cells.2
  have hf := h.frozen
  go_enter Try.func18, Try.ntmps18
  go_wp2
  exact bodyPost_ret (v := .tuple #[]) (by simp [results, Try.results18]) rfl ⟨rfl, rfl⟩
theorem watch_log {w : World} {F : Nat → Prop} {rb size n lb : Nat} {M : Nat → Nat} (h : RamAt w F rb size n (.pointer none) M) (hlb : w.heap[lb]? = some (.cells #[.slice none 0 0, .slice none 0 0] 49 (0, 0))) (hF : ¬ F lb) :
    Calls Try.prog 18 #[.pointer (some ⟨rb, 0, none⟩), .pointer (some ⟨lb, 0, none⟩)] w fun e w' => e = .returned (.tuple #[]) ∧ RamAt w' F rb size n (.pointer (some ⟨lb, 0, none⟩)) M ∧ w'.heap[lb]? = some (.cells #[.slice none 0 0, .slice none 0 0] 49 (0, 0)) ∧ Step (fun k => k = rb ∨ k = lb) w (fun k => k = rb ∨ k = lb) w' := by
  have hc := h.cells.2
  have hf := h.frozen
  have hne : lb ≠ rb := fun e => hF (e ▸ h.own)
  have h1 := (h.setLog (lg' := .pointer (some ⟨lb, 0, none⟩)))
  have hb1 : (w.setCell ⟨rb, 2, none⟩ (.pointer (some ⟨lb, 0, none⟩))).heap[lb]? = some (.cells #[.slice none 0 0, .slice none 0 0] 49 (0, 0)) := (heap_setCell w rb 2 _ lb hne).trans hlb
  have s1 : Step (fun k => k = rb ∨ k = lb) w (fun k => k = rb ∨ k = lb) (w.setCell ⟨rb, 2, none⟩ (.pointer (some ⟨lb, 0, none⟩))) := ⟨rfl, rfl, rfl, by simp [World.setCell], fun k hk hn => heap_setCell w rb 2 _ k (fun e => hn (.inl e)), fun _ h => .inl h, fun _ h => h⟩
  generalize hw1 : w.setCell ⟨rb, 2, none⟩ (.pointer (some ⟨lb, 0, none⟩)) = w1 at *
  obtain ⟨p0, p1, p2, p3⟩ := box_facts hb1
  have hb2 := box_set0 (u := .slice none 0 0) hb1
  have X : Hid (_ ∧ _ ∧ _) := ⟨h1, hb1, s1⟩
  clear h1 hb1 s1
  obtain ⟨q0, q1, q2, q3⟩ := box_facts hb2
  have Y : Hid _ := hb2
  clear hb2
  go_enter Try.func18, Try.ntmps18
  go_wp2_with (first | (go_at_call 36; refine (clip_nil _).mono ?_; rintro e w' ⟨rfl, rfl⟩))
  go_end0
  refine ⟨rfl, (X.out.1.setCell hF 0 _).setCell hF 1 _, box_set1 Y.out, ?_⟩
  obtain ⟨o1, o2, o3, o4, o5, o6, o7⟩ := X.out.2.2
  exact ⟨o1, o2, o3, by simpa [World.setCell] using o4, fun k hk hn => by rw [heap_setCell _ lb 1 _ k (fun e => hn (.inr e)), heap_setCell _ lb 0 _ k (fun e => hn (.inr e))]; exact o5 k hk hn, fun _ h => .inl h, fun _ h => h⟩
end Go.Proofs.Ytbodmgihoklhiaa
