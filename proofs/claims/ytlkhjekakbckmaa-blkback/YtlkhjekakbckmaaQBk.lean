/- The disk of a start, and the document's. -/
import Derived.Test.YtlkhjekakbckmaaQXSb
namespace Go.Proofs.Ytlkhjekakbckmaa.D
open Go.RowKit Go.Maps
set_option linter.unusedVariables false
set_option linter.unusedSimpArgs false
set_option maxRecDepth 100000
theorem results_tc {fn : Func} {p t : Tmp} (h : fn.results = #[.tmp t, .cell p 37]) (tmps : Array Value) (w : World) (b : Nat) (K : Dk) (g N : Nat) (hp : tmps.getD p undef = .pointer (some ⟨b, 0, none⟩)) (h1 : Box 37 w b (docC K g N)) : (results fn tmps).run Try.prog w = .ok (.tuple #[tmps.getD t undef, .agg (docC K g N)]) w := by
  have hp' : tmps[p]?.getD undef = .pointer (some ⟨b, 0, none⟩) := by simpa using hp
  simp [results, h, hp', asAddr, load28 h1]
theorem own_two {w w' : World} {B n db bm : Nat} {v : Value} {xs : List Value} (h : w.ownsRow B 5 1 v n xs) (t : Two db bm w w') (h1 : db < B) (h2 : bm < B) : w'.ownsRow B 5 1 v n xs := by
  have hl := h.lt
  refine ⟨h.1, h.2.imp id ?_⟩
  rintro ⟨g, cap, cur, rfl, e2, e3, e4⟩
  exact ⟨g, cap, cur, rfl, e2, (t.2 g (hl g rfl).2 (by omega) (by omega)).trans e3, e4⟩
/-- what Disk tells -/
def DskP (w w' : World) (lk : Bool) (dl ft : Nat) (s : ByteArray) (e : Ending) : Prop := ∃ pv K2 g N, e = .returned (.tuple #[pv, .agg (docC K2 g N)]) ∧ Below w.heap.size w w' ∧ ((pv = .pointer none ∧ (64 < dl ∨ 100 < s.size)) ∨ (dl ≤ 64 ∧ s.size ≤ 100 ∧ ∃ db bm K, pv = .pointer (some ⟨db, 0, none⟩) ∧ DiskAt w' db bm K ∧ w.heap.size ≤ db ∧ w.heap.size ≤ bm ∧ K.count = 4 ∧ K.locked = lk ∧ K.fail = ft))
/-- Disk under way -/
structure Sd (w V : World) (lk : Bool) (da : Option Addr) (dl dc ft : Nat) (s : ByteArray) (p : Nat) (KD : Dk) (g N : Nat) : Prop where
  st : V.heap[w.heap.size]? = some (.cells #[.bool lk, .slice da dl dc, .int .u64 (ft : Int), .string s] 25 (0, 0))
  rs : Box 37 V (w.heap.size + 1) zeroC
  bel : Below w.heap.size w V
  dc : Box 37 V p (docC KD g N)
  doc : DocAt V g N KD
  ne : w.heap.size + 1 < p ∧ w.heap.size + 1 < g ∧ g ≠ p
section
variable {w V V' : World} {lk : Bool} {da : Option Addr} {dl dc ft p g N db bm : Nat} {s : ByteArray} {KD K2 : Dk}
theorem Sd.below (h : Sd w V lk da dl dc ft s p KD g N) (hb : Below V.heap.size V V') : Sd w V' lk da dl dc ft s p KD g N := ⟨below_box h.st hb, h.rs.step hb, h.bel.trans (hb.mono h.bel.size), h.dc.step hb, h.doc.step hb, h.ne⟩
theorem Sd.two (h : Sd w V lk da dl dc ft s p KD g N) (ht : Two db bm V V') (h1 : p < db ∧ g < db) (h2 : p < bm ∧ g < bm) : Sd w V' lk da dl dc ft s p KD g N := by
  have := h.ne
  exact ⟨ht.heap h.st (by omega) (by omega), ht.box h.rs (by omega) (by omega), h.bel.trans (ht.below (by omega) (by omega) h.bel.size), ht.box h.dc (by omega) (by omega), h.doc.two ht (by omega) (by omega), h.ne⟩
theorem Sd.store {N' N2 : Nat} (h : Sd w V lk da dl dc ft s p KD g N) (hx : Box 37 V' p (docC K2 N' N2)) (hu : Upon p V V') (hd : DocAt V' N' N2 K2) (hn : w.heap.size + 1 < N' ∧ N' ≠ p) : Sd w V' lk da dl dc ft s p K2 N' N2 := by
  have := h.ne
  exact ⟨(hu.2 _ (Array.getElem?_eq_some_iff.1 h.st).1 (by omega)).trans h.st, hu.box h.rs (by omega), h.bel.trans (hu.below (by omega) h.bel.size), hx, hd, ⟨h.ne.1, hn.1, hn.2⟩⟩
end

set_option maxHeartbeats 4000000 in
theorem disk_any (lk : Bool) (da : Option Addr) (dl dc ft : Nat) (s : ByteArray) (f : Nat → Nat) (w : World) (hr : Reads .u8 w (.slice da dl dc) dl f) (hf : ∀ i, f i ≤ 255) (hft : ft < 18446744073709551616) (hs : s.size < 9223372036854775808) : Calls Try.prog 11 #[.agg #[.bool lk, .slice da dl dc, .int .u64 (ft : Int), .string s]] w fun e w' => DskP w w' lk dl ft s e := by
  have hb1 : Below w.heap.size w (w.alloc (.cells #[.bool lk, .slice da dl dc, .int .u64 (ft : Int), .string s] 25)) := (Below.refl _ _).alloc (Nat.le_refl _) _
  have hb2 : Below (w.alloc (.cells #[.bool lk, .slice da dl dc, .int .u64 (ft : Int), .string s] 25)).heap.size (w.alloc (.cells #[.bool lk, .slice da dl dc, .int .u64 (ft : Int), .string s] 25)) ((w.alloc (.cells #[.bool lk, .slice da dl dc, .int .u64 (ft : Int), .string s] 25)).alloc (.cells zeroC 37)) := (Below.refl _ _).alloc (Nat.le_refl _) _
  have hq : (w.alloc (.cells #[.bool lk, .slice da dl dc, .int .u64 (ft : Int), .string s] 25)).heap.size = w.heap.size + 1 := by simp
  have hx2 := heap_alloc_new (w.alloc (.cells #[.bool lk, .slice da dl dc, .int .u64 (ft : Int), .string s] 25)) (.cells zeroC 37)
  rw [hq] at hx2
  have X0 : Hid (((w.alloc (.cells #[.bool lk, .slice da dl dc, .int .u64 (ft : Int), .string s] 25)).alloc (.cells zeroC 37)).heap[w.heap.size]? = some (.cells #[.bool lk, .slice da dl dc, .int .u64 (ft : Int), .string s] 25 (0, 0)) ∧ Box 37 ((w.alloc (.cells #[.bool lk, .slice da dl dc, .int .u64 (ft : Int), .string s] 25)).alloc (.cells zeroC 37)) (w.heap.size + 1) zeroC ∧ Below w.heap.size w ((w.alloc (.cells #[.bool lk, .slice da dl dc, .int .u64 (ft : Int), .string s] 25)).alloc (.cells zeroC 37))) := ⟨below_box (heap_alloc_new w _) hb2, hx2, hb1.trans (hb2.mono hb1.size)⟩
  have HR : Hid (Reads .u8 w (.slice da dl dc) dl f ∧ (∀ i, f i ≤ 255) ∧ ft < 18446744073709551616) := ⟨hr, hf, hft⟩
  clear hb1 hb2 hq hx2 hr hf hft
  go_enter Try.func11, Try.ntmps11
  go_upto_region 1 with fail
  show Code.wp _ _ _ _ ((w.alloc (.cells #[.bool lk, .slice da dl dc, .int .u64 (ft : Int), .string s] 25)).alloc (.cells zeroC 37))
  generalize (w.alloc (.cells #[.bool lk, .slice da dl dc, .int .u64 (ft : Int), .string s] 25)).alloc (.cells zeroC 37) = w0 at *
  have c0 := cellOf X0.out.1 0 (.bool lk) rfl
  refine wp_region_list ?_
  iterate 2 (refine wpList_step (fun KK hKK => ?_); go_simp; refine hKK _ _ ?_; clear hKK KK)
  refine wpList_step (fun KK hKK => ?_)
  go_simp
  refine (dnew4 lk _).mono ?_
  rintro e w1 ⟨g, rfl, hdoc, hg, hb⟩
  refine hKK _ _ ?_
  clear hKK KK c0
  have X1 : Hid ((w1.heap[w.heap.size]? = some (.cells #[.bool lk, .slice da dl dc, .int .u64 (ft : Int), .string s] 25 (0, 0)) ∧ Box 37 w1 (w.heap.size + 1) zeroC ∧ Below w.heap.size w w1) ∧ DocAt w1 g 2048 (newK 4 lk) ∧ w.heap.size + 1 < g) := ⟨⟨below_box X0.out.1 hb, X0.out.2.1.step hb, X0.out.2.2.trans (hb.mono X0.out.2.2.size)⟩, hdoc, by have := X0.out.2.1.lt; omega⟩
  clear hdoc hg hb X0
  refine wpList_alloc_zero 37 zeroC 5 zinfo28 rfl rfl ?_
  have hba : Below w1.heap.size w1 (w1.alloc (.cells zeroC 37)) := (Below.refl _ _).alloc (Nat.le_refl _) _
  refine wpList_store28 rfl _ _ rfl w1.heap.size (newK 4 lk) g 2048 zeroC rfl rfl (Box.new 37 w1 _) rfl (fun W hW hU => ?_)
  obtain ⟨p, hp⟩ : ∃ p, w1.heap.size = p := ⟨_, rfl⟩
  rw [hp] at hW hU ⊢
  have X2 : Hid (Sd w W lk da dl dc ft s p (newK 4 lk) g 2048 ∧ p < W.heap.size ∧ g < W.heap.size) := by
    have l1 := X1.out.1.2.1.lt
    have l2 := X1.out.2.1.lt
    have hg := X1.out.2.1.step hba
    exact ⟨⟨(hU.2 _ (Nat.lt_of_lt_of_le (by omega) hba.size) (by omega)).trans (below_box X1.out.1.1 hba), hU.box (X1.out.1.2.1.step hba) (by omega), (X1.out.1.2.2.trans (hba.mono X1.out.1.2.2.size)).trans (hU.below (by omega) (Nat.le_trans X1.out.1.2.2.size hba.size)), hW, hg.upon hU (by omega), ⟨by omega, X1.out.2.2, by omega⟩⟩, hW.lt, Nat.lt_of_lt_of_le hg.lt hU.size⟩
  clear hW hU hba hp X1
  go_upto_region 2 with fail
  have c0 := cellOf X2.out.1.st 0 (.bool lk) rfl
  go_upto_region 3 with (go_at_call 39; refine (new_yes 4 lk (by decide) (by decide) _).mono ?_; rintro e w2 ⟨db, bm, rfl, hd, h1, h2, hb⟩; have X3 : Hid (Sd w w2 lk da dl dc ft s p (newK 4 lk) g 2048 ∧ DiskAt w2 db bm (newK 4 lk) ∧ (p < db ∧ g < db) ∧ (p < bm ∧ g < bm)) := ⟨X2.out.1.below hb, hd, by have := X2.out.2; omega, by have := X2.out.2; omega⟩; clear hd h1 h2 hb X2 c0)
  have c1 := cellOf X3.out.1.st 1 (.slice da dl dc) rfl
  have c3 := cellOf X3.out.1.st 3 (.string s) rfl
  by_cases hbig : 64 < dl ∨ 100 < s.size
  · have HB : Hid (64 < dl ∨ 100 < s.size) := hbig
    have ht : Hid (decide ((64 : Int) < (dl : Int)) = true ∨ (decide ((64 : Int) < (dl : Int)) = false ∧ decide ((100 : Int) < (s.size : Int)) = true)) := by
      by_cases h : 64 < dl
      · exact .inl (decide_eq_true (by omega))
      · exact .inr ⟨decide_eq_false (by omega), decide_eq_true (by omega)⟩
    clear hbig
    rcases ht.out with d1 | ⟨d1, d2⟩
    · go_upto_region 4 with fail
      have hdr : Below w2.heap.size w2 w2.drew := Below.drew (Below.refl _ _)
      have Xd : Hid (Sd w w2.drew lk da dl dc ft s p (newK 4 lk) g 2048 ∧ True) := ⟨X3.out.1.below hdr, trivial⟩
      clear hdr
      refine wp_region_held_drew (S := fun Z => Box 37 Z p (docC (newK 4 lk) g 2048)) (by kernel_rfl) Xd.out.1.dc ?_
      intro hS
      generalize w2.drew = wd at *
      refine wpAnyH_take (i := 0) (v := .agg (docC (newK 4 lk) g 2048)) rfl (by kernel_rfl) (by kernel_rfl) (by kernel_rfl) (fun _ _ _ h => h) (Or.inl ⟨by kernel_rfl, fun V hV => yield28 hV _ rfl rfl⟩) hS ?_
      (try simp only [Act.put, List.getElem_toArray, List.getElem_cons_succ, List.getElem_cons_zero, List.setIfInBounds_toArray, List.set_cons_zero, List.set_cons_succ])
      refine wpAnyH_take (i := 1) (v := ?_) rfl (by kernel_rfl) (by kernel_rfl) (by kernel_rfl) (fun _ _ _ h => h) (Or.inl ⟨by kernel_rfl, ?_⟩) hS ?_
      rotate_left
      · intro w hSw; (try dsimp only at hSw); go_simp; try (with_reducible rfl)
      (try simp only [Act.put, List.getElem_toArray, List.getElem_cons_succ, List.getElem_cons_zero, List.setIfInBounds_toArray, List.set_cons_zero, List.set_cons_succ])
      refine wpAnyH_ready (rs := [2]) (by kernel_rfl) (by simp) ?_
      refine AllReadyH.cons rfl (fun K1 hK1 => ?_) AllReadyH.nil
      rw [if_pos (by kernel_rfl)]
      refine wp_store28 _ _ rfl (w.heap.size + 1) (newK 4 lk) g 2048 zeroC rfl rfl Xd.out.1.rs rfl (fun W hW hU => ?_)
      have Y : Hid (Box 37 W (w.heap.size + 1) (docC (newK 4 lk) g 2048) ∧ Below w.heap.size w W ∧ True) := ⟨hW, Xd.out.1.bel.trans (hU.below (Nat.le_succ _) Xd.out.1.bel.size), trivial⟩
      refine hK1.out _ _ (hU.box Xd.out.1.dc (by have := Xd.out.1.ne; omega)) (fun h2 => ?_)
      clear hK1 K1 hS hW hU Xd
      (try simp only [Act.put, List.getElem_toArray, List.getElem_cons_succ, List.getElem_cons_zero, List.setIfInBounds_toArray, List.set_cons_zero, List.set_cons_succ])
      refine wpAnyH_done (by kernel_rfl) ?_ _
      clear h2
      go_wp2_with fail
      refine bodyPost_ret (v := .tuple #[.pointer none, .agg (docC (newK 4 lk) g 2048)]) (results_tc (p := 3) (t := 2) Try.results11 _ _ (w.heap.size + 1) (newK 4 lk) g 2048 rfl Y.out.1) rfl ?_
      exact ⟨.pointer none, newK 4 lk, g, 2048, rfl, Y.out.2.1, .inl ⟨rfl, HB.out⟩⟩
    · go_upto_region 4 with fail
      have hdr : Below w2.heap.size w2 w2.drew := Below.drew (Below.refl _ _)
      have Xd : Hid (Sd w w2.drew lk da dl dc ft s p (newK 4 lk) g 2048 ∧ True) := ⟨X3.out.1.below hdr, trivial⟩
      clear hdr
      refine wp_region_held_drew (S := fun Z => Box 37 Z p (docC (newK 4 lk) g 2048)) (by kernel_rfl) Xd.out.1.dc ?_
      intro hS
      generalize w2.drew = wd at *
      refine wpAnyH_take (i := 0) (v := .agg (docC (newK 4 lk) g 2048)) rfl (by kernel_rfl) (by kernel_rfl) (by kernel_rfl) (fun _ _ _ h => h) (Or.inl ⟨by kernel_rfl, fun V hV => yield28 hV _ rfl rfl⟩) hS ?_
      (try simp only [Act.put, List.getElem_toArray, List.getElem_cons_succ, List.getElem_cons_zero, List.setIfInBounds_toArray, List.set_cons_zero, List.set_cons_succ])
      refine wpAnyH_take (i := 1) (v := ?_) rfl (by kernel_rfl) (by kernel_rfl) (by kernel_rfl) (fun _ _ _ h => h) (Or.inl ⟨by kernel_rfl, ?_⟩) hS ?_
      rotate_left
      · intro w hSw; (try dsimp only at hSw); go_simp; try (with_reducible rfl)
      (try simp only [Act.put, List.getElem_toArray, List.getElem_cons_succ, List.getElem_cons_zero, List.setIfInBounds_toArray, List.set_cons_zero, List.set_cons_succ])
      refine wpAnyH_ready (rs := [2]) (by kernel_rfl) (by simp) ?_
      refine AllReadyH.cons rfl (fun K1 hK1 => ?_) AllReadyH.nil
      rw [if_pos (by kernel_rfl)]
      refine wp_store28 _ _ rfl (w.heap.size + 1) (newK 4 lk) g 2048 zeroC rfl rfl Xd.out.1.rs rfl (fun W hW hU => ?_)
      have Y : Hid (Box 37 W (w.heap.size + 1) (docC (newK 4 lk) g 2048) ∧ Below w.heap.size w W ∧ True) := ⟨hW, Xd.out.1.bel.trans (hU.below (Nat.le_succ _) Xd.out.1.bel.size), trivial⟩
      refine hK1.out _ _ (hU.box Xd.out.1.dc (by have := Xd.out.1.ne; omega)) (fun h2 => ?_)
      clear hK1 K1 hS hW hU Xd
      (try simp only [Act.put, List.getElem_toArray, List.getElem_cons_succ, List.getElem_cons_zero, List.setIfInBounds_toArray, List.set_cons_zero, List.set_cons_succ])
      refine wpAnyH_done (by kernel_rfl) ?_ _
      clear h2
      go_wp2_with fail
      refine bodyPost_ret (v := .tuple #[.pointer none, .agg (docC (newK 4 lk) g 2048)]) (results_tc (p := 3) (t := 2) Try.results11 _ _ (w.heap.size + 1) (newK 4 lk) g 2048 rfl Y.out.1) rfl ?_
      exact ⟨.pointer none, newK 4 lk, g, 2048, rfl, Y.out.2.1, .inl ⟨rfl, HB.out⟩⟩
  · have HB : Hid (dl ≤ 64 ∧ s.size ≤ 100) := ⟨by omega, by omega⟩
    have d1 : decide ((64 : Int) < (dl : Int)) = false := decide_eq_false (by omega)
    have d2 : decide ((100 : Int) < (s.size : Int)) = false := decide_eq_false (by omega)
    clear hbig
    go_upto_region 5 with fail
    clear c1 c3 d1 d2
    go_wp2_with fail
    go_loopw [7, 8] (fun v i wr => ∃ k : Nat, k ≤ 40 ∧ i = .int .i64 (k : Int) ∧ wr.ownsRow w2.heap.size 5 1 v (k * dl) (rowK .u8 (overF f dl) (k * dl)) ∧ Below w2.heap.size w2 wr) (fun _ i _ => 40 - (intOf i).toNat)
    case atStart => exact ⟨0, Nat.zero_le _, rfl, by rw [Nat.zero_mul, rowK_nil]; exact World.ownsRow_nil _ _ _ _, Below.refl _ _⟩
    case round =>
      obtain ⟨k, hk, rfl, hown, hb⟩ := hrel
      obtain ⟨va, vc, hv⟩ := owns_form hown
      subst hv
      have X4 : Hid (Sd w wr lk da dl dc ft s p (newK 4 lk) g 2048 ∧ DiskAt wr db bm (newK 4 lk) ∧ wr.ownsRow w2.heap.size 5 1 (.slice va (k * dl) vc) (k * dl) (rowK .u8 (overF f dl) (k * dl)) ∧ Below w2.heap.size w2 wr) := ⟨X3.out.1.below hb, X3.out.2.1.step hb, hown, hb⟩
      clear hown hb
      by_cases hlt : k < 40
      · have hlt2 : (k : Int) < 40 := by omega
        have hkl : k * dl + dl ≤ 2560 := by
          have := Nat.mul_le_mul_right dl (show k + 1 ≤ 40 from hlt)
          rw [Nat.add_mul, Nat.one_mul] at this
          have := HB.out.1
          omega
        have c1 := cellOf X4.out.1.st 1 (.slice da dl dc) rfl
        go_upto_region 9 with fail
        refine wp_region_list ?_
        iterate 3 (refine wpList_step (fun KK hKK => ?_); go_simp; refine hKK _ _ ?_; clear hKK KK)
        refine wpList_append_data rfl _ _ rfl w2.heap.size (k * dl) (.slice va (k * dl) vc) _ rfl X4.out.2.2.1 (.slice da dl dc) rfl dl f (reads_below HR.out.1 X4.out.1.bel) (by omega) X4.out.2.2.2.size ?_
        intro v' w' hown' hgrow
        have hown2 : w'.ownsRow w2.heap.size 5 1 v' ((k + 1) * dl) (rowK .u8 (overF f dl) ((k + 1) * dl)) := by rw [← overF_next, Nat.add_mul, Nat.one_mul]; exact hown'
        have Z : Hid (w'.ownsRow w2.heap.size 5 1 v' ((k + 1) * dl) (rowK .u8 (overF f dl) ((k + 1) * dl)) ∧ Below w2.heap.size w2 w') := ⟨hown2, X4.out.2.2.2.trans ((Below.refl _ _).grown hgrow X4.out.2.2.2.size (fun j hj => (X4.out.2.2.1.lt j hj).1))⟩
        clear hown' hown2 hgrow X4 c1
        go_wp2_with fail
        go_roundw
        case rel => exact ⟨k + 1, by omega, by go_num, Z.out.1, Z.out.2⟩
        case measure => simp [intOf]; omega
      · obtain rfl : k = 40 := by omega
        have hbig : ¬ ((40 : Nat) : Int) < 40 := by omega
        have HF : Hid (∀ i, overF f dl i ≤ 255) := overF_le dl HR.out.2.1
        have HD : Hid (40 * dl ≤ 1000000 ∧ db < w2.heap.size ∧ bm < w2.heap.size) := ⟨by have := HB.out.1; omega, X3.out.2.1.lt⟩
        go_upto_region 11 with (go_at_call 42; refine (fill_any X4.out.2.1 (40 * dl) (overF f dl) _ (owns_readsF X4.out.2.2.1 (fun k hk => by have := HD.out; omega)) HF.out).mono ?_; rintro e w4 ⟨rfl, h1, t1⟩)
        have X5 : Hid (Sd w w4 lk da dl dc ft s p (newK 4 lk) g 2048 ∧ DiskAt w4 db bm (fillK (newK 4 lk) (40 * dl) (overF f dl)) ∧ w4.ownsRow w2.heap.size 5 1 (.slice va (40 * dl) vc) (40 * dl) (rowK .u8 (overF f dl) (40 * dl))) := ⟨X4.out.1.two t1 X3.out.2.2.1 X3.out.2.2.2, h1, own_two X4.out.2.2.1 t1 HD.out.2.1 HD.out.2.2⟩
        clear h1 t1 X4 hbig hlt hk
        have c2 := cellOf X5.out.1.st 2 (.int .u64 (ft : Int)) rfl
        go_upto_region 12 with (go_at_call 43; refine (fail_any X5.out.2.1 ft HR.out.2.2).mono ?_; rintro e w5 ⟨rfl, h1, t1⟩)
        have X6 : Hid (Sd w w5 lk da dl dc ft s p (newK 4 lk) g 2048 ∧ DiskAt w5 db bm (failK (fillK (newK 4 lk) (40 * dl) (overF f dl)) ft) ∧ w5.ownsRow w2.heap.size 5 1 (.slice va (40 * dl) vc) (40 * dl) (rowK .u8 (overF f dl) (40 * dl))) := ⟨X5.out.1.two t1 X3.out.2.2.1 X3.out.2.2.2, h1, own_two X5.out.2.2 t1 HD.out.2.1 HD.out.2.2⟩
        clear h1 t1 X5 c2
        refine wp_region_list ?_
        refine wpList_load28 rfl _ rfl p (newK 4 lk) g 2048 rfl X6.out.1.dc ?_
        (refine wpList_step (fun KK hKK => ?_); go_simp; refine hKK _ _ ?_; clear hKK KK)
        refine wpList_step (fun KK hKK => ?_)
        go_simp
        refine (dfill_any (newK 4 lk) g 2048 (40 * dl) (overF f dl) _ _ X6.out.1.doc (reads_own X6.out.2.2) HF.out HD.out.1).mono ?_
        rintro e w6 ⟨q2, rfl, hdoc, hq2, hb⟩
        refine hKK _ _ ?_
        clear hKK KK
        have X7 : Hid (Sd w w6 lk da dl dc ft s p (newK 4 lk) g 2048 ∧ DiskAt w6 db bm (failK (fillK (newK 4 lk) (40 * dl) (overF f dl)) ft) ∧ DocAt w6 q2 2048 (fillK (newK 4 lk) (40 * dl) (overF f dl)) ∧ w.heap.size + 1 < q2 ∧ q2 ≠ p) := ⟨X6.out.1.below hb, X6.out.2.1.step hb, hdoc, by have := X6.out.1.rs.lt; omega, by have := X6.out.1.dc.lt; omega⟩
        clear hdoc hq2 hb X6
        refine wpList_store28 rfl _ _ rfl p (fillK (newK 4 lk) (40 * dl) (overF f dl)) q2 2048 (docC (newK 4 lk) g 2048) rfl rfl X7.out.1.dc rfl (fun W hW hU => ?_)
        have X8 : Hid (Sd w W lk da dl dc ft s p (fillK (newK 4 lk) (40 * dl) (overF f dl)) q2 2048 ∧ DiskAt W db bm (failK (fillK (newK 4 lk) (40 * dl) (overF f dl)) ft)) := ⟨X7.out.1.store hW hU (X7.out.2.2.1.upon hU X7.out.2.2.2.2) X7.out.2.2.2, X7.out.2.1.upon hU (by have := X3.out.2.2; omega) (by have := X3.out.2.2; omega)⟩
        clear hW hU X7
        have c2 := cellOf X8.out.1.st 2 (.int .u64 (ft : Int)) rfl
        have d2 := X8.out.1.dc.cell 2 _ rfl
        have d3 := X8.out.1.dc.frozen 2
        go_upto_region 14 with fail
        have X9 : Hid (Sd w (W.setCell ⟨p, 2, none⟩ (.int .u64 (ft : Int))) lk da dl dc ft s p (failK (fillK (newK 4 lk) (40 * dl) (overF f dl)) ft) q2 2048 ∧ DiskAt (W.setCell ⟨p, 2, none⟩ (.int .u64 (ft : Int))) db bm (failK (fillK (newK 4 lk) (40 * dl) (overF f dl)) ft)) := by
          have hu : Upon p W (W.setCell ⟨p, 2, none⟩ (.int .u64 (ft : Int))) := (Upon.refl _ _).set 2 _
          exact ⟨X8.out.1.store (X8.out.1.dc.set 2 _) hu ((X8.out.1.doc.upon hu X8.out.1.ne.2.2).same rfl rfl (failK_ok X8.out.1.doc.2.2 ft HR.out.2.2)) X8.out.1.ne.2, X8.out.2.upon hu (by have := X3.out.2.2; omega) (by have := X3.out.2.2; omega)⟩
        clear X8 c2 d2 d3
        generalize W.setCell ⟨p, 2, none⟩ (.int .u64 (ft : Int)) = w9 at *
        have hdr : Below w9.heap.size w9 w9.drew := Below.drew (Below.refl _ _)
        have Xd : Hid (Sd w w9.drew lk da dl dc ft s p (failK (fillK (newK 4 lk) (40 * dl) (overF f dl)) ft) q2 2048 ∧ DiskAt w9.drew db bm (failK (fillK (newK 4 lk) (40 * dl) (overF f dl)) ft)) := ⟨X9.out.1.below hdr, X9.out.2.step hdr⟩
        clear hdr
        refine wp_region_held_drew (S := fun Z => Box 37 Z p (docC (failK (fillK (newK 4 lk) (40 * dl) (overF f dl)) ft) q2 2048)) (by kernel_rfl) Xd.out.1.dc ?_
        intro hS
        generalize w9.drew = wd at *
        refine wpAnyH_take (i := 0) (v := ?_) rfl (by kernel_rfl) (by kernel_rfl) (by kernel_rfl) (fun _ _ _ h => h) (Or.inl ⟨by kernel_rfl, ?_⟩) hS ?_
        rotate_left
        · intro w hSw; (try dsimp only at hSw); go_simp; try (with_reducible rfl)
        (try simp only [Act.put, List.getElem_toArray, List.getElem_cons_succ, List.getElem_cons_zero, List.setIfInBounds_toArray, List.set_cons_zero, List.set_cons_succ])
        refine wpAnyH_take (i := 1) (v := .agg (docC (failK (fillK (newK 4 lk) (40 * dl) (overF f dl)) ft) q2 2048)) rfl (by kernel_rfl) (by kernel_rfl) (by kernel_rfl) (fun _ _ _ h => h) (Or.inl ⟨by kernel_rfl, fun V hV => yield28 hV _ rfl rfl⟩) hS ?_
        (try simp only [Act.put, List.getElem_toArray, List.getElem_cons_succ, List.getElem_cons_zero, List.setIfInBounds_toArray, List.set_cons_zero, List.set_cons_succ])
        refine wpAnyH_take (i := 2) (v := ?_) rfl (by kernel_rfl) (by kernel_rfl) (by kernel_rfl) (fun _ _ _ h => h) (Or.inl ⟨by kernel_rfl, ?_⟩) hS ?_
        rotate_left
        · intro w hSw; (try dsimp only at hSw); go_simp; try (with_reducible rfl)
        (try simp only [Act.put, List.getElem_toArray, List.getElem_cons_succ, List.getElem_cons_zero, List.setIfInBounds_toArray, List.set_cons_zero, List.set_cons_succ])
        refine wpAnyH_ready (rs := [3]) (by kernel_rfl) (by simp) ?_
        refine AllReadyH.cons rfl (fun K1 hK1 => ?_) AllReadyH.nil
        rw [if_pos (by kernel_rfl)]
        refine wp_store28 _ _ rfl (w.heap.size + 1) (failK (fillK (newK 4 lk) (40 * dl) (overF f dl)) ft) q2 2048 zeroC rfl rfl Xd.out.1.rs rfl (fun W hW hU => ?_)
        have Y : Hid (Box 37 W (w.heap.size + 1) (docC (failK (fillK (newK 4 lk) (40 * dl) (overF f dl)) ft) q2 2048) ∧ Below w.heap.size w W ∧ DiskAt W db bm (failK (fillK (newK 4 lk) (40 * dl) (overF f dl)) ft)) := ⟨hW, Xd.out.1.bel.trans (hU.below (Nat.le_succ _) Xd.out.1.bel.size), Xd.out.2.upon hU (by have := X3.out.2.2; have := Xd.out.1.ne; omega) (by have := X3.out.2.2; have := Xd.out.1.ne; omega)⟩
        refine hK1.out _ _ (hU.box Xd.out.1.dc (by have := Xd.out.1.ne; omega)) (fun h2 => ?_)
        clear hK1 K1 hS hW hU Xd
        (try simp only [Act.put, List.getElem_toArray, List.getElem_cons_succ, List.getElem_cons_zero, List.setIfInBounds_toArray, List.set_cons_zero, List.set_cons_succ])
        refine wpAnyH_done (by kernel_rfl) ?_ _
        clear h2
        go_wp2_with fail
        refine bodyPost_ret (v := .tuple #[.pointer (some ⟨db, 0, none⟩), .agg (docC (failK (fillK (newK 4 lk) (40 * dl) (overF f dl)) ft) q2 2048)]) (results_tc (p := 3) (t := 2) Try.results11 _ _ (w.heap.size + 1) (failK (fillK (newK 4 lk) (40 * dl) (overF f dl)) ft) q2 2048 rfl Y.out.1) rfl ?_
        exact ⟨.pointer (some ⟨db, 0, none⟩), _, q2, 2048, rfl, Y.out.2.1, .inr ⟨HB.out.1, HB.out.2, db, bm, _, rfl, Y.out.2.2, by have := X3.out.2.2; have := X3.out.1.ne; omega, by have := X3.out.2.2; have := X3.out.1.ne; omega, rfl, rfl, rfl⟩⟩
end Go.Proofs.Ytlkhjekakbckmaa.D
