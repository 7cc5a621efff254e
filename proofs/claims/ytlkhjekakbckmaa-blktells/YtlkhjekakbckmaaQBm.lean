/- Layer 19: a device tells of itself what the page says. -/
import Derived.Test.YtlkhjekakbckmaaQBl
import Derived.LaidEqlPtr
namespace Go.Proofs.Ytlkhjekakbckmaa
open Go.RowKit Go.Maps
set_option linter.unusedVariables false
set_option linter.unusedSimpArgs false
set_option maxRecDepth 100000
theorem same_disk (b : Nat) (w : World) : (binOp .eql 35 (.pointer (some ⟨b, 0, none⟩)) (.pointer (some ⟨b, 0, none⟩))).run Try.prog w = .ok (.bool true) w := by
  obtain ⟨j, hj⟩ := Option.isSome_iff_exists.1 (show (Try.prog.info? 133).isSome = true by kernel_rfl)
  exact run_eql_ptr_same w _ (te := 133) (by kernel_rfl) hj
set_option maxHeartbeats 4000000 in
theorem tells_false (w : World) (da : Option Addr) (dl dc ft : Nat) (s : ByteArray) (f : Nat → Nat) (z : Int) (hr : Reads .u8 w (.slice da dl dc) dl f) (hf : ∀ i, f i ≤ 255) (hft : ft < 18446744073709551616) (hs : s.size < 9223372036854775808) : Calls Try.prog 5 #[.agg #[.bool false, .slice da dl dc, .int .u64 (ft : Int), .string s], .int .u64 z] w fun e w' => e = .returned (.bool true) ∧ Below w.heap.size w w' := by
  have HR : Hid (Reads .u8 w (.slice da dl dc) dl f ∧ (∀ i, f i ≤ 255) ∧ ft < 18446744073709551616 ∧ s.size < 9223372036854775808) := ⟨hr, hf, hft, hs⟩
  have X0 : Hid ((w.alloc (.cells #[.bool false, .slice da dl dc, .int .u64 (ft : Int), .string s] 25)).heap[w.heap.size]? = some (.cells #[.bool false, .slice da dl dc, .int .u64 (ft : Int), .string s] 25 (0, 0)) ∧ Below w.heap.size w (w.alloc (.cells #[.bool false, .slice da dl dc, .int .u64 (ft : Int), .string s] 25))) := ⟨heap_alloc_new w _, (Below.refl _ _).alloc (Nat.le_refl _) _⟩
  clear hr hf hft hs
  go_enter Try.func5, Try.ntmps5
  go_upto_region 1 with fail
  show Code.wp _ _ _ _ (w.alloc (.cells #[.bool false, .slice da dl dc, .int .u64 (ft : Int), .string s] 25))
  generalize w.alloc (.cells #[.bool false, .slice da dl dc, .int .u64 (ft : Int), .string s] 25) = w0 at *
  go_upto_region 3 with (go_at_call 9; refine (awake_any19 _).mono ?_; rintro e w1 ⟨rfl, hb⟩; have X1 : Hid (w1.heap[w.heap.size]? = some (.cells #[.bool false, .slice da dl dc, .int .u64 (ft : Int), .string s] 25 (0, 0)) ∧ Below w.heap.size w w1) := ⟨below_box X0.out.1 hb, below_to X0.out.2 hb⟩; clear hb X0)
  go_upto_region 4 with (go_at_call 10; refine (memory_any (.slice none 0 0) 0 (fun _ => ⟨0, none, 0, 0, fun _ => 0⟩) _ (.inl ⟨rfl, _, _, rfl⟩)).mono ?_; rintro e w2 ⟨pv, a, n, c, rfl, hb, hor⟩)
  have hb3 : Below w2.heap.size w2 (w2.alloc (.cells #[.int .u64 8192, .slice a n c] 32)) := (Below.refl _ _).alloc (Nat.le_refl _) _
  have X3 : Hid ((w2.alloc (.cells #[.int .u64 8192, .slice a n c] 32)).heap[w.heap.size]? = some (.cells #[.bool false, .slice da dl dc, .int .u64 (ft : Int), .string s] 25 (0, 0)) ∧ Below w.heap.size w (w2.alloc (.cells #[.int .u64 8192, .slice a n c] 32))) := ⟨below_box (below_box X1.out.1 hb) hb3, below_to (below_to X1.out.2 hb) hb3⟩
  obtain ⟨rb, rfl⟩ : ∃ rb, pv = .pointer (some ⟨rb, 0, none⟩) := by
    rcases hor with ⟨_, h⟩ | ⟨rb, _, _, h, _⟩
    · omega
    · exact ⟨rb, h⟩
  clear hor hb hb3 X1
  generalize w2.alloc (.cells #[.int .u64 8192, .slice a n c] 32) = w3 at *
  refine wp_region_list ?_
  refine wpList_load_row rfl 25 _ rfl w.heap.size rfl 25 _ (0, 0) _ X3.out.1 Try.underlying25 rfl (by kernel_rfl) ?_
  refine wpList_step (fun KK hKK => ?_)
  go_simp
  refine (D.disk_any false da dl dc ft s f _ (reads_below HR.out.1 X3.out.2) HR.out.2.1 HR.out.2.2.1 HR.out.2.2.2).mono ?_
  rintro e w4 ⟨pv, K2, g, N, rfl, hb, hor⟩
  refine hKK _ _ ?_
  clear hKK KK
  iterate 3 (refine wpList_step (fun KK hKK => ?_); go_simp; refine hKK _ _ ?_; clear hKK KK)
  refine D.wpList_alloc_zero 37 D.zeroC 5 D.zinfo28 rfl rfl ?_
  (refine wpList_step (fun KK hKK => ?_); go_simp; refine hKK _ _ ?_; clear hKK KK)
  refine D.wpList_store28 rfl _ _ rfl w4.heap.size K2 g N D.zeroC rfl rfl (D.Box.new 37 w4 _) rfl (fun W hW hU => ?_)
  have hb5 : Below w4.heap.size w4 (w4.alloc (.cells D.zeroC 37)) := (Below.refl _ _).alloc (Nat.le_refl _) _
  have hb6 : Below w4.heap.size w4 W := hb5.trans (hU.below (Nat.le_refl _) hb5.size)
  have X4 : Hid (W.heap[w.heap.size]? = some (.cells #[.bool false, .slice da dl dc, .int .u64 (ft : Int), .string s] 25 (0, 0)) ∧ Below w.heap.size w W ∧ (pv = .pointer none ∨ ∃ db bm K, pv = .pointer (some ⟨db, 0, none⟩) ∧ D.DiskAt W db bm K ∧ K.count = 4 ∧ K.locked = false)) := ⟨below_box (below_box X3.out.1 hb) hb6, below_to (below_to X3.out.2 hb) hb6, hor.imp (fun h => h.1) (fun ⟨_, _, db, bm, K, h1, h2, _, _, h3, h4, _⟩ => ⟨db, bm, K, h1, h2.step hb6, h3, h4⟩)⟩
  clear hW hU hb hb5 hb6 hor X3
  rcases X4.out.2.2 with rfl | ⟨db, bm, K, rfl, hd, hc4, hlk⟩
  · go_wp2_with fail
    go_ret
    exact ⟨rfl, X4.out.2.1⟩
  have X5 : Hid (W.heap[w.heap.size]? = some (.cells #[.bool false, .slice da dl dc, .int .u64 (ft : Int), .string s] 25 (0, 0)) ∧ Below w.heap.size w W ∧ D.DiskAt W db bm K ∧ K.count = 4 ∧ K.locked = false) := ⟨X4.out.1, X4.out.2.1, hd, hc4, hlk⟩
  clear hd hc4 hlk X4
  have c3 := cellOf X5.out.1 3 (.string s) rfl
  go_upto_region 8 with (go_at_call 13; refine (bnew_any X5.out.2.2.1 s).mono ?_; rintro e w6 ⟨bb, gb, qb, sv, rfl, hbk, hrg, hsp, _, hb⟩)
  rw [X5.out.2.2.2.1] at hrg hsp
  rw [X5.out.2.2.2.2] at hrg
  obtain ⟨sa, sc, rfl, hsc, hsp⟩ := hsp
  have X6 : Hid (w6.heap[w.heap.size]? = some (.cells #[.bool false, .slice da dl dc, .int .u64 (ft : Int), .string s] 25 (0, 0)) ∧ Below w.heap.size w w6 ∧ BlkAt w6 bb gb rb db (nmN s) (.slice none 0 0) ∧ Rgs w6 gb qb (newK 2 (offN false) 1 (cntL 4)) (.slice sa 8 sc) ∧ SpIn w6 sa 8 sc (cntL 4)) := by
    refine ⟨below_box X5.out.1 hb, below_to X5.out.2.1 hb, hbk, hrg, rfl, by decide, hsc, by decide, ?_⟩
    rcases hsp with ⟨_, h⟩ | ⟨g, rfl, _, _, hc⟩
    · exact absurd h (by decide)
    · exact .inr ⟨g, 0, rfl, hc⟩
  clear hbk hrg hsc hsp hb c3 X5
  have c0 := cellOf X6.out.1 0 (.bool false) rfl
  go_upto_region 11 with fail
  clear c0
  have b0 := cellOf X6.out.2.2.1 0 (.pointer (some ⟨gb, 0, none⟩)) rfl
  have HL : Hid (Calls Try.prog 24 #[.pointer (some ⟨gb, 0, none⟩), .int .u64 256, .int .i64 8] w6 fun e w' => e = .returned (.tuple #[.int .u64 4, .bool true]) ∧ w' = w6) := load_256 X6.out.2.2.2.1 X6.out.2.2.2.2
  go_upto_region 12 with (go_at_call 24; refine (HL.out).mono ?_; rintro e w7 ⟨rfl, hw⟩; rw [hw]; clear hw w7)
  clear b0 HL
  have Xd : Hid (Below w.heap.size w w6 ∧ BlkAt w6 bb gb rb db (nmN s) (.slice none 0 0)) := ⟨X6.out.2.1, X6.out.2.2.1⟩
  have p0 : w6.cell? ⟨bb, 0, none⟩ = some (.pointer (some ⟨gb, 0, none⟩)) := cellOf Xd.out.2 0 (.pointer (some ⟨gb, 0, none⟩)) rfl
  have HG : Hid (w6.heap[gb]? = some (.cells (regC (newK 2 (offN false) 1 (cntL 4)) (.slice (some ⟨qb, 0, none⟩) 1 1) (.slice sa 8 sc)) 81 (0, 0))) := X6.out.2.2.2.1.1
  have p1 : w6.cell? ⟨gb, 1, none⟩ = some (.int .u64 5100274176) := cellOf HG.out 1 _ rfl
  have p2 : w6.cell? ⟨gb, 6, none⟩ = some (.slice (some ⟨qb, 0, none⟩) 1 1) := cellOf HG.out 6 _ rfl
  have p3 : w6.cell? ⟨gb, 0, none⟩ = some (.int .u32 2) := cellOf HG.out 0 _ rfl
  clear HG X6
  have HE := same_disk db w6
  go_wp2_with (go_at_call 25; refine (bdisk_any Xd.out.2).mono ?_; rintro e w9 ⟨rfl, hw⟩; rw [hw]; clear hw w9)
  go_ret
  exact ⟨rfl, Xd.out.1⟩
set_option maxHeartbeats 4000000 in
theorem tells_true (w : World) (da : Option Addr) (dl dc ft : Nat) (s : ByteArray) (f : Nat → Nat) (z : Int) (hr : Reads .u8 w (.slice da dl dc) dl f) (hf : ∀ i, f i ≤ 255) (hft : ft < 18446744073709551616) (hs : s.size < 9223372036854775808) : Calls Try.prog 5 #[.agg #[.bool true, .slice da dl dc, .int .u64 (ft : Int), .string s], .int .u64 z] w fun e w' => e = .returned (.bool true) ∧ Below w.heap.size w w' := by
  have HR : Hid (Reads .u8 w (.slice da dl dc) dl f ∧ (∀ i, f i ≤ 255) ∧ ft < 18446744073709551616 ∧ s.size < 9223372036854775808) := ⟨hr, hf, hft, hs⟩
  have X0 : Hid ((w.alloc (.cells #[.bool true, .slice da dl dc, .int .u64 (ft : Int), .string s] 25)).heap[w.heap.size]? = some (.cells #[.bool true, .slice da dl dc, .int .u64 (ft : Int), .string s] 25 (0, 0)) ∧ Below w.heap.size w (w.alloc (.cells #[.bool true, .slice da dl dc, .int .u64 (ft : Int), .string s] 25))) := ⟨heap_alloc_new w _, (Below.refl _ _).alloc (Nat.le_refl _) _⟩
  clear hr hf hft hs
  go_enter Try.func5, Try.ntmps5
  go_upto_region 1 with fail
  show Code.wp _ _ _ _ (w.alloc (.cells #[.bool true, .slice da dl dc, .int .u64 (ft : Int), .string s] 25))
  generalize w.alloc (.cells #[.bool true, .slice da dl dc, .int .u64 (ft : Int), .string s] 25) = w0 at *
  go_upto_region 3 with (go_at_call 9; refine (awake_any19 _).mono ?_; rintro e w1 ⟨rfl, hb⟩; have X1 : Hid (w1.heap[w.heap.size]? = some (.cells #[.bool true, .slice da dl dc, .int .u64 (ft : Int), .string s] 25 (0, 0)) ∧ Below w.heap.size w w1) := ⟨below_box X0.out.1 hb, below_to X0.out.2 hb⟩; clear hb X0)
  go_upto_region 4 with (go_at_call 10; refine (memory_any (.slice none 0 0) 0 (fun _ => ⟨0, none, 0, 0, fun _ => 0⟩) _ (.inl ⟨rfl, _, _, rfl⟩)).mono ?_; rintro e w2 ⟨pv, a, n, c, rfl, hb, hor⟩)
  have hb3 : Below w2.heap.size w2 (w2.alloc (.cells #[.int .u64 8192, .slice a n c] 32)) := (Below.refl _ _).alloc (Nat.le_refl _) _
  have X3 : Hid ((w2.alloc (.cells #[.int .u64 8192, .slice a n c] 32)).heap[w.heap.size]? = some (.cells #[.bool true, .slice da dl dc, .int .u64 (ft : Int), .string s] 25 (0, 0)) ∧ Below w.heap.size w (w2.alloc (.cells #[.int .u64 8192, .slice a n c] 32))) := ⟨below_box (below_box X1.out.1 hb) hb3, below_to (below_to X1.out.2 hb) hb3⟩
  obtain ⟨rb, rfl⟩ : ∃ rb, pv = .pointer (some ⟨rb, 0, none⟩) := by
    rcases hor with ⟨_, h⟩ | ⟨rb, _, _, h, _⟩
    · omega
    · exact ⟨rb, h⟩
  clear hor hb hb3 X1
  generalize w2.alloc (.cells #[.int .u64 8192, .slice a n c] 32) = w3 at *
  refine wp_region_list ?_
  refine wpList_load_row rfl 25 _ rfl w.heap.size rfl 25 _ (0, 0) _ X3.out.1 Try.underlying25 rfl (by kernel_rfl) ?_
  refine wpList_step (fun KK hKK => ?_)
  go_simp
  refine (D.disk_any true da dl dc ft s f _ (reads_below HR.out.1 X3.out.2) HR.out.2.1 HR.out.2.2.1 HR.out.2.2.2).mono ?_
  rintro e w4 ⟨pv, K2, g, N, rfl, hb, hor⟩
  refine hKK _ _ ?_
  clear hKK KK
  iterate 3 (refine wpList_step (fun KK hKK => ?_); go_simp; refine hKK _ _ ?_; clear hKK KK)
  refine D.wpList_alloc_zero 37 D.zeroC 5 D.zinfo28 rfl rfl ?_
  (refine wpList_step (fun KK hKK => ?_); go_simp; refine hKK _ _ ?_; clear hKK KK)
  refine D.wpList_store28 rfl _ _ rfl w4.heap.size K2 g N D.zeroC rfl rfl (D.Box.new 37 w4 _) rfl (fun W hW hU => ?_)
  have hb5 : Below w4.heap.size w4 (w4.alloc (.cells D.zeroC 37)) := (Below.refl _ _).alloc (Nat.le_refl _) _
  have hb6 : Below w4.heap.size w4 W := hb5.trans (hU.below (Nat.le_refl _) hb5.size)
  have X4 : Hid (W.heap[w.heap.size]? = some (.cells #[.bool true, .slice da dl dc, .int .u64 (ft : Int), .string s] 25 (0, 0)) ∧ Below w.heap.size w W ∧ (pv = .pointer none ∨ ∃ db bm K, pv = .pointer (some ⟨db, 0, none⟩) ∧ D.DiskAt W db bm K ∧ K.count = 4 ∧ K.locked = true)) := ⟨below_box (below_box X3.out.1 hb) hb6, below_to (below_to X3.out.2 hb) hb6, hor.imp (fun h => h.1) (fun ⟨_, _, db, bm, K, h1, h2, _, _, h3, h4, _⟩ => ⟨db, bm, K, h1, h2.step hb6, h3, h4⟩)⟩
  clear hW hU hb hb5 hb6 hor X3
  rcases X4.out.2.2 with rfl | ⟨db, bm, K, rfl, hd, hc4, hlk⟩
  · go_wp2_with fail
    go_ret
    exact ⟨rfl, X4.out.2.1⟩
  have X5 : Hid (W.heap[w.heap.size]? = some (.cells #[.bool true, .slice da dl dc, .int .u64 (ft : Int), .string s] 25 (0, 0)) ∧ Below w.heap.size w W ∧ D.DiskAt W db bm K ∧ K.count = 4 ∧ K.locked = true) := ⟨X4.out.1, X4.out.2.1, hd, hc4, hlk⟩
  clear hd hc4 hlk X4
  have c3 := cellOf X5.out.1 3 (.string s) rfl
  go_upto_region 8 with (go_at_call 13; refine (bnew_any X5.out.2.2.1 s).mono ?_; rintro e w6 ⟨bb, gb, qb, sv, rfl, hbk, hrg, hsp, _, hb⟩)
  rw [X5.out.2.2.2.1] at hrg hsp
  rw [X5.out.2.2.2.2] at hrg
  obtain ⟨sa, sc, rfl, hsc, hsp⟩ := hsp
  have X6 : Hid (w6.heap[w.heap.size]? = some (.cells #[.bool true, .slice da dl dc, .int .u64 (ft : Int), .string s] 25 (0, 0)) ∧ Below w.heap.size w w6 ∧ BlkAt w6 bb gb rb db (nmN s) (.slice none 0 0) ∧ Rgs w6 gb qb (newK 2 (offN true) 1 (cntL 4)) (.slice sa 8 sc) ∧ SpIn w6 sa 8 sc (cntL 4)) := by
    refine ⟨below_box X5.out.1 hb, below_to X5.out.2.1 hb, hbk, hrg, rfl, by decide, hsc, by decide, ?_⟩
    rcases hsp with ⟨_, h⟩ | ⟨g, rfl, _, _, hc⟩
    · exact absurd h (by decide)
    · exact .inr ⟨g, 0, rfl, hc⟩
  clear hbk hrg hsc hsp hb c3 X5
  have c0 := cellOf X6.out.1 0 (.bool true) rfl
  go_upto_region 11 with fail
  clear c0
  have b0 := cellOf X6.out.2.2.1 0 (.pointer (some ⟨gb, 0, none⟩)) rfl
  have HL : Hid (Calls Try.prog 24 #[.pointer (some ⟨gb, 0, none⟩), .int .u64 256, .int .i64 8] w6 fun e w' => e = .returned (.tuple #[.int .u64 4, .bool true]) ∧ w' = w6) := load_256 X6.out.2.2.2.1 X6.out.2.2.2.2
  go_upto_region 12 with (go_at_call 24; refine (HL.out).mono ?_; rintro e w7 ⟨rfl, hw⟩; rw [hw]; clear hw w7)
  clear b0 HL
  have Xd : Hid (Below w.heap.size w w6 ∧ BlkAt w6 bb gb rb db (nmN s) (.slice none 0 0)) := ⟨X6.out.2.1, X6.out.2.2.1⟩
  have p0 : w6.cell? ⟨bb, 0, none⟩ = some (.pointer (some ⟨gb, 0, none⟩)) := cellOf Xd.out.2 0 (.pointer (some ⟨gb, 0, none⟩)) rfl
  have HG : Hid (w6.heap[gb]? = some (.cells (regC (newK 2 (offN true) 1 (cntL 4)) (.slice (some ⟨qb, 0, none⟩) 1 1) (.slice sa 8 sc)) 81 (0, 0))) := X6.out.2.2.2.1.1
  have p1 : w6.cell? ⟨gb, 1, none⟩ = some (.int .u64 5100274208) := cellOf HG.out 1 _ rfl
  have p2 : w6.cell? ⟨gb, 6, none⟩ = some (.slice (some ⟨qb, 0, none⟩) 1 1) := cellOf HG.out 6 _ rfl
  have p3 : w6.cell? ⟨gb, 0, none⟩ = some (.int .u32 2) := cellOf HG.out 0 _ rfl
  clear HG X6
  have HE := same_disk db w6
  go_wp2_with (go_at_call 25; refine (bdisk_any Xd.out.2).mono ?_; rintro e w9 ⟨rfl, hw⟩; rw [hw]; clear hw w9)
  go_ret
  exact ⟨rfl, Xd.out.1⟩
theorem tells_walk (w : World) {v : Value} {lk : Bool} {dl ft : Nat} {s : ByteArray} (h : StartIn w v lk dl ft s) (z : Int) (hz : (Lit.int .u64 z).wf = true) : Calls Try.prog 5 #[v, .int .u64 z] w fun e w' => e = .returned (.bool true) ∧ Below w.heap.size w w' := by
  obtain ⟨da, dc, f, rfl, hr, hf, hft, hs⟩ := h
  cases lk with
  | false => exact tells_false w da dl dc ft s f z hr hf hft hs
  | true => exact tells_true w da dl dc ft s f z hr hf hft hs
end Go.Proofs.Ytlkhjekakbckmaa
