/- Layer 19: what a request writes another one reads: the walk. -/
import Derived.Test.YtlkhjekakbckmaaQBo
namespace Go.Proofs.Ytlkhjekakbckmaa
open Go.RowKit Go.Maps
set_option linter.unusedVariables false
set_option linter.unusedSimpArgs false
set_option maxRecDepth 100000
theorem isRow_readsF {w : World} {a : Option Addr} {len cap : Nat} {zs : List Int} (h : IsRow .u8 w a len cap zs) : ∃ f, (∀ i, f i ≤ 255) ∧ Reads .u8 w (.slice a len cap) len f ∧ ReadsF (fun q => w.heap.size ≤ q) w (.slice a len cap) len f := by
  obtain ⟨f, hf, hr⟩ := isRow_reads h
  refine ⟨f, hf, hr, ?_⟩
  have hb : len ≤ cap ∧ cap ≤ 9223372036854775807 := by
    rcases h with ⟨_, rfl, rfl, _⟩ | ⟨x, _, h1, h2, _⟩
    · omega
    · unfold maxLen at h2; omega
  rcases hr with ⟨h0, _⟩ | ⟨b, off, cap', e, hc⟩
  · subst h0
    exact .inl ⟨rfl, _, _, by omega, rfl⟩
  · simp only [Value.slice.injEq, true_and] at e
    obtain ⟨rfl, rfl⟩ := e
    by_cases h0 : len = 0
    · subst h0
      exact .inl ⟨rfl, _, _, by omega, rfl⟩
    · have hlt : b < w.heap.size := block_lt_of_cell (hc 0 (by omega))
      exact .inr ⟨b, off, cap, rfl, by omega, hb.1, by omega, hc⟩
theorem readsF_to {w V : World} {F : Nat → Prop} {v : Value} {L : Nat} {f : Nat → Nat} (h : ReadsF (fun q => w.heap.size ≤ q) w v L f) (hb : Below w.heap.size w V) (hF : ∀ k, k < w.heap.size → ¬ F k) : ReadsF F V v L f := by
  rcases h with h | ⟨b, off, cap, rfl, hn, h1, h2, hc⟩
  · exact .inl h
  · have hn2 : ¬ w.heap.size ≤ b := hn
    exact .inr ⟨b, off, cap, rfl, hF b (by omega), h1, h2, fun i hi => (hb.cell (p := ⟨b, off + i, none⟩) (by simp; omega)).trans (hc i hi)⟩
theorem rd_back {w : World} {F : Nat → Prop} {rb n sec L : Nat} {f : Nat → Nat} {K : D.Dk} (h : RamAt w F rb 8192 n (.pointer none) (over (over (bM5 sec L 0 f) 2147487744 512 (fun i => (D.putK (D.askK K) sec 512 (fun i => (gatL (bM sec L f) outL 16 512).getD i 0)).M (sec * 512 + (0 + i)))) 2147487488 1 (fun _ => 0))) (hc : K.count = 4) (hf : K.fail = 0) (h4 : sec < 4) (hL : L ≤ 64) : Calls Try.prog 22 #[.pointer (some ⟨rb, 0, none⟩), .int .u64 2147487744, .int .u64 (L : Int)] w fun e w' => e = .returned (.tuple #[.slice (some ⟨w.heap.size, 0, none⟩) L L, .bool true]) ∧ Reads .u8 w' (.slice (some ⟨w.heap.size, 0, none⟩) L L) L f ∧ Below w.heap.size w w' := by
  have hin : inB ((2147487744 : Nat) : Int) (L : Int) 2147483648 ((8192 : Nat) : Int) = true := by simp [inB]; omega
  refine (read_in h (by decide) 2147487744 L (by decide) (by omega) hin).mono fun e w' ⟨h1, h2, h3⟩ => ⟨h1, ?_, h3⟩
  rw [rowK_congr .u8 _ f L (fun i hi => back_at f hc hf h4 hL _ i hi)] at h2
  exact reads_own h2
theorem use_end {w V V' : World} {F F' : Nat → Prop} {rb gb bb db bm kk n g cap : Nat} {m : Nat → Nat} {M : Nat → Nat} {K : D.Dk} {lv : Value} {rows : List Value} (ho : ∀ k, k < w.heap.size → Oth db bm bb F k) (hb : Below w.heap.size w V) (hl : ∀ k, k < w.heap.size → lv.ownBlock ≠ some k) (hv : Dv 8192 bb gb rb db bm m V' kk F' M K (.slice (some ⟨g, 0, none⟩) n cap) n rows) (h0 : Below 0 V V') (hk : ∀ k, k < V.heap.size → Oth db bm bb F k → lv.ownBlock ≠ some k → V'.heap[k]? = V.heap[k]?) (hold : ∀ k, F' k → F k ∨ V.heap.size ≤ k) (hg : lv.ownBlock = some g ∨ V.heap.size ≤ g) (hn : lv.ownBlock ≠ some g) : (Dv 8192 bb gb rb db bm m V' kk F' M K (.slice (some ⟨g, 0, none⟩) n cap) n rows ∧ (∀ k, k < w.heap.size → Oth db bm bb F' k) ∧ Below w.heap.size w V') ∧ w.heap.size ≤ g := by
  have hs := hb.size
  refine ⟨⟨hv, fun k hk2 => ⟨fun hf => (hold k hf).elim (ho k hk2).f (fun h => by omega), (ho k hk2).d, (ho k hk2).m, (ho k hk2).b⟩, below_base hb h0 hk (fun k hk2 => ⟨ho k hk2, hl k hk2⟩)⟩, ?_⟩
  rcases hg with h | h
  · exact absurd h hn
  · omega
set_option maxHeartbeats 4000000 in
theorem back_low (w : World) (da : Option Addr) (dl dc ft : Nat) (s : ByteArray) (f0 : Nat → Nat) (sec L : Nat) (a2 : Option Addr) (c2 : Nat) (f : Nat → Nat) (hr0 : Reads .u8 w (.slice da dl dc) dl f0) (hf0 : ∀ i, f0 i ≤ 255) (hs : s.size < 9223372036854775808) (hsec : sec < 18446744073709551616) (hL : L ≤ 64) (hr : Reads .u8 w (.slice a2 L c2) L f) (hrf : ReadsF (fun q => w.heap.size ≤ q) w (.slice a2 L c2) L f) (hf : ∀ i, f i ≤ 255) (h4 : sec < 4) : Calls Try.prog 4 #[.agg #[.bool false, .slice da dl dc, .int .u64 (ft : Int), .string s], .int .u64 (sec : Int), .slice a2 L c2] w fun e w' => e = .returned (.bool true) ∧ Below w.heap.size w w' := by
  have HR : Hid (Reads .u8 w (.slice da dl dc) dl f0 ∧ (∀ i, f0 i ≤ 255) ∧ s.size < 9223372036854775808) := ⟨hr0, hf0, hs⟩
  have HQ : Hid (Reads .u8 w (.slice a2 L c2) L f ∧ ReadsF (fun q => w.heap.size ≤ q) w (.slice a2 L c2) L f ∧ ∀ i, f i ≤ 255) := ⟨hr, hrf, hf⟩
  have HL : Hid (L ≤ 64 ∧ sec < 18446744073709551616) := ⟨hL, hsec⟩
  have H4 : Hid (sec < 4) := h4
  have d1 : decide ((64 : Int) < (L : Int)) = false := decide_eq_false (by omega)
  have d4 : decide ((sec : Int) < 4) = true := decide_eq_true (by omega)
  have e1 : IntKind.u64.wrap (L : Int) = (L : Int) := u64_id (by omega)
  have X0 : Hid ((w.alloc (.cells #[.bool false, .slice da dl dc, .int .u64 (ft : Int), .string s] 25)).heap[w.heap.size]? = some (.cells #[.bool false, .slice da dl dc, .int .u64 (ft : Int), .string s] 25 (0, 0)) ∧ Below w.heap.size w (w.alloc (.cells #[.bool false, .slice da dl dc, .int .u64 (ft : Int), .string s] 25))) := ⟨heap_alloc_new w _, (Below.refl _ _).alloc (Nat.le_refl _) _⟩
  clear hr0 hf0 hs hr hrf hf h4 hL hsec
  go_enter Try.func4, Try.ntmps4
  go_upto_region 1 with fail
  show Code.wp _ _ _ _ (w.alloc (.cells #[.bool false, .slice da dl dc, .int .u64 (ft : Int), .string s] 25))
  generalize w.alloc (.cells #[.bool false, .slice da dl dc, .int .u64 (ft : Int), .string s] 25) = w0 at *
  go_upto_region 3 with (go_at_call 9; refine (awake_any19 _).mono ?_; rintro e w1 ⟨rfl, hb⟩; have X1 : Hid (D.Box 25 w1 w.heap.size #[.bool false, .slice da dl dc, .int .u64 (ft : Int), .string s] ∧ Below w.heap.size w w1) := ⟨below_box X0.out.1 hb, below_to X0.out.2 hb⟩; clear hb X0)
  have c0 := X1.out.1.cell 0 (.bool false) rfl
  go_upto_region 5 with fail
  clear c0
  have c2 := X1.out.1.cell 2 (.int .u64 (ft : Int)) rfl
  have c3 := X1.out.1.frozen 2
  go_upto_region 6 with fail
  clear c2 c3
  have X2 : Hid ((w1.setCell ⟨w.heap.size, 2, none⟩ (.int .u64 0)).heap[w.heap.size]? = some (.cells #[.bool false, .slice da dl dc, .int .u64 0, .string s] 25 (0, 0)) ∧ Below w.heap.size w (w1.setCell ⟨w.heap.size, 2, none⟩ (.int .u64 0))) := ⟨X1.out.1.set 2 _, X1.out.2.trans (((D.Upon.refl _ _).set 2 _).below (Nat.le_refl _) X1.out.2.size)⟩
  clear X1
  generalize w1.setCell ⟨w.heap.size, 2, none⟩ (.int .u64 0) = w2 at *
  go_upto_region 7 with (go_at_call 19; refine (new_8192 _).mono ?_; rintro e w3 ⟨rb, F, rfl, hr3, hF, hb⟩; have X3 : Hid (w3.heap[w.heap.size]? = some (.cells #[.bool false, .slice da dl dc, .int .u64 0, .string s] 25 (0, 0)) ∧ Below w.heap.size w w3 ∧ RamAt w3 F rb 8192 0 (.pointer none) (fun _ => 0) ∧ (∀ k, F k → w.heap.size ≤ k)) := ⟨below_box X2.out.1 hb, below_to X2.out.2 hb, hr3, fun k hk => Nat.le_trans X2.out.2.size (hF k hk)⟩; clear hr3 hF hb X2)
  refine wp_region_list ?_
  refine wpList_load_row rfl 25 _ rfl w.heap.size rfl 25 _ (0, 0) _ X3.out.1 Try.underlying25 rfl (by kernel_rfl) ?_
  refine wpList_step (fun KK hKK => ?_)
  go_simp
  refine (D.disk_any false da dl dc 0 s f0 _ (reads_below HR.out.1 X3.out.2.1) HR.out.2.1 (by omega) HR.out.2.2).mono ?_
  rintro e w4 ⟨pv, K2, g0, N0, rfl, hb, hor⟩
  refine hKK _ _ ?_
  clear hKK KK
  iterate 3 (refine wpList_step (fun KK hKK => ?_); go_simp; refine hKK _ _ ?_; clear hKK KK)
  refine D.wpList_alloc_zero 37 D.zeroC 5 D.zinfo28 rfl rfl ?_
  (refine wpList_step (fun KK hKK => ?_); go_simp; refine hKK _ _ ?_; clear hKK KK)
  refine D.wpList_store28 rfl _ _ rfl w4.heap.size K2 g0 N0 D.zeroC rfl rfl (D.Box.new 37 w4 _) rfl (fun W hW hU => ?_)
  have hb5 : Below w4.heap.size w4 (w4.alloc (.cells D.zeroC 37)) := (Below.refl _ _).alloc (Nat.le_refl _) _
  have hb6 : Below w4.heap.size w4 W := hb5.trans (hU.below (Nat.le_refl _) hb5.size)
  have X4 : Hid (W.heap[w.heap.size]? = some (.cells #[.bool false, .slice da dl dc, .int .u64 0, .string s] 25 (0, 0)) ∧ Below w.heap.size w W ∧ RamAt W F rb 8192 0 (.pointer none) (fun _ => 0) ∧ (∀ k, F k → w.heap.size ≤ k ∧ k < w3.heap.size) ∧ w.heap.size ≤ w3.heap.size ∧ (pv = .pointer none ∨ ∃ db bm K, pv = .pointer (some ⟨db, 0, none⟩) ∧ D.DiskAt W db bm K ∧ w3.heap.size ≤ db ∧ w3.heap.size ≤ bm ∧ K.count = 4 ∧ K.locked = false ∧ K.fail = 0)) := ⟨below_box (below_box X3.out.1 hb) hb6, below_to (below_to X3.out.2.1 hb) hb6, (X3.out.2.2.1.below hb).below hb6, fun k hk => ⟨X3.out.2.2.2 k hk, X3.out.2.2.1.lt k hk⟩, X3.out.2.1.size, hor.imp (fun h => h.1) (fun ⟨_, _, db, bm, K, h1, h2, h5, h6, h3, h4, h7⟩ => ⟨db, bm, K, h1, h2.step hb6, h5, h6, h3, h4, h7⟩)⟩
  clear hW hU hb hb5 hb6 hor X3
  rcases X4.out.2.2.2.2.2 with rfl | ⟨db, bm, K, rfl, hd, hdb, hbm, hc4, hlk, hfl⟩
  · go_wp2_with fail
    go_ret
    exact ⟨rfl, X4.out.2.1⟩
  have X5 : Hid (W.heap[w.heap.size]? = some (.cells #[.bool false, .slice da dl dc, .int .u64 0, .string s] 25 (0, 0)) ∧ Below w.heap.size w W ∧ RamAt W F rb 8192 0 (.pointer none) (fun _ => 0) ∧ (∀ k, F k → w.heap.size ≤ k ∧ k < w3.heap.size) ∧ w.heap.size ≤ w3.heap.size ∧ D.DiskAt W db bm K ∧ w3.heap.size ≤ db ∧ w3.heap.size ≤ bm) := ⟨X4.out.1, X4.out.2.1, X4.out.2.2.1, X4.out.2.2.2.1, X4.out.2.2.2.2.1, hd, hdb, hbm⟩
  have HK : Hid (K.count = 4 ∧ K.locked = false ∧ K.fail = 0) := ⟨hc4, hlk, hfl⟩
  clear hd hdb hbm hc4 hlk hfl X4
  have c3 := cellOf X5.out.1 3 (.string s) rfl
  go_upto_region 11 with (go_at_call 13; refine (bnew_any X5.out.2.2.2.2.2.1 s).mono ?_; rintro e w6 ⟨bb, gb, qb, sv, rfl, hbk, _, _, hsz, hb⟩)
  have X7 : Hid (Dv 8192 bb gb rb db bm (nmN s) w6 0 F (fun _ => 0) K (.slice none 0 0) 0 [] ∧ (∀ k, k < w.heap.size → Oth db bm bb F k) ∧ Below w.heap.size w w6) := by
    obtain ⟨x0, x1, x2, x3, x4, x5, x6, x7⟩ := X5.out
    have l1 := x5.lt
    have l2 := hsz.1
    have l3 := x1.size
    exact ⟨⟨x2.below hb, x5.step hb, hbk, ⟨rfl, .inl ⟨rfl, rfl⟩⟩, fun h => by have := (x3 _ h).2; omega, fun h => by have := (x3 _ h).2; omega, fun h => by have := x2.lt _ h; omega, by omega, by omega, fun g hg => by cases hg⟩, fun k hk => ⟨fun h => by have := (x3 _ h).1; omega, by omega, by omega, by omega⟩, below_to x1 hb⟩
  clear hbk hsz hb c3 X5
  go_upto_region 12 with (go_at_call 20; refine (st_1 X7.out.1.ram).mono ?_; rintro e w8 ⟨rfl, F8, hr4, hs4⟩; have X8 : Hid (Dv 8192 bb gb rb db bm (nmN s) w8 8 F8 (over (fun _ => 0) 2147483648 1 (byteAt 1)) K (.slice none 0 0) 0 [] ∧ (∀ k, k < w.heap.size → Oth db bm bb F8 k) ∧ Below w.heap.size w w8) := ⟨X7.out.1.step hr4 hs4, fun k hk => (Fr.step hs4).oth (Nat.lt_of_lt_of_le hk X7.out.2.2.size) (X7.out.2.1 k hk), below_base X7.out.2.2 (Fr.step (db := db) (bm := bm) (bb := bb) hs4).bel (fun k hk ho _ => (Fr.step hs4).blk k hk ho) (fun k hk => ⟨X7.out.2.1 k hk, by intro h; cases h⟩) (lv := .slice none 0 0)⟩; clear hr4 hs4 X7)
  go_upto_region 13 with (go_at_call 20; refine (st_2 X8.out.1.ram sec HL.out.2).mono ?_; rintro e w9 ⟨rfl, F9, hr4, hs4⟩; have X9 : Hid (Dv 8192 bb gb rb db bm (nmN s) w9 16 F9 (over (over (fun _ => 0) 2147483648 1 (byteAt 1)) 2147483656 8 (byteAt sec)) K (.slice none 0 0) 0 [] ∧ (∀ k, k < w.heap.size → Oth db bm bb F9 k) ∧ Below w.heap.size w w9) := ⟨X8.out.1.step hr4 hs4, fun k hk => (Fr.step hs4).oth (Nat.lt_of_lt_of_le hk X8.out.2.2.size) (X8.out.2.1 k hk), below_base X8.out.2.2 (Fr.step (db := db) (bm := bm) (bb := bb) hs4).bel (fun k hk ho _ => (Fr.step hs4).blk k hk ho) (fun k hk => ⟨X8.out.2.1 k hk, by intro h; cases h⟩) (lv := .slice none 0 0)⟩; clear hr4 hs4 X8)
  go_upto_region 14 with (go_at_call 21; refine (wr_bytes X9.out.1.ram L f _ HL.out.1 (readsF_to HQ.out.2.1 X9.out.2.2 (fun k hk => (X9.out.2.1 k hk).f)) HQ.out.2.2).mono ?_; rintro e w10 ⟨rfl, F10, hr4, hs4⟩; have X10 : Hid (Dv 8192 bb gb rb db bm (nmN s) w10 (16 + L) F10 (bM sec L f) K (.slice none 0 0) 0 [] ∧ (∀ k, k < w.heap.size → Oth db bm bb F10 k) ∧ Below w.heap.size w w10) := ⟨X9.out.1.step hr4 hs4, fun k hk => (Fr.step hs4).oth (Nat.lt_of_lt_of_le hk X9.out.2.2.size) (X9.out.2.1 k hk), below_base X9.out.2.2 (Fr.step (db := db) (bm := bm) (bb := bb) hs4).bel (fun k hk ho _ => (Fr.step hs4).blk k hk ho) (fun k hk => ⟨X9.out.2.1 k hk, by intro h; cases h⟩) (lv := .slice none 0 0)⟩; clear hr4 hs4 X9)
  have hb5 : Below w10.heap.size w10 (w10.alloc (.cells #[.int .u64 2147483648, .int .u64 16, .bool false, .int .u64 2147483904, .int .u64 512, .bool false, .int .u64 2147487488, .int .u64 1, .bool true] 62)) := (Below.refl _ _).alloc (Nat.le_refl _) _
  have X11 : Hid ((Dv 8192 bb gb rb db bm (nmN s) (w10.alloc (.cells #[.int .u64 2147483648, .int .u64 16, .bool false, .int .u64 2147483904, .int .u64 512, .bool false, .int .u64 2147487488, .int .u64 1, .bool true] 62)) (16 + L) F10 (bM sec L f) K (.slice none 0 0) 0 [] ∧ (∀ k, k < w.heap.size → Oth db bm bb F10 k) ∧ Below w.heap.size w (w10.alloc (.cells #[.int .u64 2147483648, .int .u64 16, .bool false, .int .u64 2147483904, .int .u64 512, .bool false, .int .u64 2147487488, .int .u64 1, .bool true] 62))) ∧ (w10.alloc (.cells #[.int .u64 2147483648, .int .u64 16, .bool false, .int .u64 2147483904, .int .u64 512, .bool false, .int .u64 2147487488, .int .u64 1, .bool true] 62)).heap[w10.heap.size]? = some (.cells #[.int .u64 2147483648, .int .u64 16, .bool false, .int .u64 2147483904, .int .u64 512, .bool false, .int .u64 2147487488, .int .u64 1, .bool true] 62 (0, 0)) ∧ Oth db bm bb F10 w10.heap.size) := ⟨⟨X10.out.1.below hb5, X10.out.2.1, below_to X10.out.2.2 hb5⟩, heap_alloc_new w10 _, ⟨fun h => by have := X10.out.1.ram.lt _ h; omega, by have := X10.out.1.disk.lt; omega, by have := X10.out.1.disk.lt; omega, by have := (Array.getElem?_eq_some_iff.1 X10.out.1.blk).1; omega⟩⟩
  clear hb5 X10
  go_upto_region 16 with (go_at_call 15; refine (use1_low X11.out.1.1 HL.out.1 HL.out.2 HK.out.1 HK.out.2.1 HK.out.2.2 H4.out X11.out.2.1 X11.out.2.2).mono ?_; rintro e w12 ⟨rfl, F12, g, cap, hv, h0, hk, hold, hg⟩; have X12 : Hid ((Dv 8192 bb gb rb db bm (nmN s) w12 (16 + L + 0 + 1) F12 (bM4 sec L 0 f) (D.putK (D.askK K) sec 512 (fun i => (gatL (bM sec L f) outL 16 512).getD i 0)) (.slice (some ⟨g, 0, none⟩) 1 cap) 1 ([] ++ [.int .u32 1, .int .u64 (sec : Int), .int .u8 0, .int .u32 1]) ∧ (∀ k, k < w.heap.size → Oth db bm bb F12 k) ∧ Below w.heap.size w w12) ∧ w.heap.size ≤ g) := use_end X11.out.1.2.1 X11.out.1.2.2 (fun k _ => by intro h; cases h) hv h0 hk hold hg (fun h => by cases h); clear hv h0 hk hold hg X11)
  have HE : Hid (Calls Try.prog 18 #[.pointer (some ⟨rb, 0, none⟩), .int .u64 2147487488, .int .i64 1] w12 fun e w' => e = .returned (.tuple #[.int .u64 0, .bool true]) ∧ Below w12.heap.size w12 w') := ld_end 0 X12.out.1.1.ram
  go_upto_region 17 with (go_at_call 18; refine (HE.out).mono ?_; rintro e w13 ⟨rfl, hb⟩; have X13 : Hid ((Dv 8192 bb gb rb db bm (nmN s) w13 (16 + L + 0 + 1) F12 (bM4 sec L 0 f) (D.putK (D.askK K) sec 512 (fun i => (gatL (bM sec L f) outL 16 512).getD i 0)) (.slice (some ⟨g, 0, none⟩) 1 cap) 1 ([] ++ [.int .u32 1, .int .u64 (sec : Int), .int .u8 0, .int .u32 1]) ∧ (∀ k, k < w.heap.size → Oth db bm bb F12 k) ∧ Below w.heap.size w w13) ∧ w.heap.size ≤ g) := ⟨⟨X12.out.1.1.below hb, X12.out.1.2.1, below_to X12.out.1.2.2 hb⟩, X12.out.2⟩; clear hb HE X12)
  go_upto_region 19 with fail
  have HG : Hid (w.heap.size ≤ g) := X13.out.2
  have X14 : Hid (Dv 8192 bb gb rb db bm (nmN s) w13 (16 + L + 0 + 1) F12 (bM4 sec L 0 f) (D.putK (D.askK K) sec 512 (fun i => (gatL (bM sec L f) outL 16 512).getD i 0)) (.slice (some ⟨g, 0, none⟩) 1 cap) 1 ([] ++ [.int .u32 1, .int .u64 (sec : Int), .int .u8 0, .int .u32 1]) ∧ (∀ k, k < w.heap.size → Oth db bm bb F12 k) ∧ Below w.heap.size w w13) := X13.out.1
  clear X13
  go_upto_region 20 with (go_at_call 20; refine (st_3 X14.out.1.ram (by have := HL.out.1; omega)).mono ?_; rintro e w15 ⟨rfl, F15, hr4, hs4⟩; have X15 : Hid (Dv 8192 bb gb rb db bm (nmN s) w15 (16 + L + 0 + 1 + 8) F15 (bM5 sec L 0 f) (D.putK (D.askK K) sec 512 (fun i => (gatL (bM sec L f) outL 16 512).getD i 0)) (.slice (some ⟨g, 0, none⟩) 1 cap) 1 ([] ++ [.int .u32 1, .int .u64 (sec : Int), .int .u8 0, .int .u32 1]) ∧ (∀ k, k < w.heap.size → Oth db bm bb F15 k) ∧ Below w.heap.size w w15) := ⟨X14.out.1.step hr4 hs4, fun k hk => (Fr.step hs4).oth (Nat.lt_of_lt_of_le hk X14.out.2.2.size) (X14.out.2.1 k hk), below_base X14.out.2.2 (Fr.step (db := db) (bm := bm) (bb := bb) hs4).bel (fun k hk ho _ => (Fr.step hs4).blk k hk ho) (fun k hk => ⟨X14.out.2.1 k hk, by intro h; cases h⟩) (lv := .slice none 0 0)⟩; clear hr4 hs4 X14)
  have hb5 : Below w15.heap.size w15 (w15.alloc (.cells #[.int .u64 2147483648, .int .u64 16, .bool false, .int .u64 2147487744, .int .u64 512, .bool true, .int .u64 2147487488, .int .u64 1, .bool true] 62)) := (Below.refl _ _).alloc (Nat.le_refl _) _
  have X16 : Hid ((Dv 8192 bb gb rb db bm (nmN s) (w15.alloc (.cells #[.int .u64 2147483648, .int .u64 16, .bool false, .int .u64 2147487744, .int .u64 512, .bool true, .int .u64 2147487488, .int .u64 1, .bool true] 62)) (16 + L + 0 + 1 + 8) F15 (bM5 sec L 0 f) (D.putK (D.askK K) sec 512 (fun i => (gatL (bM sec L f) outL 16 512).getD i 0)) (.slice (some ⟨g, 0, none⟩) 1 cap) 1 ([] ++ [.int .u32 1, .int .u64 (sec : Int), .int .u8 0, .int .u32 1]) ∧ (∀ k, k < w.heap.size → Oth db bm bb F15 k) ∧ Below w.heap.size w (w15.alloc (.cells #[.int .u64 2147483648, .int .u64 16, .bool false, .int .u64 2147487744, .int .u64 512, .bool true, .int .u64 2147487488, .int .u64 1, .bool true] 62))) ∧ (w15.alloc (.cells #[.int .u64 2147483648, .int .u64 16, .bool false, .int .u64 2147487744, .int .u64 512, .bool true, .int .u64 2147487488, .int .u64 1, .bool true] 62)).heap[w15.heap.size]? = some (.cells #[.int .u64 2147483648, .int .u64 16, .bool false, .int .u64 2147487744, .int .u64 512, .bool true, .int .u64 2147487488, .int .u64 1, .bool true] 62 (0, 0)) ∧ Oth db bm bb F15 w15.heap.size) := ⟨⟨X15.out.1.below hb5, X15.out.2.1, below_to X15.out.2.2 hb5⟩, heap_alloc_new w15 _, ⟨fun h => by have := X15.out.1.ram.lt _ h; omega, by have := X15.out.1.disk.lt; omega, by have := X15.out.1.disk.lt; omega, by have := (Array.getElem?_eq_some_iff.1 X15.out.1.blk).1; omega⟩⟩
  clear hb5 X15
  go_upto_region 22 with (go_at_call 15; refine (use2_low X16.out.1.1 HL.out.1 HL.out.2 HK.out.1 HK.out.2.1 HK.out.2.2 H4.out X16.out.2.1 X16.out.2.2).mono ?_; rintro e w17 ⟨rfl, F17, g2, cap2, hv, h0, hk, hold, _⟩; have X17 : Hid (RamAt w17 F17 rb 8192 (16 + L + 0 + 1 + 8 + 512 + 1) (.pointer none) (over (over (bM5 sec L 0 f) 2147487744 512 (fun i => (D.putK (D.askK K) sec 512 (fun i => (gatL (bM sec L f) outL 16 512).getD i 0)).M (sec * 512 + (0 + i)))) 2147487488 1 (fun _ => 0)) ∧ Below w.heap.size w w17) := ⟨hv.ram, below_base X16.out.1.2.2 h0 hk (fun k hk => ⟨X16.out.1.2.1 k hk, by intro h; simp only [Value.ownBlock, Option.some.injEq] at h; have := HG.out; omega⟩)⟩; clear hv h0 hk hold X16)
  go_upto_region 24 with fail
  have HD : Hid (Calls Try.prog 22 #[.pointer (some ⟨rb, 0, none⟩), .int .u64 2147487744, .int .u64 (L : Int)] w17 fun e w' => e = .returned (.tuple #[.slice (some ⟨w17.heap.size, 0, none⟩) L L, .bool true]) ∧ Reads .u8 w' (.slice (some ⟨w17.heap.size, 0, none⟩) L L) L f ∧ Below w17.heap.size w17 w') := rd_back X17.out.1 HK.out.1 HK.out.2.2 H4.out HL.out.1
  go_upto_region 25 with (go_at_call 22; refine (HD.out).mono ?_; rintro e w18 ⟨rfl, hr, hb⟩; have X18 : Hid (Reads .u8 w18 (.slice (some ⟨w17.heap.size, 0, none⟩) L L) L f ∧ Below w.heap.size w w18) := ⟨hr, below_to X17.out.2 hb⟩; clear hr hb HD X17)
  go_wp2_with (go_at_call 23; refine (bytes_same f L _ _ (by have := HL.out.1; omega) _ X18.out.1 (reads_below HQ.out.1 X18.out.2)).mono ?_; rintro e w19 ⟨rfl, q, rfl⟩)
  go_ret
  exact ⟨rfl, below_to X18.out.2 (D.below_drewN _ q)⟩
set_option maxHeartbeats 4000000 in
theorem back_high (w : World) (da : Option Addr) (dl dc ft : Nat) (s : ByteArray) (f0 : Nat → Nat) (sec L : Nat) (a2 : Option Addr) (c2 : Nat) (f : Nat → Nat) (hr0 : Reads .u8 w (.slice da dl dc) dl f0) (hf0 : ∀ i, f0 i ≤ 255) (hs : s.size < 9223372036854775808) (hsec : sec < 18446744073709551616) (hL : L ≤ 64) (hr : Reads .u8 w (.slice a2 L c2) L f) (hrf : ReadsF (fun q => w.heap.size ≤ q) w (.slice a2 L c2) L f) (hf : ∀ i, f i ≤ 255) (h4 : ¬ sec < 4) : Calls Try.prog 4 #[.agg #[.bool false, .slice da dl dc, .int .u64 (ft : Int), .string s], .int .u64 (sec : Int), .slice a2 L c2] w fun e w' => e = .returned (.bool true) ∧ Below w.heap.size w w' := by
  have HR : Hid (Reads .u8 w (.slice da dl dc) dl f0 ∧ (∀ i, f0 i ≤ 255) ∧ s.size < 9223372036854775808) := ⟨hr0, hf0, hs⟩
  have HQ : Hid (Reads .u8 w (.slice a2 L c2) L f ∧ ReadsF (fun q => w.heap.size ≤ q) w (.slice a2 L c2) L f ∧ ∀ i, f i ≤ 255) := ⟨hr, hrf, hf⟩
  have HL : Hid (L ≤ 64 ∧ sec < 18446744073709551616) := ⟨hL, hsec⟩
  have H4 : Hid (¬ sec < 4) := h4
  have d1 : decide ((64 : Int) < (L : Int)) = false := decide_eq_false (by omega)
  have d4 : decide ((sec : Int) < 4) = false := decide_eq_false (by omega)
  have e1 : IntKind.u64.wrap (L : Int) = (L : Int) := u64_id (by omega)
  have X0 : Hid ((w.alloc (.cells #[.bool false, .slice da dl dc, .int .u64 (ft : Int), .string s] 25)).heap[w.heap.size]? = some (.cells #[.bool false, .slice da dl dc, .int .u64 (ft : Int), .string s] 25 (0, 0)) ∧ Below w.heap.size w (w.alloc (.cells #[.bool false, .slice da dl dc, .int .u64 (ft : Int), .string s] 25))) := ⟨heap_alloc_new w _, (Below.refl _ _).alloc (Nat.le_refl _) _⟩
  clear hr0 hf0 hs hr hrf hf h4 hL hsec
  go_enter Try.func4, Try.ntmps4
  go_upto_region 1 with fail
  show Code.wp _ _ _ _ (w.alloc (.cells #[.bool false, .slice da dl dc, .int .u64 (ft : Int), .string s] 25))
  generalize w.alloc (.cells #[.bool false, .slice da dl dc, .int .u64 (ft : Int), .string s] 25) = w0 at *
  go_upto_region 3 with (go_at_call 9; refine (awake_any19 _).mono ?_; rintro e w1 ⟨rfl, hb⟩; have X1 : Hid (D.Box 25 w1 w.heap.size #[.bool false, .slice da dl dc, .int .u64 (ft : Int), .string s] ∧ Below w.heap.size w w1) := ⟨below_box X0.out.1 hb, below_to X0.out.2 hb⟩; clear hb X0)
  have c0 := X1.out.1.cell 0 (.bool false) rfl
  go_upto_region 5 with fail
  clear c0
  have c2 := X1.out.1.cell 2 (.int .u64 (ft : Int)) rfl
  have c3 := X1.out.1.frozen 2
  go_upto_region 6 with fail
  clear c2 c3
  have X2 : Hid ((w1.setCell ⟨w.heap.size, 2, none⟩ (.int .u64 0)).heap[w.heap.size]? = some (.cells #[.bool false, .slice da dl dc, .int .u64 0, .string s] 25 (0, 0)) ∧ Below w.heap.size w (w1.setCell ⟨w.heap.size, 2, none⟩ (.int .u64 0))) := ⟨X1.out.1.set 2 _, X1.out.2.trans (((D.Upon.refl _ _).set 2 _).below (Nat.le_refl _) X1.out.2.size)⟩
  clear X1
  generalize w1.setCell ⟨w.heap.size, 2, none⟩ (.int .u64 0) = w2 at *
  go_upto_region 7 with (go_at_call 19; refine (new_8192 _).mono ?_; rintro e w3 ⟨rb, F, rfl, hr3, hF, hb⟩; have X3 : Hid (w3.heap[w.heap.size]? = some (.cells #[.bool false, .slice da dl dc, .int .u64 0, .string s] 25 (0, 0)) ∧ Below w.heap.size w w3 ∧ RamAt w3 F rb 8192 0 (.pointer none) (fun _ => 0) ∧ (∀ k, F k → w.heap.size ≤ k)) := ⟨below_box X2.out.1 hb, below_to X2.out.2 hb, hr3, fun k hk => Nat.le_trans X2.out.2.size (hF k hk)⟩; clear hr3 hF hb X2)
  refine wp_region_list ?_
  refine wpList_load_row rfl 25 _ rfl w.heap.size rfl 25 _ (0, 0) _ X3.out.1 Try.underlying25 rfl (by kernel_rfl) ?_
  refine wpList_step (fun KK hKK => ?_)
  go_simp
  refine (D.disk_any false da dl dc 0 s f0 _ (reads_below HR.out.1 X3.out.2.1) HR.out.2.1 (by omega) HR.out.2.2).mono ?_
  rintro e w4 ⟨pv, K2, g0, N0, rfl, hb, hor⟩
  refine hKK _ _ ?_
  clear hKK KK
  iterate 3 (refine wpList_step (fun KK hKK => ?_); go_simp; refine hKK _ _ ?_; clear hKK KK)
  refine D.wpList_alloc_zero 37 D.zeroC 5 D.zinfo28 rfl rfl ?_
  (refine wpList_step (fun KK hKK => ?_); go_simp; refine hKK _ _ ?_; clear hKK KK)
  refine D.wpList_store28 rfl _ _ rfl w4.heap.size K2 g0 N0 D.zeroC rfl rfl (D.Box.new 37 w4 _) rfl (fun W hW hU => ?_)
  have hb5 : Below w4.heap.size w4 (w4.alloc (.cells D.zeroC 37)) := (Below.refl _ _).alloc (Nat.le_refl _) _
  have hb6 : Below w4.heap.size w4 W := hb5.trans (hU.below (Nat.le_refl _) hb5.size)
  have X4 : Hid (W.heap[w.heap.size]? = some (.cells #[.bool false, .slice da dl dc, .int .u64 0, .string s] 25 (0, 0)) ∧ Below w.heap.size w W ∧ RamAt W F rb 8192 0 (.pointer none) (fun _ => 0) ∧ (∀ k, F k → w.heap.size ≤ k ∧ k < w3.heap.size) ∧ w.heap.size ≤ w3.heap.size ∧ (pv = .pointer none ∨ ∃ db bm K, pv = .pointer (some ⟨db, 0, none⟩) ∧ D.DiskAt W db bm K ∧ w3.heap.size ≤ db ∧ w3.heap.size ≤ bm ∧ K.count = 4 ∧ K.locked = false ∧ K.fail = 0)) := ⟨below_box (below_box X3.out.1 hb) hb6, below_to (below_to X3.out.2.1 hb) hb6, (X3.out.2.2.1.below hb).below hb6, fun k hk => ⟨X3.out.2.2.2 k hk, X3.out.2.2.1.lt k hk⟩, X3.out.2.1.size, hor.imp (fun h => h.1) (fun ⟨_, _, db, bm, K, h1, h2, h5, h6, h3, h4, h7⟩ => ⟨db, bm, K, h1, h2.step hb6, h5, h6, h3, h4, h7⟩)⟩
  clear hW hU hb hb5 hb6 hor X3
  rcases X4.out.2.2.2.2.2 with rfl | ⟨db, bm, K, rfl, hd, hdb, hbm, hc4, hlk, hfl⟩
  · go_wp2_with fail
    go_ret
    exact ⟨rfl, X4.out.2.1⟩
  have X5 : Hid (W.heap[w.heap.size]? = some (.cells #[.bool false, .slice da dl dc, .int .u64 0, .string s] 25 (0, 0)) ∧ Below w.heap.size w W ∧ RamAt W F rb 8192 0 (.pointer none) (fun _ => 0) ∧ (∀ k, F k → w.heap.size ≤ k ∧ k < w3.heap.size) ∧ w.heap.size ≤ w3.heap.size ∧ D.DiskAt W db bm K ∧ w3.heap.size ≤ db ∧ w3.heap.size ≤ bm) := ⟨X4.out.1, X4.out.2.1, X4.out.2.2.1, X4.out.2.2.2.1, X4.out.2.2.2.2.1, hd, hdb, hbm⟩
  have HK : Hid (K.count = 4 ∧ K.locked = false ∧ K.fail = 0) := ⟨hc4, hlk, hfl⟩
  clear hd hdb hbm hc4 hlk hfl X4
  have c3 := cellOf X5.out.1 3 (.string s) rfl
  go_upto_region 11 with (go_at_call 13; refine (bnew_any X5.out.2.2.2.2.2.1 s).mono ?_; rintro e w6 ⟨bb, gb, qb, sv, rfl, hbk, _, _, hsz, hb⟩)
  have X7 : Hid (Dv 8192 bb gb rb db bm (nmN s) w6 0 F (fun _ => 0) K (.slice none 0 0) 0 [] ∧ (∀ k, k < w.heap.size → Oth db bm bb F k) ∧ Below w.heap.size w w6) := by
    obtain ⟨x0, x1, x2, x3, x4, x5, x6, x7⟩ := X5.out
    have l1 := x5.lt
    have l2 := hsz.1
    have l3 := x1.size
    exact ⟨⟨x2.below hb, x5.step hb, hbk, ⟨rfl, .inl ⟨rfl, rfl⟩⟩, fun h => by have := (x3 _ h).2; omega, fun h => by have := (x3 _ h).2; omega, fun h => by have := x2.lt _ h; omega, by omega, by omega, fun g hg => by cases hg⟩, fun k hk => ⟨fun h => by have := (x3 _ h).1; omega, by omega, by omega, by omega⟩, below_to x1 hb⟩
  clear hbk hsz hb c3 X5
  go_upto_region 12 with (go_at_call 20; refine (st_1 X7.out.1.ram).mono ?_; rintro e w8 ⟨rfl, F8, hr4, hs4⟩; have X8 : Hid (Dv 8192 bb gb rb db bm (nmN s) w8 8 F8 (over (fun _ => 0) 2147483648 1 (byteAt 1)) K (.slice none 0 0) 0 [] ∧ (∀ k, k < w.heap.size → Oth db bm bb F8 k) ∧ Below w.heap.size w w8) := ⟨X7.out.1.step hr4 hs4, fun k hk => (Fr.step hs4).oth (Nat.lt_of_lt_of_le hk X7.out.2.2.size) (X7.out.2.1 k hk), below_base X7.out.2.2 (Fr.step (db := db) (bm := bm) (bb := bb) hs4).bel (fun k hk ho _ => (Fr.step hs4).blk k hk ho) (fun k hk => ⟨X7.out.2.1 k hk, by intro h; cases h⟩) (lv := .slice none 0 0)⟩; clear hr4 hs4 X7)
  go_upto_region 13 with (go_at_call 20; refine (st_2 X8.out.1.ram sec HL.out.2).mono ?_; rintro e w9 ⟨rfl, F9, hr4, hs4⟩; have X9 : Hid (Dv 8192 bb gb rb db bm (nmN s) w9 16 F9 (over (over (fun _ => 0) 2147483648 1 (byteAt 1)) 2147483656 8 (byteAt sec)) K (.slice none 0 0) 0 [] ∧ (∀ k, k < w.heap.size → Oth db bm bb F9 k) ∧ Below w.heap.size w w9) := ⟨X8.out.1.step hr4 hs4, fun k hk => (Fr.step hs4).oth (Nat.lt_of_lt_of_le hk X8.out.2.2.size) (X8.out.2.1 k hk), below_base X8.out.2.2 (Fr.step (db := db) (bm := bm) (bb := bb) hs4).bel (fun k hk ho _ => (Fr.step hs4).blk k hk ho) (fun k hk => ⟨X8.out.2.1 k hk, by intro h; cases h⟩) (lv := .slice none 0 0)⟩; clear hr4 hs4 X8)
  go_upto_region 14 with (go_at_call 21; refine (wr_bytes X9.out.1.ram L f _ HL.out.1 (readsF_to HQ.out.2.1 X9.out.2.2 (fun k hk => (X9.out.2.1 k hk).f)) HQ.out.2.2).mono ?_; rintro e w10 ⟨rfl, F10, hr4, hs4⟩; have X10 : Hid (Dv 8192 bb gb rb db bm (nmN s) w10 (16 + L) F10 (bM sec L f) K (.slice none 0 0) 0 [] ∧ (∀ k, k < w.heap.size → Oth db bm bb F10 k) ∧ Below w.heap.size w w10) := ⟨X9.out.1.step hr4 hs4, fun k hk => (Fr.step hs4).oth (Nat.lt_of_lt_of_le hk X9.out.2.2.size) (X9.out.2.1 k hk), below_base X9.out.2.2 (Fr.step (db := db) (bm := bm) (bb := bb) hs4).bel (fun k hk ho _ => (Fr.step hs4).blk k hk ho) (fun k hk => ⟨X9.out.2.1 k hk, by intro h; cases h⟩) (lv := .slice none 0 0)⟩; clear hr4 hs4 X9)
  have hb5 : Below w10.heap.size w10 (w10.alloc (.cells #[.int .u64 2147483648, .int .u64 16, .bool false, .int .u64 2147483904, .int .u64 512, .bool false, .int .u64 2147487488, .int .u64 1, .bool true] 62)) := (Below.refl _ _).alloc (Nat.le_refl _) _
  have X11 : Hid ((Dv 8192 bb gb rb db bm (nmN s) (w10.alloc (.cells #[.int .u64 2147483648, .int .u64 16, .bool false, .int .u64 2147483904, .int .u64 512, .bool false, .int .u64 2147487488, .int .u64 1, .bool true] 62)) (16 + L) F10 (bM sec L f) K (.slice none 0 0) 0 [] ∧ (∀ k, k < w.heap.size → Oth db bm bb F10 k) ∧ Below w.heap.size w (w10.alloc (.cells #[.int .u64 2147483648, .int .u64 16, .bool false, .int .u64 2147483904, .int .u64 512, .bool false, .int .u64 2147487488, .int .u64 1, .bool true] 62))) ∧ (w10.alloc (.cells #[.int .u64 2147483648, .int .u64 16, .bool false, .int .u64 2147483904, .int .u64 512, .bool false, .int .u64 2147487488, .int .u64 1, .bool true] 62)).heap[w10.heap.size]? = some (.cells #[.int .u64 2147483648, .int .u64 16, .bool false, .int .u64 2147483904, .int .u64 512, .bool false, .int .u64 2147487488, .int .u64 1, .bool true] 62 (0, 0)) ∧ Oth db bm bb F10 w10.heap.size) := ⟨⟨X10.out.1.below hb5, X10.out.2.1, below_to X10.out.2.2 hb5⟩, heap_alloc_new w10 _, ⟨fun h => by have := X10.out.1.ram.lt _ h; omega, by have := X10.out.1.disk.lt; omega, by have := X10.out.1.disk.lt; omega, by have := (Array.getElem?_eq_some_iff.1 X10.out.1.blk).1; omega⟩⟩
  clear hb5 X10
  go_upto_region 16 with (go_at_call 15; refine (use1_high X11.out.1.1 HL.out.1 HL.out.2 HK.out.1 HK.out.2.1 HK.out.2.2 H4.out X11.out.2.1 X11.out.2.2).mono ?_; rintro e w12 ⟨rfl, F12, g, cap, hv, h0, hk, hold, hg⟩; have X12 : Hid ((Dv 8192 bb gb rb db bm (nmN s) w12 (16 + L + 0 + 1) F12 (bM4 sec L 1 f) (D.askK K) (.slice (some ⟨g, 0, none⟩) 1 cap) 1 ([] ++ [.int .u32 1, .int .u64 (sec : Int), .int .u8 1, .int .u32 1]) ∧ (∀ k, k < w.heap.size → Oth db bm bb F12 k) ∧ Below w.heap.size w w12) ∧ w.heap.size ≤ g) := use_end X11.out.1.2.1 X11.out.1.2.2 (fun k _ => by intro h; cases h) hv h0 hk hold hg (fun h => by cases h); clear hv h0 hk hold hg X11)
  have HE : Hid (Calls Try.prog 18 #[.pointer (some ⟨rb, 0, none⟩), .int .u64 2147487488, .int .i64 1] w12 fun e w' => e = .returned (.tuple #[.int .u64 1, .bool true]) ∧ Below w12.heap.size w12 w') := ld_end 1 X12.out.1.1.ram
  go_upto_region 17 with (go_at_call 18; refine (HE.out).mono ?_; rintro e w13 ⟨rfl, hb⟩; have X13 : Hid ((Dv 8192 bb gb rb db bm (nmN s) w13 (16 + L + 0 + 1) F12 (bM4 sec L 1 f) (D.askK K) (.slice (some ⟨g, 0, none⟩) 1 cap) 1 ([] ++ [.int .u32 1, .int .u64 (sec : Int), .int .u8 1, .int .u32 1]) ∧ (∀ k, k < w.heap.size → Oth db bm bb F12 k) ∧ Below w.heap.size w w13) ∧ w.heap.size ≤ g) := ⟨⟨X12.out.1.1.below hb, X12.out.1.2.1, below_to X12.out.1.2.2 hb⟩, X12.out.2⟩; clear hb HE X12)
  go_upto_region 19 with fail
  have HG : Hid (w.heap.size ≤ g) := X13.out.2
  have X14 : Hid (Dv 8192 bb gb rb db bm (nmN s) w13 (16 + L + 0 + 1) F12 (bM4 sec L 1 f) (D.askK K) (.slice (some ⟨g, 0, none⟩) 1 cap) 1 ([] ++ [.int .u32 1, .int .u64 (sec : Int), .int .u8 1, .int .u32 1]) ∧ (∀ k, k < w.heap.size → Oth db bm bb F12 k) ∧ Below w.heap.size w w13) := X13.out.1
  clear X13
  go_upto_region 20 with (go_at_call 20; refine (st_3 X14.out.1.ram (by have := HL.out.1; omega)).mono ?_; rintro e w15 ⟨rfl, F15, hr4, hs4⟩; have X15 : Hid (Dv 8192 bb gb rb db bm (nmN s) w15 (16 + L + 0 + 1 + 8) F15 (bM5 sec L 1 f) (D.askK K) (.slice (some ⟨g, 0, none⟩) 1 cap) 1 ([] ++ [.int .u32 1, .int .u64 (sec : Int), .int .u8 1, .int .u32 1]) ∧ (∀ k, k < w.heap.size → Oth db bm bb F15 k) ∧ Below w.heap.size w w15) := ⟨X14.out.1.step hr4 hs4, fun k hk => (Fr.step hs4).oth (Nat.lt_of_lt_of_le hk X14.out.2.2.size) (X14.out.2.1 k hk), below_base X14.out.2.2 (Fr.step (db := db) (bm := bm) (bb := bb) hs4).bel (fun k hk ho _ => (Fr.step hs4).blk k hk ho) (fun k hk => ⟨X14.out.2.1 k hk, by intro h; cases h⟩) (lv := .slice none 0 0)⟩; clear hr4 hs4 X14)
  have hb5 : Below w15.heap.size w15 (w15.alloc (.cells #[.int .u64 2147483648, .int .u64 16, .bool false, .int .u64 2147487744, .int .u64 512, .bool true, .int .u64 2147487488, .int .u64 1, .bool true] 62)) := (Below.refl _ _).alloc (Nat.le_refl _) _
  have X16 : Hid ((Dv 8192 bb gb rb db bm (nmN s) (w15.alloc (.cells #[.int .u64 2147483648, .int .u64 16, .bool false, .int .u64 2147487744, .int .u64 512, .bool true, .int .u64 2147487488, .int .u64 1, .bool true] 62)) (16 + L + 0 + 1 + 8) F15 (bM5 sec L 1 f) (D.askK K) (.slice (some ⟨g, 0, none⟩) 1 cap) 1 ([] ++ [.int .u32 1, .int .u64 (sec : Int), .int .u8 1, .int .u32 1]) ∧ (∀ k, k < w.heap.size → Oth db bm bb F15 k) ∧ Below w.heap.size w (w15.alloc (.cells #[.int .u64 2147483648, .int .u64 16, .bool false, .int .u64 2147487744, .int .u64 512, .bool true, .int .u64 2147487488, .int .u64 1, .bool true] 62))) ∧ (w15.alloc (.cells #[.int .u64 2147483648, .int .u64 16, .bool false, .int .u64 2147487744, .int .u64 512, .bool true, .int .u64 2147487488, .int .u64 1, .bool true] 62)).heap[w15.heap.size]? = some (.cells #[.int .u64 2147483648, .int .u64 16, .bool false, .int .u64 2147487744, .int .u64 512, .bool true, .int .u64 2147487488, .int .u64 1, .bool true] 62 (0, 0)) ∧ Oth db bm bb F15 w15.heap.size) := ⟨⟨X15.out.1.below hb5, X15.out.2.1, below_to X15.out.2.2 hb5⟩, heap_alloc_new w15 _, ⟨fun h => by have := X15.out.1.ram.lt _ h; omega, by have := X15.out.1.disk.lt; omega, by have := X15.out.1.disk.lt; omega, by have := (Array.getElem?_eq_some_iff.1 X15.out.1.blk).1; omega⟩⟩
  clear hb5 X15
  go_upto_region 22 with (go_at_call 15; refine (use2_high X16.out.1.1 HL.out.1 HL.out.2 HK.out.1 HK.out.2.1 HK.out.2.2 H4.out X16.out.2.1 X16.out.2.2).mono ?_; rintro e w17 ⟨rfl, F17, h0, hk, hold⟩; have X17 : Hid (Below w.heap.size w w17) := below_base X16.out.1.2.2 h0 hk (fun k hk => ⟨X16.out.1.2.1 k hk, by intro h; simp only [Value.ownBlock, Option.some.injEq] at h; have := HG.out; omega⟩); clear h0 hk hold X16)
  go_wp2_with fail
  go_ret
  exact ⟨rfl, X17.out⟩
theorem early_locked (w : World) (da : Option Addr) (dl dc ft : Nat) (s : ByteArray) (z : Int) (L : Nat) (a2 : Option Addr) (c2 : Nat) : Calls Try.prog 4 #[.agg #[.bool true, .slice da dl dc, .int .u64 (ft : Int), .string s], .int .u64 z, .slice a2 L c2] w fun e w' => e = .returned (.bool true) ∧ Below w.heap.size w w' := by
  have X0 : Hid ((w.alloc (.cells #[.bool true, .slice da dl dc, .int .u64 (ft : Int), .string s] 25)).heap[w.heap.size]? = some (.cells #[.bool true, .slice da dl dc, .int .u64 (ft : Int), .string s] 25 (0, 0)) ∧ Below w.heap.size w (w.alloc (.cells #[.bool true, .slice da dl dc, .int .u64 (ft : Int), .string s] 25))) := ⟨heap_alloc_new w _, (Below.refl _ _).alloc (Nat.le_refl _) _⟩
  go_enter Try.func4, Try.ntmps4
  go_upto_region 1 with fail
  show Code.wp _ _ _ _ (w.alloc (.cells #[.bool true, .slice da dl dc, .int .u64 (ft : Int), .string s] 25))
  generalize w.alloc (.cells #[.bool true, .slice da dl dc, .int .u64 (ft : Int), .string s] 25) = w0 at *
  go_upto_region 3 with (go_at_call 9; refine (awake_any19 _).mono ?_; rintro e w1 ⟨rfl, hb⟩; have X1 : Hid (D.Box 25 w1 w.heap.size #[.bool true, .slice da dl dc, .int .u64 (ft : Int), .string s] ∧ Below w.heap.size w w1) := ⟨below_box X0.out.1 hb, below_to X0.out.2 hb⟩; clear hb X0)
  have c0 := X1.out.1.cell 0 (.bool true) rfl
  go_wp2_with fail
  go_ret
  exact ⟨rfl, X1.out.2⟩
theorem early_long (w : World) (da : Option Addr) (dl dc ft : Nat) (s : ByteArray) (z : Int) (L : Nat) (a2 : Option Addr) (c2 : Nat) (hL : 64 < L) : Calls Try.prog 4 #[.agg #[.bool false, .slice da dl dc, .int .u64 (ft : Int), .string s], .int .u64 z, .slice a2 L c2] w fun e w' => e = .returned (.bool true) ∧ Below w.heap.size w w' := by
  have d1 : decide ((64 : Int) < (L : Int)) = true := decide_eq_true (by omega)
  clear hL
  have X0 : Hid ((w.alloc (.cells #[.bool false, .slice da dl dc, .int .u64 (ft : Int), .string s] 25)).heap[w.heap.size]? = some (.cells #[.bool false, .slice da dl dc, .int .u64 (ft : Int), .string s] 25 (0, 0)) ∧ Below w.heap.size w (w.alloc (.cells #[.bool false, .slice da dl dc, .int .u64 (ft : Int), .string s] 25))) := ⟨heap_alloc_new w _, (Below.refl _ _).alloc (Nat.le_refl _) _⟩
  go_enter Try.func4, Try.ntmps4
  go_upto_region 1 with fail
  show Code.wp _ _ _ _ (w.alloc (.cells #[.bool false, .slice da dl dc, .int .u64 (ft : Int), .string s] 25))
  generalize w.alloc (.cells #[.bool false, .slice da dl dc, .int .u64 (ft : Int), .string s] 25) = w0 at *
  go_upto_region 3 with (go_at_call 9; refine (awake_any19 _).mono ?_; rintro e w1 ⟨rfl, hb⟩; have X1 : Hid (D.Box 25 w1 w.heap.size #[.bool false, .slice da dl dc, .int .u64 (ft : Int), .string s] ∧ Below w.heap.size w w1) := ⟨below_box X0.out.1 hb, below_to X0.out.2 hb⟩; clear hb X0)
  have c0 := X1.out.1.cell 0 (.bool false) rfl
  go_wp2_with fail
  go_ret
  exact ⟨rfl, X1.out.2⟩
theorem back_walk (w : World) {v : Value} {lk : Bool} {dl ft : Nat} {s : ByteArray} (h : StartIn w v lk dl ft s) (z : Int) (hz : (Lit.int .u64 z).wf = true) (a : Option Addr) (L cap : Nat) (zs : List Int) (hr : IsRow .u8 w a L cap zs) : Calls Try.prog 4 #[v, .int .u64 z, .slice a L cap] w fun e w' => e = .returned (.bool true) ∧ Below w.heap.size w w' := by
  obtain ⟨da, dc, f0, rfl, hr0, hf0, hft, hs⟩ := h
  obtain ⟨f, hf, hr1, hr2⟩ := isRow_readsF hr
  have hz := bounds_u64 hz
  obtain ⟨sec, rfl⟩ : ∃ n : Nat, z = n := ⟨z.toNat, by omega⟩
  cases lk with
  | true => exact early_locked w da dl dc ft s _ L a cap
  | false =>
    by_cases hL : L ≤ 64
    · by_cases h4 : sec < 4
      · exact back_low w da dl dc ft s f0 sec L a cap f hr0 hf0 hs (by omega) hL hr1 hr2 hf h4
      · exact back_high w da dl dc ft s f0 sec L a cap f hr0 hf0 hs (by omega) hL hr1 hr2 hf h4
    · exact early_long w da dl dc ft s _ L a cap (by omega)
end Go.Proofs.Ytlkhjekakbckmaa
