/- Texts put together. -/
import Derived.Test.YtmjdnocilbnoaaaGreatYe
import Derived.Test.YtmjdnocilbnoaaaGreatYf
import Derived.Deep.RegionHeld3
import Derived.Test.YtmjdnocilbnoaaaGreatYg
import Derived.Test.YtmjdnocilbnoaaaGreatYd
import Derived.Defers
import Derived.Recover
import Derived.Test.YtmjdnocilbnoaaaGreatYb
import Derived.Laws.StructEq
/- The statements' device: fill. -/
namespace Go.Proofs.YtmjdnocilbnoaaaGreat
open Go.RowKit Go.Maps
set_option linter.unusedVariables false
set_option linter.unusedSimpArgs false
set_option maxRecDepth 100000
theorem wrap_u32_small (n : Nat) (h : n ≤ 4000) : IntKind.u32.wrap (n : Int) = (n : Int) := by
  simp only [IntKind.wrap, IntKind.signed, IntKind.bits]
  simp
  try omega
theorem room_all (l : List Seg) : roomB true l 0 (sizeN true l) = true := by simp [roomB]
set_option maxHeartbeats 2000000 in
theorem fill_any {w : World} {F : Nat → Prop} {rb κ : Nat} {M : Nat → Nat} (hr : RamAt w F rb 8192 κ (.pointer none) M) (hκ : κ ≤ 900000) {a : Option Addr} {L c : Nat} {l : List Seg} (h : SegIn 0 w (.slice a L c) l) (hl : l.length ≤ 1000) (hok : ∀ s ∈ l, SegOk s) (ta tl b : Nat) (hb : b ≤ 255) :
    Calls Tryz.prog 34 #[.pointer (some ⟨rb, 0, none⟩), .agg #[.slice a L c, .int .u64 (ta : Int), .int .u64 (tl : Int)], .int .u8 (b : Int)] w fun e w' => e = .returned (.int .u32 (cntN l : Int)) ∧ ∃ F', RamAt w' F' rb 8192 (κ + 4000) (.pointer none) (fillM b l M) ∧ Step F w F' w' := by
  obtain ⟨i0, hi, hz0, hz1, hz2⟩ := info_parts Tryz.info5
  have XB : Hid (Below w.heap.size w (w.alloc (.cells #[.slice a L c, .int .u64 (ta : Int), .int .u64 (tl : Int)] 59)) ∧ (w.alloc (.cells #[.slice a L c, .int .u64 (ta : Int), .int .u64 (tl : Int)] 59)).heap[w.heap.size]? = some (.cells #[.slice a L c, .int .u64 (ta : Int), .int .u64 (tl : Int)] 59 (0, 0))) := ⟨one_box _ _, heap_alloc_new _ _⟩
  have KS : Hid (∀ V, Below w.heap.size w V → Calls Tryz.prog 73 #[.agg #[.slice a L c, .int .u64 (ta : Int), .int .u64 (tl : Int)]] V fun e w' => e = .returned (.tuple #[.int .u64 (sizeN false l : Int), .int .u64 (sizeN true l : Int)]) ∧ Below V.heap.size V w') := fun V hV => psizes_any (h.kept (fun g hg => hV.block g (h.lt g hg).2)) hl hok ta tl
  have HR : Hid (RamAt w F rb 8192 κ (.pointer none) M ∧ SegIn 0 w (.slice a L c) l ∧ l.length ≤ 1000 ∧ (∀ s ∈ l, SegOk s) ∧ b ≤ 255 ∧ κ ≤ 900000) := ⟨hr, h, hl, hok, hb, hκ⟩
  obtain ⟨sz, hsz⟩ : ∃ sz, sizeN true l = sz := ⟨_, rfl⟩
  have HS : Hid (sizeN true l = sz) := hsz
  rw [hsz] at KS
  generalize sizeN false l = sz1 at KS
  by_cases hbig : 4000 < sz
  case pos =>
    have g1 : (4000 : Int) < (sz : Int) := by omega
    have HC : Hid (cntN l = 0 ∧ fillM b l M = M) := ⟨by unfold cntN; rw [hsz, if_pos hbig], by unfold fillM; rw [hsz, if_pos hbig]⟩
    clear hbig hsz hr hκ h hl hok hb
    go_enter Tryz.func34, Tryz.ntmps34
    go_upto_region 1 with fail
    generalize w.alloc (.cells #[.slice a L c, .int .u64 (ta : Int), .int .u64 (tl : Int)] 59) = v0 at *
    obtain ⟨p0, p1, p2⟩ := box3_facts XB.out.2
    go_wp2_with (go_at_call 73; refine (KS.out _ XB.out.1).mono ?_; rintro e w1 ⟨rfl, hb1⟩; have X1 : Hid (Below w.heap.size w w1) := below_to XB.out.1 hb1; clear hb1)
    go_ret
    refine ⟨by rw [HC.out.1]; rfl, F, ?_, Step.of_below X1.out⟩
    rw [HC.out.2]
    exact (HR.out.1.below X1.out).mono (by omega)
  have g1 : ¬ (4000 : Int) < (sz : Int) := by omega
  have hs4 : sz ≤ 4000 := by omega
  have e1 : IntKind.u32.wrap (sz : Int) = (sz : Int) := wrap_u32_small sz hs4
  have HC : Hid (cntN l = sz ∧ fillM b l M = layS (fun _ => b) (scaL l 0 sz) 0 M ∧ roomB true l 0 sz = true ∧ sz ≤ 4000) := ⟨by unfold cntN; rw [hsz, if_neg hbig], by unfold fillM; rw [hsz, if_neg hbig], by rw [← hsz]; exact room_all l, hs4⟩
  clear hbig hsz hr hκ h hl hok hb
  go_enter Tryz.func34, Tryz.ntmps34
  go_upto_region 1 with fail
  generalize w.alloc (.cells #[.slice a L c, .int .u64 (ta : Int), .int .u64 (tl : Int)] 59) = v0 at *
  obtain ⟨p0, p1, p2⟩ := box3_facts XB.out.2
  go_wp2_with (first | (go_at_call 73; refine (KS.out _ XB.out.1).mono ?_; rintro e w1 ⟨rfl, hb1⟩; have X1 : Hid (Below w.heap.size w w1 ∧ w1.heap[w.heap.size]? = some (.cells #[.slice a L c, .int .u64 (ta : Int), .int .u64 (tl : Int)] 59 (0, 0))) := ⟨below_to XB.out.1 hb1, below_box XB.out.2 hb1⟩; clear hb1 p0 p1 p2) | (at_make; refine wpList_make_full _ rfl _ _ 84 rfl (w.heap.size + 1) 5 i0 (.int .u8 0) 1 Tryz.underlying84 hi hz0 hz1 _ _ _ _ sz rfl rfl ?m1 ?m2 ?m3 ?m4 ?m5 ?_))
  case m1 => rfl
  case m2 => rfl
  case m3 => rw [hz2]; omega
  case m4 => unfold maxLen; omega
  case m5 => have := (Array.getElem?_eq_some_iff.1 X1.out.2).1; omega
  intro w2 hown0 hgrow0
  have hb02 : Below w.heap.size w w2 := Below.grown X1.out.1 hgrow0 X1.out.1.size (by simp)
  have hbox : w2.heap[w.heap.size]? = some (.cells #[.slice a L c, .int .u64 (ta : Int), .int .u64 (tl : Int)] 59 (0, 0)) := (hgrow0.block _ (Array.getElem?_eq_some_iff.1 X1.out.2).1 (by simp)).trans X1.out.2
  rw [toList_madeCells_one, rowK_zero] at hown0
  have hgl := hown0.lt w1.heap.size rfl
  generalize w1.heap.size = g at *
  have X2 : Hid (w2.ownsRow (w.heap.size + 1) 5 1 (.slice (some ⟨g, 0, none⟩) sz sz) sz (rowK .u8 (fun _ => 0) sz) ∧ Below w.heap.size w w2 ∧ w2.heap[w.heap.size]? = some (.cells #[.slice a L c, .int .u64 (ta : Int), .int .u64 (tl : Int)] 59 (0, 0))) := ⟨hown0, hb02, hbox⟩
  have HG : Hid (w.heap.size + 1 ≤ g) := hgl.1
  clear hown0 hgrow0 hb02 hbox hgl X1 XB KS
  go_wp2_with fail
  go_loopw [10] (fun i wr => ∃ k : Nat, k ≤ sz ∧ i = .int .i64 (k : Int) ∧ wr.ownsRow (w.heap.size + 1) 5 1 (.slice (some ⟨g, 0, none⟩) sz sz) sz (rowK .u8 (fun i => if i < k then b else 0) sz) ∧ Below w.heap.size w wr ∧ wr.heap[w.heap.size]? = some (.cells #[.slice a L c, .int .u64 (ta : Int), .int .u64 (tl : Int)] 59 (0, 0))) (fun i _ => sz - (intOf i).toNat)
  case atStart => exact ⟨0, by omega, rfl, by rw [← fill_zero (fun _ => b)]; exact X2.out.1, X2.out.2.1, X2.out.2.2⟩
  case round =>
    obtain ⟨k, hk, rfl, hown, hbw, hbox⟩ := hrel
    clear X2
    by_cases hlt : k < sz
    · have hkL : (k : Int) < (sz : Int) := by omega
      have hc3 : wr.cell? ⟨g, k, none⟩ = some (.int .u8 ((if k < k then b else 0 : Nat) : Nat)) := by rw [hown.cellAt k (by omega)]; exact rowK_get _ _ _ _ hlt
      have hf3 := hown.frozenAt k
      have Y : Hid (wr.ownsRow (w.heap.size + 1) 5 1 (.slice (some ⟨g, 0, none⟩) sz sz) sz (rowK .u8 (fun i => if i < k then b else 0) sz) ∧ Below w.heap.size w wr ∧ wr.heap[w.heap.size]? = some (.cells #[.slice a L c, .int .u64 (ta : Int), .int .u64 (tl : Int)] 59 (0, 0))) := ⟨hown, hbw, hbox⟩
      clear hown hbw hbox
      go_wp2_with fail
      go_roundw
      case rel =>
        have hown4 := Y.out.1.stored k (.int .u8 (b : Nat))
        rw [fill_step (fun _ => b)] at hown4
        exact ⟨k + 1, by omega, by go_num, hown4.1, Y.out.2.1.setCell (p := ⟨g, k, none⟩) (by have := HG.out; show w.heap.size ≤ g; omega) _, (heap_setCell _ _ _ _ _ (by have := HG.out; omega)).trans Y.out.2.2⟩
      case measure => simp [intOf]; omega
    · obtain rfl : k = sz := by omega
      rw [fill_done (fun _ => b)] at hown
      have KC : Hid (Calls Tryz.prog 74 #[.agg #[.slice a L c, .int .u64 (ta : Int), .int .u64 (tl : Int)], .pointer (some ⟨rb, 0, none⟩), .int .u64 0, .slice (some ⟨g, 0, none⟩) k k] wr fun e w' => e = .returned (.bool true) ∧ ∃ F', RamAt w' F' rb 8192 (κ + k) (.pointer none) (fillM b l M) ∧ Step F w F' w') := by
        have hrd : ReadsF F wr (.slice (some ⟨g, 0, none⟩) k k) k (fun _ => b) := reads_ownF hown (fun z hz => by have := HR.out.1.lt z hz; omega)
        have := scatter_any (HR.out.1.below hbw) HR.out.2.2.2.2.2 (HR.out.2.1.kept (fun g hg => hbw.block g (HR.out.2.1.lt g hg).2)) HR.out.2.2.1 HR.out.2.2.2.1 ta tl 0 k (by decide) HC.out.2.2.2 (fun _ => b) (fun _ => HR.out.2.2.2.2.1) _ _ hrd
        rw [HC.out.2.2.1, if_pos rfl, ← HC.out.2.1] at this
        refine this.mono ?_
        rintro e w' ⟨rfl, F', hr, hs⟩
        exact ⟨rfl, F', hr, (Step.of_below hbw).trans hs⟩
      obtain ⟨p0, p1, p2⟩ := box3_facts hbox
      clear hown hbw hbox
      go_wp2_with (go_at_call 74; refine (KC.out).mono ?_; rintro e w5 ⟨rfl, F5, hr5, hs5⟩; have X5 : Hid (RamAt w5 F5 rb 8192 (κ + k) (.pointer none) (fillM b l M) ∧ Step F w F5 w5) := ⟨hr5, hs5⟩; clear hr5 hs5)
      go_ret
      exact ⟨by rw [HC.out.1]; rfl, F5, X5.out.1.mono (by have := HC.out.2.2.2; omega), X5.out.2⟩
end Go.Proofs.YtmjdnocilbnoaaaGreat

/- The document's Fill. -/
namespace Go.Proofs.YtmjdnocilbnoaaaGreat
open Go.RowKit Go.Maps
set_option linter.unusedVariables false
set_option linter.unusedSimpArgs false
set_option maxRecDepth 100000
set_option maxHeartbeats 4000000 in
theorem dfill_any {F : Nat → Prop} {w : World} {va : Option Addr} {nn vc : Nat} {bs : Nat → Nat × Nat} {M : Nat → Nat} (href : RefIn F w (.slice va nn vc) nn bs) (hgt : ∀ q, rget bs nn q = M q) (hle : ∀ a, M a ≤ 255) (hnn : nn ≤ 900000) (hF : ∀ k, F k → k < w.heap.size) (hrg : Rng bs nn 8192) {a : Option Addr} {L c : Nat} {l : List Seg} (h : SegIn 0 w (.slice a L c) l) (hl : l.length ≤ 1000) (hok : ∀ s ∈ l, SegOk s) (ta tl b : Nat) (hb : b ≤ 255) :
    Calls Tryz.prog 35 #[.agg #[.int .u64 8192, .slice va nn vc], .agg #[.slice a L c, .int .u64 (ta : Int), .int .u64 (tl : Int)], .int .u8 (b : Int)] w fun r w' => ∃ a' n' c' bs', r = .returned (.tuple #[.agg #[.int .u64 8192, .slice a' n' c'], .int .u32 (cntN l : Int)]) ∧ n' ≤ nn + 4000 ∧ RefIn F w' (.slice a' n' c') n' bs' ∧ (∀ q, rget bs' n' q = fillM b l M q) ∧ Rng bs' n' 8192 ∧ Below w.heap.size w w' := by
  obtain ⟨i0, hi, hz0, hz1, hz2⟩ := info_parts Tryz.info5
  have h3 := three_in w (.cells #[.int .u64 8192, .slice va nn vc] 33) (.cells #[.slice a L c, .int .u64 (ta : Int), .int .u64 (tl : Int)] 64) (.cells #[.int .u64 0, .slice none 0 0] 33)
  have XB : Hid (Below w.heap.size w (((w.alloc (.cells #[.int .u64 8192, .slice va nn vc] 33)).alloc (.cells #[.slice a L c, .int .u64 (ta : Int), .int .u64 (tl : Int)] 64)).alloc (.cells #[.int .u64 0, .slice none 0 0] 33)) ∧ (((w.alloc (.cells #[.int .u64 8192, .slice va nn vc] 33)).alloc (.cells #[.slice a L c, .int .u64 (ta : Int), .int .u64 (tl : Int)] 64)).alloc (.cells #[.int .u64 0, .slice none 0 0] 33)).heap[w.heap.size]? = some (.cells #[.int .u64 8192, .slice va nn vc] 33 (0, 0)) ∧ (((w.alloc (.cells #[.int .u64 8192, .slice va nn vc] 33)).alloc (.cells #[.slice a L c, .int .u64 (ta : Int), .int .u64 (tl : Int)] 64)).alloc (.cells #[.int .u64 0, .slice none 0 0] 33)).heap[w.heap.size + 1]? = some (.cells #[.slice a L c, .int .u64 (ta : Int), .int .u64 (tl : Int)] 64 (0, 0)) ∧ (((w.alloc (.cells #[.int .u64 8192, .slice va nn vc] 33)).alloc (.cells #[.slice a L c, .int .u64 (ta : Int), .int .u64 (tl : Int)] 64)).alloc (.cells #[.int .u64 0, .slice none 0 0] 33)).heap[w.heap.size + 2]? = some (.cells #[.int .u64 0, .slice none 0 0] 33 (0, 0))) := ⟨h3.2.2.2, h3.1, h3.2.1, h3.2.2.1⟩
  have KS : Hid (∀ V, Below w.heap.size w V → Calls Tryz.prog 75 #[.agg #[.slice a L c, .int .u64 (ta : Int), .int .u64 (tl : Int)]] V fun e w' => e = .returned (.tuple #[.int .u64 (sizeN false l : Int), .int .u64 (sizeN true l : Int)]) ∧ Below V.heap.size V w') := fun V hV => dsizes_any (h.kept (fun g hg => hV.block g (h.lt g hg).2)) hl hok ta tl
  have HR : Hid (RefIn F w (.slice va nn vc) nn bs ∧ (∀ q, rget bs nn q = M q) ∧ (∀ k, F k → k < w.heap.size) ∧ Rng bs nn 8192 ∧ nn ≤ 900000) := ⟨href, hgt, hF, hrg, hnn⟩
  have HS : Hid (SegIn 0 w (.slice a L c) l ∧ l.length ≤ 1000 ∧ (∀ s ∈ l, SegOk s) ∧ b ≤ 255) := ⟨h, hl, hok, hb⟩
  obtain ⟨sz, hsz⟩ : ∃ sz, sizeN true l = sz := ⟨_, rfl⟩
  rw [hsz] at KS
  generalize sizeN false l = sz1 at KS
  by_cases hbig : 4000 < sz
  case pos =>
    have g1 : (4000 : Int) < (sz : Int) := by omega
    have HC : Hid (cntN l = 0 ∧ fillM b l M = M) := ⟨by unfold cntN; rw [hsz, if_pos hbig], by unfold fillM; rw [hsz, if_pos hbig]⟩
    rw [HC.out.1]
    clear hbig hsz href hgt hle hnn hF hrg h hl hok hb h3
    go_enter Tryz.func35, Tryz.ntmps35
    go_upto_region 1 with fail
    generalize ((w.alloc (.cells #[.int .u64 8192, .slice va nn vc] 33)).alloc (.cells #[.slice a L c, .int .u64 (ta : Int), .int .u64 (tl : Int)] 64)).alloc (.cells #[.int .u64 0, .slice none 0 0] 33) = v0 at *
    obtain ⟨p0, p1, p2⟩ := box3_facts XB.out.2.2.1
    go_upto_region 3 with (go_at_call 75; refine (KS.out _ XB.out.1).mono ?_; rintro e w1 ⟨rfl, hb1⟩; have X1 : Hid (Below w.heap.size w w1 ∧ w1.heap[w.heap.size]? = some (.cells #[.int .u64 8192, .slice va nn vc] 33 (0, 0)) ∧ w1.heap[w.heap.size + 1]? = some (.cells #[.slice a L c, .int .u64 (ta : Int), .int .u64 (tl : Int)] 64 (0, 0)) ∧ w1.heap[w.heap.size + 2]? = some (.cells #[.int .u64 0, .slice none 0 0] 33 (0, 0))) := ⟨below_to XB.out.1 hb1, below_box XB.out.2.1 hb1, below_box XB.out.2.2.1 hb1, below_box XB.out.2.2.2 hb1⟩; clear hb1 XB p0 p1 p2)
    obtain ⟨r0, r1, _, _⟩ := box_facts X1.out.2.1
    refine wp_region_list ?_
    (refine wpList_step (fun KK hKK => ?_); go_simp; refine hKK _ _ ?_; clear hKK KK)
    refine wpList_store_row rfl 33 _ _ rfl (w.heap.size + 2) #[.int .u64 8192, .slice va nn vc] rfl rfl 33 #[.int .u64 0, .slice none 0 0] X1.out.2.2.2 infoDR rfl (by simp [Value.oneCell']) ?_
    have X9 : Hid ((w1.setRow (w.heap.size + 2) #[.int .u64 8192, .slice va nn vc]).heap[w.heap.size + 2]? = some (.cells #[.int .u64 8192, .slice va nn vc] 33 (0, 0)) ∧ Below w.heap.size w (w1.setRow (w.heap.size + 2) #[.int .u64 8192, .slice va nn vc]) ∧ RefIn F (w1.setRow (w.heap.size + 2) #[.int .u64 8192, .slice va nn vc]) (.slice va nn vc) nn bs) := ⟨setRow_heap _ _ _ _ _ _ X1.out.2.2.2, below_setRow X1.out.1 (by omega) _, (HR.out.1.below X1.out.1).setRow (fun z hz h0 => ref_ne (HR.out.1.below X1.out.1) X1.out.2.2.2 _ rfl not_byte_slice hz h0)⟩
    clear X1 r0 r1
    generalize w1.setRow (w.heap.size + 2) #[.int .u64 8192, .slice va nn vc] = w9 at *
    obtain ⟨m0, m1, _, _⟩ := box_facts X9.out.1
    go_wp2_with fail
    refine bodyPost_ret (v := .tuple #[.agg #[.int .u64 8192, .slice va nn vc], .int .u32 ((0 : Nat) : Int)]) (by simp [results, Tryz.results35, go_sem, m0, m1]) rfl ?_
    exact ⟨va, nn, vc, bs, rfl, by omega, X9.out.2.2, fun q => by rw [HC.out.2]; exact HR.out.2.1 q, HR.out.2.2.2.1, X9.out.2.1⟩
  have g1 : ¬ (4000 : Int) < (sz : Int) := by omega
  have hs4 : sz ≤ 4000 := by omega
  have e1 : IntKind.u32.wrap (sz : Int) = (sz : Int) := wrap_u32_small sz hs4
  have HC : Hid (cntN l = sz ∧ fillM b l M = layS (fun _ => b) (scaL l 0 sz) 0 M ∧ roomB true l 0 sz = true ∧ sz ≤ 4000) := ⟨by unfold cntN; rw [hsz, if_neg hbig], by unfold fillM; rw [hsz, if_neg hbig], by rw [← hsz]; exact room_all l, hs4⟩
  rw [HC.out.1]
  clear hbig hsz href hgt hle hnn hF hrg h hl hok hb h3
  go_enter Tryz.func35, Tryz.ntmps35
  go_upto_region 1 with fail
  generalize ((w.alloc (.cells #[.int .u64 8192, .slice va nn vc] 33)).alloc (.cells #[.slice a L c, .int .u64 (ta : Int), .int .u64 (tl : Int)] 64)).alloc (.cells #[.int .u64 0, .slice none 0 0] 33) = v0 at *
  obtain ⟨p0, p1, p2⟩ := box3_facts XB.out.2.2.1
  go_wp2_with (first | (go_at_call 75; refine (KS.out _ XB.out.1).mono ?_; rintro e w1 ⟨rfl, hb1⟩; have X1 : Hid (Below w.heap.size w w1 ∧ w1.heap[w.heap.size]? = some (.cells #[.int .u64 8192, .slice va nn vc] 33 (0, 0)) ∧ w1.heap[w.heap.size + 1]? = some (.cells #[.slice a L c, .int .u64 (ta : Int), .int .u64 (tl : Int)] 64 (0, 0)) ∧ w1.heap[w.heap.size + 2]? = some (.cells #[.int .u64 0, .slice none 0 0] 33 (0, 0))) := ⟨below_to XB.out.1 hb1, below_box XB.out.2.1 hb1, below_box XB.out.2.2.1 hb1, below_box XB.out.2.2.2 hb1⟩; clear hb1 XB p0 p1 p2) | (at_make; refine wpList_make_full _ rfl _ _ 84 rfl (w.heap.size + 3) 5 i0 (.int .u8 0) 1 Tryz.underlying84 hi hz0 hz1 _ _ _ _ sz rfl rfl ?m1 ?m2 ?m3 ?m4 ?m5 ?_))
  case m1 => rfl
  case m2 => rfl
  case m3 => rw [hz2]; omega
  case m4 => unfold maxLen; omega
  case m5 => have := (Array.getElem?_eq_some_iff.1 X1.out.2.2.2).1; omega
  intro w2 hown0 hgrow0
  have hb02 : Below w.heap.size w w2 := Below.grown X1.out.1 hgrow0 X1.out.1.size (by simp)
  have hbox : ∀ {q : Nat} {o : Obj}, w1.heap[q]? = some o → w2.heap[q]? = some o := fun hq => (hgrow0.block _ (Array.getElem?_eq_some_iff.1 hq).1 (by simp)).trans hq
  rw [toList_madeCells_one, rowK_zero] at hown0
  have hgl := hown0.lt w1.heap.size rfl
  have X2 : Hid (w2.ownsRow (w.heap.size + 3) 5 1 (.slice (some ⟨w1.heap.size, 0, none⟩) sz sz) sz (rowK .u8 (fun _ => 0) sz) ∧ (Below w.heap.size w w2 ∧ w2.heap[w.heap.size]? = some (.cells #[.int .u64 8192, .slice va nn vc] 33 (0, 0)) ∧ w2.heap[w.heap.size + 1]? = some (.cells #[.slice a L c, .int .u64 (ta : Int), .int .u64 (tl : Int)] 64 (0, 0)) ∧ w2.heap[w.heap.size + 2]? = some (.cells #[.int .u64 0, .slice none 0 0] 33 (0, 0)))) := ⟨hown0, hb02, hbox X1.out.2.1, hbox X1.out.2.2.1, hbox X1.out.2.2.2⟩
  have HG : Hid (w.heap.size + 3 ≤ w1.heap.size) := hgl.1
  clear hown0 hgrow0 hb02 hbox hgl X1 KS
  generalize w1.heap.size = g at *
  go_wp2_with fail
  go_loopw [11] (fun i wr => ∃ k : Nat, k ≤ sz ∧ i = .int .i64 (k : Int) ∧ wr.ownsRow (w.heap.size + 3) 5 1 (.slice (some ⟨g, 0, none⟩) sz sz) sz (rowK .u8 (fun i => if i < k then b else 0) sz) ∧ (Below w.heap.size w wr ∧ wr.heap[w.heap.size]? = some (.cells #[.int .u64 8192, .slice va nn vc] 33 (0, 0)) ∧ wr.heap[w.heap.size + 1]? = some (.cells #[.slice a L c, .int .u64 (ta : Int), .int .u64 (tl : Int)] 64 (0, 0)) ∧ wr.heap[w.heap.size + 2]? = some (.cells #[.int .u64 0, .slice none 0 0] 33 (0, 0)))) (fun i _ => sz - (intOf i).toNat)
  case atStart => exact ⟨0, by omega, rfl, by rw [← fill_zero (fun _ => b)]; exact X2.out.1, X2.out.2⟩
  case round =>
    obtain ⟨k, hk, rfl, hown, hbx⟩ := hrel
    clear X2
    by_cases hlt : k < sz
    · have hkL : (k : Int) < (sz : Int) := by omega
      have hc3 : wr.cell? ⟨g, k, none⟩ = some (.int .u8 ((if k < k then b else 0 : Nat) : Nat)) := by rw [hown.cellAt k (by omega)]; exact rowK_get _ _ _ _ hlt
      have hf3 := hown.frozenAt k
      have Y : Hid (wr.ownsRow (w.heap.size + 3) 5 1 (.slice (some ⟨g, 0, none⟩) sz sz) sz (rowK .u8 (fun i => if i < k then b else 0) sz) ∧ (Below w.heap.size w wr ∧ wr.heap[w.heap.size]? = some (.cells #[.int .u64 8192, .slice va nn vc] 33 (0, 0)) ∧ wr.heap[w.heap.size + 1]? = some (.cells #[.slice a L c, .int .u64 (ta : Int), .int .u64 (tl : Int)] 64 (0, 0)) ∧ wr.heap[w.heap.size + 2]? = some (.cells #[.int .u64 0, .slice none 0 0] 33 (0, 0)))) := ⟨hown, hbx⟩
      clear hown hbx
      go_wp2_with fail
      go_roundw
      case rel =>
        have hown4 := Y.out.1.stored k (.int .u8 (b : Nat))
        rw [fill_step (fun _ => b)] at hown4
        have hG := HG.out
        exact ⟨k + 1, by omega, by go_num, hown4.1, Y.out.2.1.setCell (p := ⟨g, k, none⟩) (by show w.heap.size ≤ g; omega) _, (heap_setCell _ _ _ _ _ (by omega)).trans Y.out.2.2.1, (heap_setCell _ _ _ _ _ (by omega)).trans Y.out.2.2.2.1, (heap_setCell _ _ _ _ _ (by omega)).trans Y.out.2.2.2.2⟩
      case measure => simp [intOf]; omega
    · obtain rfl : k = sz := by omega
      rw [fill_done (fun _ => b)] at hown
      have KC : Hid (Calls Tryz.prog 76 #[.agg #[.int .u64 8192, .slice va nn vc], .agg #[.slice a L c, .int .u64 (ta : Int), .int .u64 (tl : Int)], .int .u64 0, .slice (some ⟨g, 0, none⟩) k k] wr fun e w' => ∃ xa xn xc xs, e = .returned (.tuple #[.agg #[.int .u64 8192, .slice xa xn xc], .bool true]) ∧ xn ≤ nn + 4000 ∧ RefIn F w' (.slice xa xn xc) xn xs ∧ (∀ q, rget xs xn q = fillM b l M q) ∧ Rng xs xn 8192 ∧ Below wr.heap.size wr w') := by
        have hrd : ReadsF F wr (.slice (some ⟨g, 0, none⟩) k k) k (fun _ => b) := reads_ownF hown (fun z hz => by have := HR.out.2.2.1 z hz; omega)
        have := dscatter_any (F := F) (fun z hz => Nat.lt_of_lt_of_le (HR.out.2.2.1 z hz) hbx.1.size) (HR.out.1.below hbx.1) HR.out.2.1 HR.out.2.2.2.1 HR.out.2.2.2.2 (HS.out.1.kept (fun g hg => hbx.1.block g (HS.out.1.lt g hg).2)) HS.out.2.1 HS.out.2.2.1 ta tl 0 k (by decide) HC.out.2.2.2 (fun _ => b) (fun _ => HS.out.2.2.2) _ _ hrd
        rw [HC.out.2.2.1, if_pos rfl, ← HC.out.2.1] at this
        refine this.mono ?_
        rintro e w' ⟨xa, xn, xc, xs, rfl, h1, h2, h3, h4, h5⟩
        exact ⟨xa, xn, xc, xs, rfl, by have := HC.out.2.2.2; omega, h2, h3, h4, h5⟩
      have X3 : Hid (Below w.heap.size w wr ∧ wr.heap[w.heap.size]? = some (.cells #[.int .u64 8192, .slice va nn vc] 33 (0, 0)) ∧ wr.heap[w.heap.size + 1]? = some (.cells #[.slice a L c, .int .u64 (ta : Int), .int .u64 (tl : Int)] 64 (0, 0)) ∧ wr.heap[w.heap.size + 2]? = some (.cells #[.int .u64 0, .slice none 0 0] 33 (0, 0))) := hbx
      obtain ⟨p0, p1, p2⟩ := box3_facts hbx.2.2.1
      obtain ⟨r0, r1, _, _⟩ := box_facts hbx.2.1
      clear hown hbx
      go_upto_region 9 with fail
      refine wp_region_list ?_
      (refine wpList_step (fun KK hKK => ?_); go_simp; refine hKK _ _ ?_; clear hKK KK)
      (refine wpList_step (fun KK hKK => ?_); go_simp; refine hKK _ _ ?_; clear hKK KK)
      (refine wpList_step (fun KK hKK => ?_); go_simp; refine hKK _ _ ?_; clear hKK KK)
      refine wpList_step (fun KK hKK => ?_)
      go_simp
      refine (KC.out).mono ?_
      rintro e w5 ⟨xa, xn, xc, xs, rfl, hxn, hrx, hgx, hrgx, hb5⟩
      have X5 : Hid ((Below w.heap.size w w5 ∧ w5.heap[w.heap.size]? = some (.cells #[.int .u64 8192, .slice va nn vc] 33 (0, 0)) ∧ w5.heap[w.heap.size + 1]? = some (.cells #[.slice a L c, .int .u64 (ta : Int), .int .u64 (tl : Int)] 64 (0, 0)) ∧ w5.heap[w.heap.size + 2]? = some (.cells #[.int .u64 0, .slice none 0 0] 33 (0, 0))) ∧ RefIn F w5 (.slice xa xn xc) xn xs) := ⟨⟨below_to X3.out.1 hb5, below_box X3.out.2.1 hb5, below_box X3.out.2.2.1 hb5, below_box X3.out.2.2.2 hb5⟩, hrx⟩
      have HX : Hid (xn ≤ nn + 4000 ∧ (∀ q, rget xs xn q = fillM b l M q) ∧ Rng xs xn 8192) := ⟨hxn, hgx, hrgx⟩
      clear hxn hrx hgx hrgx hb5 X3 p0 p1 p2 r0 r1
      refine hKK _ _ ?_
      clear hKK KK
      (refine wpList_step (fun KK hKK => ?_); go_simp; refine hKK _ _ ?_; clear hKK KK)
      (refine wpList_step (fun KK hKK => ?_); go_simp; refine hKK _ _ ?_; clear hKK KK)
      (refine wpList_step (fun KK hKK => ?_); go_simp; refine hKK _ _ ?_; clear hKK KK)
      refine wpList_store_row rfl 33 _ _ rfl (w.heap.size) #[.int .u64 8192, .slice xa xn xc] rfl rfl 33 #[.int .u64 8192, .slice va nn vc] X5.out.1.2.1 infoDR rfl (by simp [Value.oneCell']) ?_
      have X6 : Hid ((w5.setRow (w.heap.size) #[.int .u64 8192, .slice xa xn xc]).heap[w.heap.size]? = some (.cells #[.int .u64 8192, .slice xa xn xc] 33 (0, 0)) ∧ (w5.setRow (w.heap.size) #[.int .u64 8192, .slice xa xn xc]).heap[w.heap.size + 2]? = some (.cells #[.int .u64 0, .slice none 0 0] 33 (0, 0)) ∧ Below w.heap.size w (w5.setRow (w.heap.size) #[.int .u64 8192, .slice xa xn xc]) ∧ RefIn F (w5.setRow (w.heap.size) #[.int .u64 8192, .slice xa xn xc]) (.slice xa xn xc) xn xs) := ⟨setRow_heap _ _ _ _ _ _ X5.out.1.2.1, (setRow_other _ _ _ _ (by omega)).trans X5.out.1.2.2.2, below_setRow X5.out.1.1 (by omega) _, X5.out.2.setRow (fun z hz h0 => ref_ne X5.out.2 X5.out.1.2.1 _ rfl not_byte_slice hz h0)⟩
      clear X5
      generalize w5.setRow (w.heap.size) #[.int .u64 8192, .slice xa xn xc] = w6 at *
      obtain ⟨r0, r1, _, _⟩ := box_facts X6.out.1
      go_upto_region 10 with fail
      refine wp_region_list ?_
      (refine wpList_step (fun KK hKK => ?_); go_simp; refine hKK _ _ ?_; clear hKK KK)
      (refine wpList_step (fun KK hKK => ?_); go_simp; refine hKK _ _ ?_; clear hKK KK)
      (refine wpList_step (fun KK hKK => ?_); go_simp; refine hKK _ _ ?_; clear hKK KK)
      refine wpList_store_row rfl 33 _ _ rfl (w.heap.size + 2) #[.int .u64 8192, .slice xa xn xc] rfl rfl 33 #[.int .u64 0, .slice none 0 0] X6.out.2.1 infoDR rfl (by simp [Value.oneCell']) ?_
      have X7 : Hid ((w6.setRow (w.heap.size + 2) #[.int .u64 8192, .slice xa xn xc]).heap[w.heap.size + 2]? = some (.cells #[.int .u64 8192, .slice xa xn xc] 33 (0, 0)) ∧ Below w.heap.size w (w6.setRow (w.heap.size + 2) #[.int .u64 8192, .slice xa xn xc]) ∧ RefIn F (w6.setRow (w.heap.size + 2) #[.int .u64 8192, .slice xa xn xc]) (.slice xa xn xc) xn xs) := ⟨setRow_heap _ _ _ _ _ _ X6.out.2.1, below_setRow X6.out.2.2.1 (by omega) _, X6.out.2.2.2.setRow (fun z hz h0 => ref_ne X6.out.2.2.2 X6.out.2.1 _ rfl not_byte_slice hz h0)⟩
      clear X6 r0 r1
      generalize w6.setRow (w.heap.size + 2) #[.int .u64 8192, .slice xa xn xc] = w7 at *
      obtain ⟨m0, m1, _, _⟩ := box_facts X7.out.1
      go_wp2_with fail
      refine bodyPost_ret (v := .tuple #[.agg #[.int .u64 8192, .slice xa xn xc], .int .u32 (k : Int)]) (by simp [results, Tryz.results35, go_sem, m0, m1]) rfl ?_
      exact ⟨xa, xn, xc, xs, rfl, HX.out.1, X7.out.2.2, HX.out.2.1, HX.out.2.2, X7.out.2.1⟩
end Go.Proofs.YtmjdnocilbnoaaaGreat

/- The document's Fetch, where nothing comes. -/
namespace Go.Proofs.YtmjdnocilbnoaaaGreat
open Go.RowKit Go.Maps
set_option linter.unusedVariables false
set_option linter.unusedSimpArgs false
set_option maxRecDepth 100000
theorem dfetch_off {w : World} {va : Option Addr} {nn vc : Nat} {s : Int} {D A U : Nat} {ev al : Bool} {fe us : Nat} : Calls Tryz.prog 17 #[.agg #[.int .u64 8192, .slice va nn vc], .agg #[.int .i64 s, .int .u64 (D : Int), .int .u64 (A : Int), .int .u64 (U : Int), .bool false, .int .i64 (fe : Int), .int .i64 (us : Int), .bool ev, .bool al]] w fun r w' => r = .returned (.tuple #[.agg #[.int .i64 s, .int .u64 (D : Int), .int .u64 (A : Int), .int .u64 (U : Int), .bool false, .int .i64 (fe : Int), .int .i64 (us : Int), .bool ev, .bool al], .int .i64 (-1), .agg #[.slice none 0 0, .int .u64 0, .int .u64 0], .bool false, .int .i64 0]) ∧ Below w.heap.size w w' := by
  have XB : Hid (Dx w (((((w.alloc (.cells #[.int .u64 8192, .slice va nn vc] 33)).alloc (.cells #[.int .i64 s, .int .u64 (D : Int), .int .u64 (A : Int), .int .u64 (U : Int), .bool false, .int .i64 (fe : Int), .int .i64 (us : Int), .bool ev, .bool al] 27)).alloc (.cells #[.int .i64 0, .int .u64 0, .int .u64 0, .int .u64 0, .bool false, .int .i64 0, .int .i64 0, .bool false, .bool false] 27)).alloc (.cells #[.slice none 0 0, .int .u64 0, .int .u64 0] 64)).alloc (.cells #[.slice none 0 0, .int .u64 0, .int .u64 0] 64)) va nn vc s D A U false fe us ev al #[.int .i64 0, .int .u64 0, .int .u64 0, .int .u64 0, .bool false, .int .i64 0, .int .i64 0, .bool false, .bool false] #[.slice none 0 0, .int .u64 0, .int .u64 0]) := dx_new
  go_enter Tryz.func17, Tryz.ntmps17
  go_upto_region 2 with fail
  generalize ((((w.alloc (.cells #[.int .u64 8192, .slice va nn vc] 33)).alloc (.cells #[.int .i64 s, .int .u64 (D : Int), .int .u64 (A : Int), .int .u64 (U : Int), .bool false, .int .i64 (fe : Int), .int .i64 (us : Int), .bool ev, .bool al] 27)).alloc (.cells #[.int .i64 0, .int .u64 0, .int .u64 0, .int .u64 0, .bool false, .int .i64 0, .int .i64 0, .bool false, .bool false] 27)).alloc (.cells #[.slice none 0 0, .int .u64 0, .int .u64 0] 64)).alloc (.cells #[.slice none 0 0, .int .u64 0, .int .u64 0] 64) = v0 at *
  obtain ⟨c0, c1, c2, c3, c4, c5, c6, c7, c8⟩ := box9_facts XB.out.2.2.1
  go_upto_region 3 with fail
  clear c0 c1 c2 c3 c4 c5 c6 c7 c8
  have Xd : Hid (Dx w v0.drew va nn vc s D A U false fe us ev al #[.int .i64 0, .int .u64 0, .int .u64 0, .int .u64 0, .bool false, .int .i64 0, .int .i64 0, .bool false, .bool false] #[.slice none 0 0, .int .u64 0, .int .u64 0]) := XB.out.below (Below.drew (Below.refl _ _))
  refine wp_region_held_drew (S := fun Z => Z.cell? ⟨w.heap.size + 1, 0, none⟩ = some (.int .i64 s) ∧ Z.cell? ⟨w.heap.size + 1, 1, none⟩ = some (.int .u64 (D : Int)) ∧ Z.cell? ⟨w.heap.size + 1, 2, none⟩ = some (.int .u64 (A : Int)) ∧ Z.cell? ⟨w.heap.size + 1, 3, none⟩ = some (.int .u64 (U : Int)) ∧ Z.cell? ⟨w.heap.size + 1, 4, none⟩ = some (.bool false) ∧ Z.cell? ⟨w.heap.size + 1, 5, none⟩ = some (.int .i64 (fe : Int)) ∧ Z.cell? ⟨w.heap.size + 1, 6, none⟩ = some (.int .i64 (us : Int)) ∧ Z.cell? ⟨w.heap.size + 1, 7, none⟩ = some (.bool ev) ∧ Z.cell? ⟨w.heap.size + 1, 8, none⟩ = some (.bool al) ∧ Z.cell? ⟨w.heap.size + 4, 0, none⟩ = some (.slice none 0 0) ∧ Z.cell? ⟨w.heap.size + 4, 1, none⟩ = some (.int .u64 0) ∧ Z.cell? ⟨w.heap.size + 4, 2, none⟩ = some (.int .u64 0)) (by kernel_rfl) ⟨cellOf Xd.out.2.2.1 0 _ rfl, cellOf Xd.out.2.2.1 1 _ rfl, cellOf Xd.out.2.2.1 2 _ rfl, cellOf Xd.out.2.2.1 3 _ rfl, cellOf Xd.out.2.2.1 4 _ rfl, cellOf Xd.out.2.2.1 5 _ rfl, cellOf Xd.out.2.2.1 6 _ rfl, cellOf Xd.out.2.2.1 7 _ rfl, cellOf Xd.out.2.2.1 8 _ rfl, cellOf Xd.out.2.2.2.2.2 0 _ rfl, cellOf Xd.out.2.2.2.2.2 1 _ rfl, cellOf Xd.out.2.2.2.2.2 2 _ rfl⟩ ?_
  intro hS
  clear XB
  generalize v0.drew = wd at *
  refine wpAnyH_take (i := 0) (v := ?_) rfl (by kernel_rfl) (by kernel_rfl) (by kernel_rfl) (fun _ _ _ h => h) (Or.inl ⟨by kernel_rfl, ?_⟩) hS ?_
  rotate_left
  · intro w hSw; (try dsimp only at hSw); go_simp; try (with_reducible rfl)
  (try simp only [Act.put, List.getElem_toArray, List.getElem_cons_succ, List.getElem_cons_zero, List.setIfInBounds_toArray, List.set_cons_zero, List.set_cons_succ])
  refine wpAnyH_take (i := 1) (v := ?_) rfl (by kernel_rfl) (by kernel_rfl) (by kernel_rfl) (fun _ _ _ h => h) (Or.inl ⟨by kernel_rfl, ?_⟩) hS ?_
  rotate_left
  · intro w hSw; (try dsimp only at hSw); go_simp; try (with_reducible rfl)
  (try simp only [Act.put, List.getElem_toArray, List.getElem_cons_succ, List.getElem_cons_zero, List.setIfInBounds_toArray, List.set_cons_zero, List.set_cons_succ])
  refine wpAnyH_ready (rs := [2]) (by kernel_rfl) (by simp) ?_
  refine AllReadyH.cons rfl (fun K1 hK1 => ?_) AllReadyH.nil
  rw [if_pos (by kernel_rfl)]
  refine wp_store_row 27 _ _ rfl (w.heap.size + 2) #[.int .i64 s, .int .u64 (D : Int), .int .u64 (A : Int), .int .u64 (U : Int), .bool false, .int .i64 (fe : Int), .int .i64 (us : Int), .bool ev, .bool al] rfl rfl 27 #[.int .i64 0, .int .u64 0, .int .u64 0, .int .u64 0, .bool false, .int .i64 0, .int .i64 0, .bool false, .bool false] Xd.out.2.2.2.1 infoDQ rfl (by simp [Value.oneCell']) ?_
  have Y4 : Hid (Dx w (wd.setRow (w.heap.size + 2) #[.int .i64 s, .int .u64 (D : Int), .int .u64 (A : Int), .int .u64 (U : Int), .bool false, .int .i64 (fe : Int), .int .i64 (us : Int), .bool ev, .bool al]) va nn vc s D A U false fe us ev al #[.int .i64 s, .int .u64 (D : Int), .int .u64 (A : Int), .int .u64 (U : Int), .bool false, .int .i64 (fe : Int), .int .i64 (us : Int), .bool ev, .bool al] #[.slice none 0 0, .int .u64 0, .int .u64 0]) := Xd.out.set4 _
  clear Xd
  generalize wd.setRow (w.heap.size + 2) #[.int .i64 s, .int .u64 (D : Int), .int .u64 (A : Int), .int .u64 (U : Int), .bool false, .int .i64 (fe : Int), .int .i64 (us : Int), .bool ev, .bool al] = w4 at *
  refine hK1.out _ _ ⟨cellOf Y4.out.2.2.1 0 _ rfl, cellOf Y4.out.2.2.1 1 _ rfl, cellOf Y4.out.2.2.1 2 _ rfl, cellOf Y4.out.2.2.1 3 _ rfl, cellOf Y4.out.2.2.1 4 _ rfl, cellOf Y4.out.2.2.1 5 _ rfl, cellOf Y4.out.2.2.1 6 _ rfl, cellOf Y4.out.2.2.1 7 _ rfl, cellOf Y4.out.2.2.1 8 _ rfl, cellOf Y4.out.2.2.2.2.2 0 _ rfl, cellOf Y4.out.2.2.2.2.2 1 _ rfl, cellOf Y4.out.2.2.2.2.2 2 _ rfl⟩ (fun h4 => ?_)
  clear hK1 K1 hS
  (try simp only [Act.put, List.getElem_toArray, List.getElem_cons_succ, List.getElem_cons_zero, List.setIfInBounds_toArray, List.set_cons_zero, List.set_cons_succ])
  refine wpAnyH_take (i := 3) (v := ?_) rfl (by kernel_rfl) (by kernel_rfl) (by kernel_rfl) (fun _ _ _ h => h) (Or.inl ⟨by kernel_rfl, ?_⟩) h4 ?_
  rotate_left
  · intro w hSw; (try dsimp only at hSw); go_simp; try (with_reducible rfl)
  (try simp only [Act.put, List.getElem_toArray, List.getElem_cons_succ, List.getElem_cons_zero, List.setIfInBounds_toArray, List.set_cons_zero, List.set_cons_succ])
  refine wpAnyH_ready (rs := [4]) (by kernel_rfl) (by simp) ?_
  refine AllReadyH.cons rfl (fun K1 hK1 => ?_) AllReadyH.nil
  rw [if_pos (by kernel_rfl)]
  refine wp_store_row 64 _ _ rfl (w.heap.size + 3) #[.slice none 0 0, .int .u64 0, .int .u64 0] rfl rfl 64 #[.slice none 0 0, .int .u64 0, .int .u64 0] Y4.out.2.2.2.2.1 infoDC rfl (by simp [Value.oneCell']) ?_
  have Y5 : Hid (Dx w (w4.setRow (w.heap.size + 3) #[.slice none 0 0, .int .u64 0, .int .u64 0]) va nn vc s D A U false fe us ev al #[.int .i64 s, .int .u64 (D : Int), .int .u64 (A : Int), .int .u64 (U : Int), .bool false, .int .i64 (fe : Int), .int .i64 (us : Int), .bool ev, .bool al] #[.slice none 0 0, .int .u64 0, .int .u64 0]) := Y4.out.set6 _
  clear Y4
  generalize w4.setRow (w.heap.size + 3) #[.slice none 0 0, .int .u64 0, .int .u64 0] = w5 at *
  refine hK1.out _ _ ⟨cellOf Y5.out.2.2.1 0 _ rfl, cellOf Y5.out.2.2.1 1 _ rfl, cellOf Y5.out.2.2.1 2 _ rfl, cellOf Y5.out.2.2.1 3 _ rfl, cellOf Y5.out.2.2.1 4 _ rfl, cellOf Y5.out.2.2.1 5 _ rfl, cellOf Y5.out.2.2.1 6 _ rfl, cellOf Y5.out.2.2.1 7 _ rfl, cellOf Y5.out.2.2.1 8 _ rfl, cellOf Y5.out.2.2.2.2.2 0 _ rfl, cellOf Y5.out.2.2.2.2.2 1 _ rfl, cellOf Y5.out.2.2.2.2.2 2 _ rfl⟩ (fun h5 => ?_)
  clear hK1 K1 h4
  (try simp only [Act.put, List.getElem_toArray, List.getElem_cons_succ, List.getElem_cons_zero, List.setIfInBounds_toArray, List.set_cons_zero, List.set_cons_succ])
  refine wpAnyH_take (i := 5) (v := ?_) rfl (by kernel_rfl) (by kernel_rfl) (by kernel_rfl) (fun _ _ _ h => h) (Or.inl ⟨by kernel_rfl, ?_⟩) h5 ?_
  rotate_left
  · intro w hSw; (try dsimp only at hSw); go_simp; try (with_reducible rfl)
  (try simp only [Act.put, List.getElem_toArray, List.getElem_cons_succ, List.getElem_cons_zero, List.setIfInBounds_toArray, List.set_cons_zero, List.set_cons_succ])
  refine wpAnyH_take (i := 6) (v := ?_) rfl (by kernel_rfl) (by kernel_rfl) (by kernel_rfl) (fun _ _ _ h => h) (Or.inl ⟨by kernel_rfl, ?_⟩) h5 ?_
  rotate_left
  · intro w hSw; (try dsimp only at hSw); go_simp; try (with_reducible rfl)
  (try simp only [Act.put, List.getElem_toArray, List.getElem_cons_succ, List.getElem_cons_zero, List.setIfInBounds_toArray, List.set_cons_zero, List.set_cons_succ])
  refine wpAnyH_done (by kernel_rfl) ?_ _
  clear h5
  obtain ⟨k0, k1, k2, k3, k4, k5, k6, k7, k8⟩ := box9_facts Y5.out.2.2.2.1
  obtain ⟨m0, m1, m2⟩ := box3_facts Y5.out.2.2.2.2.1
  go_wp2_with fail
  refine bodyPost_ret (v := .tuple #[.agg #[.int .i64 s, .int .u64 (D : Int), .int .u64 (A : Int), .int .u64 (U : Int), .bool false, .int .i64 (fe : Int), .int .i64 (us : Int), .bool ev, .bool al], .int .i64 (-1), .agg #[.slice none 0 0, .int .u64 0, .int .u64 0], .bool false, .int .i64 0]) (by simp [results, Tryz.results17, go_sem, k0, k1, k2, k3, k4, k5, k6, k7, k8, m0, m1, m2]) rfl ?_
  exact ⟨rfl, Y5.out.1⟩

theorem dfetch_chk {w : World} {va : Option Addr} {nn vc : Nat} {s : Int} {D A U : Nat} {ev al : Bool} {fe us : Nat} (hD : D < 18446744073709551616) (hA : A < 18446744073709551616) (hU : U < 18446744073709551616) (hc : chkN s D A U 8192 ≠ 0) : Calls Tryz.prog 17 #[.agg #[.int .u64 8192, .slice va nn vc], .agg #[.int .i64 s, .int .u64 (D : Int), .int .u64 (A : Int), .int .u64 (U : Int), .bool true, .int .i64 (fe : Int), .int .i64 (us : Int), .bool ev, .bool al]] w fun r w' => r = .returned (.tuple #[.agg #[.int .i64 s, .int .u64 (D : Int), .int .u64 (A : Int), .int .u64 (U : Int), .bool true, .int .i64 (fe : Int), .int .i64 (us : Int), .bool ev, .bool al], .int .i64 (-1), .agg #[.slice none 0 0, .int .u64 0, .int .u64 0], .bool false, .int .i64 (chkN s D A U 8192)]) ∧ Below w.heap.size w w' := by
  have XB : Hid (Dx w (((((w.alloc (.cells #[.int .u64 8192, .slice va nn vc] 33)).alloc (.cells #[.int .i64 s, .int .u64 (D : Int), .int .u64 (A : Int), .int .u64 (U : Int), .bool true, .int .i64 (fe : Int), .int .i64 (us : Int), .bool ev, .bool al] 27)).alloc (.cells #[.int .i64 0, .int .u64 0, .int .u64 0, .int .u64 0, .bool false, .int .i64 0, .int .i64 0, .bool false, .bool false] 27)).alloc (.cells #[.slice none 0 0, .int .u64 0, .int .u64 0] 64)).alloc (.cells #[.slice none 0 0, .int .u64 0, .int .u64 0] 64)) va nn vc s D A U true fe us ev al #[.int .i64 0, .int .u64 0, .int .u64 0, .int .u64 0, .bool false, .int .i64 0, .int .i64 0, .bool false, .bool false] #[.slice none 0 0, .int .u64 0, .int .u64 0]) := dx_new
  obtain ⟨ce, hce⟩ : ∃ ce, chkN s D A U 8192 = ce := ⟨_, rfl⟩
  have HC : Hid (D < 18446744073709551616 ∧ A < 18446744073709551616 ∧ U < 18446744073709551616 ∧ chkN s D A U 8192 = ce) := ⟨hD, hA, hU, hce⟩
  rw [hce] at hc ⊢
  have q1 : (ce != 0) = true := by simp [hc]
  clear hD hA hU hce hc
  go_enter Tryz.func17, Tryz.ntmps17
  go_upto_region 2 with fail
  generalize ((((w.alloc (.cells #[.int .u64 8192, .slice va nn vc] 33)).alloc (.cells #[.int .i64 s, .int .u64 (D : Int), .int .u64 (A : Int), .int .u64 (U : Int), .bool true, .int .i64 (fe : Int), .int .i64 (us : Int), .bool ev, .bool al] 27)).alloc (.cells #[.int .i64 0, .int .u64 0, .int .u64 0, .int .u64 0, .bool false, .int .i64 0, .int .i64 0, .bool false, .bool false] 27)).alloc (.cells #[.slice none 0 0, .int .u64 0, .int .u64 0] 64)).alloc (.cells #[.slice none 0 0, .int .u64 0, .int .u64 0] 64) = v0 at *
  obtain ⟨c0, c1, c2, c3, c4, c5, c6, c7, c8⟩ := box9_facts XB.out.2.2.1
  obtain ⟨r0, r1, _, _⟩ := box_facts XB.out.2.1
  go_upto_region 6 with (go_at_call 20; refine (rcheck_any HC.out.1 HC.out.2.1 HC.out.2.2.1 8192 (by omega) va nn vc _).mono ?_; rintro e w1 ⟨rfl, hb1⟩; rw [HC.out.2.2.2]; have X1 : Hid (Dx w w1 va nn vc s D A U true fe us ev al #[.int .i64 0, .int .u64 0, .int .u64 0, .int .u64 0, .bool false, .int .i64 0, .int .i64 0, .bool false, .bool false] #[.slice none 0 0, .int .u64 0, .int .u64 0]) := XB.out.below hb1; clear hb1 XB c0 c1 c2 c3 c4 c5 c6 c7 c8 r0 r1)
  have Xd : Hid (Dx w w1.drew va nn vc s D A U true fe us ev al #[.int .i64 0, .int .u64 0, .int .u64 0, .int .u64 0, .bool false, .int .i64 0, .int .i64 0, .bool false, .bool false] #[.slice none 0 0, .int .u64 0, .int .u64 0]) := X1.out.below (Below.drew (Below.refl _ _))
  refine wp_region_held_drew (S := fun Z => Z.cell? ⟨w.heap.size + 1, 0, none⟩ = some (.int .i64 s) ∧ Z.cell? ⟨w.heap.size + 1, 1, none⟩ = some (.int .u64 (D : Int)) ∧ Z.cell? ⟨w.heap.size + 1, 2, none⟩ = some (.int .u64 (A : Int)) ∧ Z.cell? ⟨w.heap.size + 1, 3, none⟩ = some (.int .u64 (U : Int)) ∧ Z.cell? ⟨w.heap.size + 1, 4, none⟩ = some (.bool true) ∧ Z.cell? ⟨w.heap.size + 1, 5, none⟩ = some (.int .i64 (fe : Int)) ∧ Z.cell? ⟨w.heap.size + 1, 6, none⟩ = some (.int .i64 (us : Int)) ∧ Z.cell? ⟨w.heap.size + 1, 7, none⟩ = some (.bool ev) ∧ Z.cell? ⟨w.heap.size + 1, 8, none⟩ = some (.bool al) ∧ Z.cell? ⟨w.heap.size + 4, 0, none⟩ = some (.slice none 0 0) ∧ Z.cell? ⟨w.heap.size + 4, 1, none⟩ = some (.int .u64 0) ∧ Z.cell? ⟨w.heap.size + 4, 2, none⟩ = some (.int .u64 0)) (by kernel_rfl) ⟨cellOf Xd.out.2.2.1 0 _ rfl, cellOf Xd.out.2.2.1 1 _ rfl, cellOf Xd.out.2.2.1 2 _ rfl, cellOf Xd.out.2.2.1 3 _ rfl, cellOf Xd.out.2.2.1 4 _ rfl, cellOf Xd.out.2.2.1 5 _ rfl, cellOf Xd.out.2.2.1 6 _ rfl, cellOf Xd.out.2.2.1 7 _ rfl, cellOf Xd.out.2.2.1 8 _ rfl, cellOf Xd.out.2.2.2.2.2 0 _ rfl, cellOf Xd.out.2.2.2.2.2 1 _ rfl, cellOf Xd.out.2.2.2.2.2 2 _ rfl⟩ ?_
  intro hS
  clear X1
  generalize w1.drew = wd at *
  refine wpAnyH_take (i := 0) (v := ?_) rfl (by kernel_rfl) (by kernel_rfl) (by kernel_rfl) (fun _ _ _ h => h) (Or.inl ⟨by kernel_rfl, ?_⟩) hS ?_
  rotate_left
  · intro w hSw; (try dsimp only at hSw); go_simp; try (with_reducible rfl)
  (try simp only [Act.put, List.getElem_toArray, List.getElem_cons_succ, List.getElem_cons_zero, List.setIfInBounds_toArray, List.set_cons_zero, List.set_cons_succ])
  refine wpAnyH_take (i := 1) (v := ?_) rfl (by kernel_rfl) (by kernel_rfl) (by kernel_rfl) (fun _ _ _ h => h) (Or.inl ⟨by kernel_rfl, ?_⟩) hS ?_
  rotate_left
  · intro w hSw; (try dsimp only at hSw); go_simp; try (with_reducible rfl)
  (try simp only [Act.put, List.getElem_toArray, List.getElem_cons_succ, List.getElem_cons_zero, List.setIfInBounds_toArray, List.set_cons_zero, List.set_cons_succ])
  refine wpAnyH_take (i := 2) (v := ?_) rfl (by kernel_rfl) (by kernel_rfl) (by kernel_rfl) (fun _ _ _ h => h) (Or.inl ⟨by kernel_rfl, ?_⟩) hS ?_
  rotate_left
  · intro w hSw; (try dsimp only at hSw); go_simp; try (with_reducible rfl)
  (try simp only [Act.put, List.getElem_toArray, List.getElem_cons_succ, List.getElem_cons_zero, List.setIfInBounds_toArray, List.set_cons_zero, List.set_cons_succ])
  refine wpAnyH_ready (rs := [3]) (by kernel_rfl) (by simp) ?_
  refine AllReadyH.cons rfl (fun K1 hK1 => ?_) AllReadyH.nil
  rw [if_pos (by kernel_rfl)]
  refine wp_store_row 27 _ _ rfl (w.heap.size + 2) #[.int .i64 s, .int .u64 (D : Int), .int .u64 (A : Int), .int .u64 (U : Int), .bool true, .int .i64 (fe : Int), .int .i64 (us : Int), .bool ev, .bool al] rfl rfl 27 #[.int .i64 0, .int .u64 0, .int .u64 0, .int .u64 0, .bool false, .int .i64 0, .int .i64 0, .bool false, .bool false] Xd.out.2.2.2.1 infoDQ rfl (by simp [Value.oneCell']) ?_
  have Y4 : Hid (Dx w (wd.setRow (w.heap.size + 2) #[.int .i64 s, .int .u64 (D : Int), .int .u64 (A : Int), .int .u64 (U : Int), .bool true, .int .i64 (fe : Int), .int .i64 (us : Int), .bool ev, .bool al]) va nn vc s D A U true fe us ev al #[.int .i64 s, .int .u64 (D : Int), .int .u64 (A : Int), .int .u64 (U : Int), .bool true, .int .i64 (fe : Int), .int .i64 (us : Int), .bool ev, .bool al] #[.slice none 0 0, .int .u64 0, .int .u64 0]) := Xd.out.set4 _
  clear Xd
  generalize wd.setRow (w.heap.size + 2) #[.int .i64 s, .int .u64 (D : Int), .int .u64 (A : Int), .int .u64 (U : Int), .bool true, .int .i64 (fe : Int), .int .i64 (us : Int), .bool ev, .bool al] = w4 at *
  refine hK1.out _ _ ⟨cellOf Y4.out.2.2.1 0 _ rfl, cellOf Y4.out.2.2.1 1 _ rfl, cellOf Y4.out.2.2.1 2 _ rfl, cellOf Y4.out.2.2.1 3 _ rfl, cellOf Y4.out.2.2.1 4 _ rfl, cellOf Y4.out.2.2.1 5 _ rfl, cellOf Y4.out.2.2.1 6 _ rfl, cellOf Y4.out.2.2.1 7 _ rfl, cellOf Y4.out.2.2.1 8 _ rfl, cellOf Y4.out.2.2.2.2.2 0 _ rfl, cellOf Y4.out.2.2.2.2.2 1 _ rfl, cellOf Y4.out.2.2.2.2.2 2 _ rfl⟩ (fun h4 => ?_)
  clear hK1 K1 hS
  (try simp only [Act.put, List.getElem_toArray, List.getElem_cons_succ, List.getElem_cons_zero, List.setIfInBounds_toArray, List.set_cons_zero, List.set_cons_succ])
  refine wpAnyH_take (i := 4) (v := ?_) rfl (by kernel_rfl) (by kernel_rfl) (by kernel_rfl) (fun _ _ _ h => h) (Or.inl ⟨by kernel_rfl, ?_⟩) h4 ?_
  rotate_left
  · intro w hSw; (try dsimp only at hSw); go_simp; try (with_reducible rfl)
  (try simp only [Act.put, List.getElem_toArray, List.getElem_cons_succ, List.getElem_cons_zero, List.setIfInBounds_toArray, List.set_cons_zero, List.set_cons_succ])
  refine wpAnyH_ready (rs := [5]) (by kernel_rfl) (by simp) ?_
  refine AllReadyH.cons rfl (fun K1 hK1 => ?_) AllReadyH.nil
  rw [if_pos (by kernel_rfl)]
  refine wp_store_row 64 _ _ rfl (w.heap.size + 3) #[.slice none 0 0, .int .u64 0, .int .u64 0] rfl rfl 64 #[.slice none 0 0, .int .u64 0, .int .u64 0] Y4.out.2.2.2.2.1 infoDC rfl (by simp [Value.oneCell']) ?_
  have Y5 : Hid (Dx w (w4.setRow (w.heap.size + 3) #[.slice none 0 0, .int .u64 0, .int .u64 0]) va nn vc s D A U true fe us ev al #[.int .i64 s, .int .u64 (D : Int), .int .u64 (A : Int), .int .u64 (U : Int), .bool true, .int .i64 (fe : Int), .int .i64 (us : Int), .bool ev, .bool al] #[.slice none 0 0, .int .u64 0, .int .u64 0]) := Y4.out.set6 _
  clear Y4
  generalize w4.setRow (w.heap.size + 3) #[.slice none 0 0, .int .u64 0, .int .u64 0] = w5 at *
  refine hK1.out _ _ ⟨cellOf Y5.out.2.2.1 0 _ rfl, cellOf Y5.out.2.2.1 1 _ rfl, cellOf Y5.out.2.2.1 2 _ rfl, cellOf Y5.out.2.2.1 3 _ rfl, cellOf Y5.out.2.2.1 4 _ rfl, cellOf Y5.out.2.2.1 5 _ rfl, cellOf Y5.out.2.2.1 6 _ rfl, cellOf Y5.out.2.2.1 7 _ rfl, cellOf Y5.out.2.2.1 8 _ rfl, cellOf Y5.out.2.2.2.2.2 0 _ rfl, cellOf Y5.out.2.2.2.2.2 1 _ rfl, cellOf Y5.out.2.2.2.2.2 2 _ rfl⟩ (fun h5 => ?_)
  clear hK1 K1 h4
  (try simp only [Act.put, List.getElem_toArray, List.getElem_cons_succ, List.getElem_cons_zero, List.setIfInBounds_toArray, List.set_cons_zero, List.set_cons_succ])
  refine wpAnyH_take (i := 6) (v := ?_) rfl (by kernel_rfl) (by kernel_rfl) (by kernel_rfl) (fun _ _ _ h => h) (Or.inl ⟨by kernel_rfl, ?_⟩) h5 ?_
  rotate_left
  · intro w hSw; (try dsimp only at hSw); go_simp; try (with_reducible rfl)
  (try simp only [Act.put, List.getElem_toArray, List.getElem_cons_succ, List.getElem_cons_zero, List.setIfInBounds_toArray, List.set_cons_zero, List.set_cons_succ])
  refine wpAnyH_take (i := 7) (v := ?_) rfl (by kernel_rfl) (by kernel_rfl) (by kernel_rfl) (fun _ _ _ h => h) (Or.inl ⟨by kernel_rfl, ?_⟩) h5 ?_
  rotate_left
  · intro w hSw; (try dsimp only at hSw); go_simp; try (with_reducible rfl)
  (try simp only [Act.put, List.getElem_toArray, List.getElem_cons_succ, List.getElem_cons_zero, List.setIfInBounds_toArray, List.set_cons_zero, List.set_cons_succ])
  refine wpAnyH_done (by kernel_rfl) ?_ _
  clear h5
  obtain ⟨k0, k1, k2, k3, k4, k5, k6, k7, k8⟩ := box9_facts Y5.out.2.2.2.1
  obtain ⟨m0, m1, m2⟩ := box3_facts Y5.out.2.2.2.2.1
  go_wp2_with fail
  refine bodyPost_ret (v := .tuple #[.agg #[.int .i64 s, .int .u64 (D : Int), .int .u64 (A : Int), .int .u64 (U : Int), .bool true, .int .i64 (fe : Int), .int .i64 (us : Int), .bool ev, .bool al], .int .i64 (-1), .agg #[.slice none 0 0, .int .u64 0, .int .u64 0], .bool false, .int .i64 ce]) (by simp [results, Tryz.results17, go_sem, k0, k1, k2, k3, k4, k5, k6, k7, k8, m0, m1, m2]) rfl ?_
  exact ⟨rfl, Y5.out.1⟩

theorem dfetch_wait {F : Nat → Prop} {w : World} {va : Option Addr} {nn vc : Nat} {bs : Nat → Nat × Nat} {M : Nat → Nat} (href : RefIn F w (.slice va nn vc) nn bs) (hgt : ∀ q, rget bs nn q = M q) (hle : ∀ a, M a ≤ 255) (hnn : nn ≤ 900000) {n D A U : Nat} {ev al : Bool} {fe us : Nat} (hg : Gd n D A U) (hfe : fe ≤ 65535) (hw : waitN M A fe = 0) : Calls Tryz.prog 17 #[.agg #[.int .u64 8192, .slice va nn vc], .agg #[.int .i64 (n : Int), .int .u64 (D : Int), .int .u64 (A : Int), .int .u64 (U : Int), .bool true, .int .i64 (fe : Int), .int .i64 (us : Int), .bool ev, .bool al]] w fun r w' => r = .returned (.tuple #[.agg #[.int .i64 (n : Int), .int .u64 (D : Int), .int .u64 (A : Int), .int .u64 (U : Int), .bool true, .int .i64 (fe : Int), .int .i64 (us : Int), .bool ev, .bool al], .int .i64 (-1), .agg #[.slice none 0 0, .int .u64 0, .int .u64 0], .bool false, .int .i64 0]) ∧ Below w.heap.size w w' := by
  have XB : Hid (Dx w (((((w.alloc (.cells #[.int .u64 8192, .slice va nn vc] 33)).alloc (.cells #[.int .i64 (n : Int), .int .u64 (D : Int), .int .u64 (A : Int), .int .u64 (U : Int), .bool true, .int .i64 (fe : Int), .int .i64 (us : Int), .bool ev, .bool al] 27)).alloc (.cells #[.int .i64 0, .int .u64 0, .int .u64 0, .int .u64 0, .bool false, .int .i64 0, .int .i64 0, .bool false, .bool false] 27)).alloc (.cells #[.slice none 0 0, .int .u64 0, .int .u64 0] 64)).alloc (.cells #[.slice none 0 0, .int .u64 0, .int .u64 0] 64)) va nn vc (n : Int) D A U true fe us ev al #[.int .i64 0, .int .u64 0, .int .u64 0, .int .u64 0, .bool false, .int .i64 0, .int .i64 0, .bool false, .bool false] #[.slice none 0 0, .int .u64 0, .int .u64 0]) := dx_new
  have HC : Hid (Gd n D A U ∧ fe ≤ 65535 ∧ RefIn F w (.slice va nn vc) nn bs ∧ (∀ q, rget bs nn q = M q) ∧ (∀ a, M a ≤ 255) ∧ nn ≤ 900000) := ⟨hg, hfe, href, hgt, hle, hnn⟩
  obtain ⟨of, hof⟩ : ∃ of, wordN M (A + 2) 2 8192 = of := ⟨_, rfl⟩
  have HO : Hid (wordN M (A + 2) 2 8192 = of) := hof
  obtain ⟨o1, o2, wt, hwt, e1, e2, e3, e4, e8, e9⟩ := wait_facts hof hle hfe
  have q1 : ((wt : Int) == 0) = true := int_eq0 (by rw [← hwt]; exact hw)
  clear href hgt hle hnn hfe hw hwt hof hg
  go_enter Tryz.func17, Tryz.ntmps17
  go_upto_region 2 with fail
  generalize ((((w.alloc (.cells #[.int .u64 8192, .slice va nn vc] 33)).alloc (.cells #[.int .i64 (n : Int), .int .u64 (D : Int), .int .u64 (A : Int), .int .u64 (U : Int), .bool true, .int .i64 (fe : Int), .int .i64 (us : Int), .bool ev, .bool al] 27)).alloc (.cells #[.int .i64 0, .int .u64 0, .int .u64 0, .int .u64 0, .bool false, .int .i64 0, .int .i64 0, .bool false, .bool false] 27)).alloc (.cells #[.slice none 0 0, .int .u64 0, .int .u64 0] 64)).alloc (.cells #[.slice none 0 0, .int .u64 0, .int .u64 0] 64) = v0 at *
  obtain ⟨c0, c1, c2, c3, c4, c5, c6, c7, c8⟩ := box9_facts XB.out.2.2.1
  obtain ⟨r0, r1, _, _⟩ := box_facts XB.out.2.1
  go_upto_region 7 with (go_at_call 20; refine (rcheck_any HC.out.1.d1 (gd_bounds HC.out.1).2.1 (gd_bounds HC.out.1).2.2 8192 (by omega) va nn vc _).mono ?_; rintro e w1 ⟨rfl, hb1⟩; rw [HC.out.1.chk]; have X1 : Hid (Dx w w1 va nn vc (n : Int) D A U true fe us ev al #[.int .i64 0, .int .u64 0, .int .u64 0, .int .u64 0, .bool false, .int .i64 0, .int .i64 0, .bool false, .bool false] #[.slice none 0 0, .int .u64 0, .int .u64 0]) := XB.out.below hb1; clear hb1 XB c0 c1 c2 c3 c4 c5 c6 c7 c8 r0 r1; obtain ⟨c0, c1, c2, c3, c4, c5, c6, c7, c8⟩ := box9_facts X1.out.2.2.1; obtain ⟨r0, r1, _, _⟩ := box_facts X1.out.2.1)
  have X2 : Hid (Dx w w1.drew va nn vc (n : Int) D A U true fe us ev al #[.int .i64 0, .int .u64 0, .int .u64 0, .int .u64 0, .bool false, .int .i64 0, .int .i64 0, .bool false, .bool false] #[.slice none 0 0, .int .u64 0, .int .u64 0]) := X1.out.below (Below.drew (Below.refl _ _))
  go_region_held3 (fun Z => Z.cell? ⟨w.heap.size + 1, 0, none⟩ = some (.int .i64 (n : Int)) ∧ Z.cell? ⟨w.heap.size + 1, 1, none⟩ = some (.int .u64 (D : Int)) ∧ Z.cell? ⟨w.heap.size + 1, 2, none⟩ = some (.int .u64 (A : Int)) ∧ Z.cell? ⟨w.heap.size + 1, 3, none⟩ = some (.int .u64 (U : Int)) ∧ Z.cell? ⟨w.heap.size + 1, 4, none⟩ = some (.bool true) ∧ Z.cell? ⟨w.heap.size + 1, 5, none⟩ = some (.int .i64 (fe : Int)) ∧ Z.cell? ⟨w.heap.size + 1, 6, none⟩ = some (.int .i64 (us : Int)) ∧ Z.cell? ⟨w.heap.size + 1, 7, none⟩ = some (.bool ev) ∧ Z.cell? ⟨w.heap.size + 1, 8, none⟩ = some (.bool al) ∧ Z.cell? ⟨w.heap.size, 0, none⟩ = some (.int .u64 8192) ∧ Z.cell? ⟨w.heap.size, 1, none⟩ = some (.slice va nn vc)) (go_keep) (first | (go_at_call 47; refine (roffered_any (HC.out.2.2.1.below X2.out.1) HC.out.2.2.2.1 HC.out.2.2.2.2.1 (by have := HC.out.2.2.2.2.2; omega) HC.out.1).mono ?_; rintro e w2 ⟨rfl, hb2⟩; rw [HO.out]; have X3 : Hid (Dx w w2 va nn vc (n : Int) D A U true fe us ev al #[.int .i64 0, .int .u64 0, .int .u64 0, .int .u64 0, .bool false, .int .i64 0, .int .i64 0, .bool false, .bool false] #[.slice none 0 0, .int .u64 0, .int .u64 0]) := X2.out.below hb2; clear hb2; obtain ⟨d0, d1, d2, d3, d4, d5, d6, d7, d8⟩ := box9_facts X3.out.2.2.1; obtain ⟨s0, s1, _, _⟩ := box_facts X3.out.2.1))
  clear X1 X2 c0 c1 c2 c3 c4 c5 c6 c7 c8 r0 r1
  clear d0 d1 d2 d3 d4 d5 d6 d7 d8 s0 s1
  go_upto_region 9 with fail
  have Xd : Hid (Dx w w2.drew va nn vc (n : Int) D A U true fe us ev al #[.int .i64 0, .int .u64 0, .int .u64 0, .int .u64 0, .bool false, .int .i64 0, .int .i64 0, .bool false, .bool false] #[.slice none 0 0, .int .u64 0, .int .u64 0]) := X3.out.below (Below.drew (Below.refl _ _))
  refine wp_region_held_drew (S := fun Z => Z.cell? ⟨w.heap.size + 1, 0, none⟩ = some (.int .i64 (n : Int)) ∧ Z.cell? ⟨w.heap.size + 1, 1, none⟩ = some (.int .u64 (D : Int)) ∧ Z.cell? ⟨w.heap.size + 1, 2, none⟩ = some (.int .u64 (A : Int)) ∧ Z.cell? ⟨w.heap.size + 1, 3, none⟩ = some (.int .u64 (U : Int)) ∧ Z.cell? ⟨w.heap.size + 1, 4, none⟩ = some (.bool true) ∧ Z.cell? ⟨w.heap.size + 1, 5, none⟩ = some (.int .i64 (fe : Int)) ∧ Z.cell? ⟨w.heap.size + 1, 6, none⟩ = some (.int .i64 (us : Int)) ∧ Z.cell? ⟨w.heap.size + 1, 7, none⟩ = some (.bool ev) ∧ Z.cell? ⟨w.heap.size + 1, 8, none⟩ = some (.bool al) ∧ Z.cell? ⟨w.heap.size + 4, 0, none⟩ = some (.slice none 0 0) ∧ Z.cell? ⟨w.heap.size + 4, 1, none⟩ = some (.int .u64 0) ∧ Z.cell? ⟨w.heap.size + 4, 2, none⟩ = some (.int .u64 0)) (by kernel_rfl) ⟨cellOf Xd.out.2.2.1 0 _ rfl, cellOf Xd.out.2.2.1 1 _ rfl, cellOf Xd.out.2.2.1 2 _ rfl, cellOf Xd.out.2.2.1 3 _ rfl, cellOf Xd.out.2.2.1 4 _ rfl, cellOf Xd.out.2.2.1 5 _ rfl, cellOf Xd.out.2.2.1 6 _ rfl, cellOf Xd.out.2.2.1 7 _ rfl, cellOf Xd.out.2.2.1 8 _ rfl, cellOf Xd.out.2.2.2.2.2 0 _ rfl, cellOf Xd.out.2.2.2.2.2 1 _ rfl, cellOf Xd.out.2.2.2.2.2 2 _ rfl⟩ ?_
  intro hS
  clear X3
  generalize w2.drew = wd at *
  refine wpAnyH_take (i := 0) (v := ?_) rfl (by kernel_rfl) (by kernel_rfl) (by kernel_rfl) (fun _ _ _ h => h) (Or.inl ⟨by kernel_rfl, ?_⟩) hS ?_
  rotate_left
  · intro w hSw; (try dsimp only at hSw); go_simp; try (with_reducible rfl)
  (try simp only [Act.put, List.getElem_toArray, List.getElem_cons_succ, List.getElem_cons_zero, List.setIfInBounds_toArray, List.set_cons_zero, List.set_cons_succ])
  refine wpAnyH_take (i := 1) (v := ?_) rfl (by kernel_rfl) (by kernel_rfl) (by kernel_rfl) (fun _ _ _ h => h) (Or.inl ⟨by kernel_rfl, ?_⟩) hS ?_
  rotate_left
  · intro w hSw; (try dsimp only at hSw); go_simp; try (with_reducible rfl)
  (try simp only [Act.put, List.getElem_toArray, List.getElem_cons_succ, List.getElem_cons_zero, List.setIfInBounds_toArray, List.set_cons_zero, List.set_cons_succ])
  refine wpAnyH_ready (rs := [2]) (by kernel_rfl) (by simp) ?_
  refine AllReadyH.cons rfl (fun K1 hK1 => ?_) AllReadyH.nil
  rw [if_pos (by kernel_rfl)]
  refine wp_store_row 27 _ _ rfl (w.heap.size + 2) #[.int .i64 (n : Int), .int .u64 (D : Int), .int .u64 (A : Int), .int .u64 (U : Int), .bool true, .int .i64 (fe : Int), .int .i64 (us : Int), .bool ev, .bool al] rfl rfl 27 #[.int .i64 0, .int .u64 0, .int .u64 0, .int .u64 0, .bool false, .int .i64 0, .int .i64 0, .bool false, .bool false] Xd.out.2.2.2.1 infoDQ rfl (by simp [Value.oneCell']) ?_
  have Y4 : Hid (Dx w (wd.setRow (w.heap.size + 2) #[.int .i64 (n : Int), .int .u64 (D : Int), .int .u64 (A : Int), .int .u64 (U : Int), .bool true, .int .i64 (fe : Int), .int .i64 (us : Int), .bool ev, .bool al]) va nn vc (n : Int) D A U true fe us ev al #[.int .i64 (n : Int), .int .u64 (D : Int), .int .u64 (A : Int), .int .u64 (U : Int), .bool true, .int .i64 (fe : Int), .int .i64 (us : Int), .bool ev, .bool al] #[.slice none 0 0, .int .u64 0, .int .u64 0]) := Xd.out.set4 _
  clear Xd
  generalize wd.setRow (w.heap.size + 2) #[.int .i64 (n : Int), .int .u64 (D : Int), .int .u64 (A : Int), .int .u64 (U : Int), .bool true, .int .i64 (fe : Int), .int .i64 (us : Int), .bool ev, .bool al] = w4 at *
  refine hK1.out _ _ ⟨cellOf Y4.out.2.2.1 0 _ rfl, cellOf Y4.out.2.2.1 1 _ rfl, cellOf Y4.out.2.2.1 2 _ rfl, cellOf Y4.out.2.2.1 3 _ rfl, cellOf Y4.out.2.2.1 4 _ rfl, cellOf Y4.out.2.2.1 5 _ rfl, cellOf Y4.out.2.2.1 6 _ rfl, cellOf Y4.out.2.2.1 7 _ rfl, cellOf Y4.out.2.2.1 8 _ rfl, cellOf Y4.out.2.2.2.2.2 0 _ rfl, cellOf Y4.out.2.2.2.2.2 1 _ rfl, cellOf Y4.out.2.2.2.2.2 2 _ rfl⟩ (fun h4 => ?_)
  clear hK1 K1 hS
  (try simp only [Act.put, List.getElem_toArray, List.getElem_cons_succ, List.getElem_cons_zero, List.setIfInBounds_toArray, List.set_cons_zero, List.set_cons_succ])
  refine wpAnyH_take (i := 3) (v := ?_) rfl (by kernel_rfl) (by kernel_rfl) (by kernel_rfl) (fun _ _ _ h => h) (Or.inl ⟨by kernel_rfl, ?_⟩) h4 ?_
  rotate_left
  · intro w hSw; (try dsimp only at hSw); go_simp; try (with_reducible rfl)
  (try simp only [Act.put, List.getElem_toArray, List.getElem_cons_succ, List.getElem_cons_zero, List.setIfInBounds_toArray, List.set_cons_zero, List.set_cons_succ])
  refine wpAnyH_ready (rs := [4]) (by kernel_rfl) (by simp) ?_
  refine AllReadyH.cons rfl (fun K1 hK1 => ?_) AllReadyH.nil
  rw [if_pos (by kernel_rfl)]
  refine wp_store_row 64 _ _ rfl (w.heap.size + 3) #[.slice none 0 0, .int .u64 0, .int .u64 0] rfl rfl 64 #[.slice none 0 0, .int .u64 0, .int .u64 0] Y4.out.2.2.2.2.1 infoDC rfl (by simp [Value.oneCell']) ?_
  have Y5 : Hid (Dx w (w4.setRow (w.heap.size + 3) #[.slice none 0 0, .int .u64 0, .int .u64 0]) va nn vc (n : Int) D A U true fe us ev al #[.int .i64 (n : Int), .int .u64 (D : Int), .int .u64 (A : Int), .int .u64 (U : Int), .bool true, .int .i64 (fe : Int), .int .i64 (us : Int), .bool ev, .bool al] #[.slice none 0 0, .int .u64 0, .int .u64 0]) := Y4.out.set6 _
  clear Y4
  generalize w4.setRow (w.heap.size + 3) #[.slice none 0 0, .int .u64 0, .int .u64 0] = w5 at *
  refine hK1.out _ _ ⟨cellOf Y5.out.2.2.1 0 _ rfl, cellOf Y5.out.2.2.1 1 _ rfl, cellOf Y5.out.2.2.1 2 _ rfl, cellOf Y5.out.2.2.1 3 _ rfl, cellOf Y5.out.2.2.1 4 _ rfl, cellOf Y5.out.2.2.1 5 _ rfl, cellOf Y5.out.2.2.1 6 _ rfl, cellOf Y5.out.2.2.1 7 _ rfl, cellOf Y5.out.2.2.1 8 _ rfl, cellOf Y5.out.2.2.2.2.2 0 _ rfl, cellOf Y5.out.2.2.2.2.2 1 _ rfl, cellOf Y5.out.2.2.2.2.2 2 _ rfl⟩ (fun h5 => ?_)
  clear hK1 K1 h4
  (try simp only [Act.put, List.getElem_toArray, List.getElem_cons_succ, List.getElem_cons_zero, List.setIfInBounds_toArray, List.set_cons_zero, List.set_cons_succ])
  refine wpAnyH_take (i := 5) (v := ?_) rfl (by kernel_rfl) (by kernel_rfl) (by kernel_rfl) (fun _ _ _ h => h) (Or.inl ⟨by kernel_rfl, ?_⟩) h5 ?_
  rotate_left
  · intro w hSw; (try dsimp only at hSw); go_simp; try (with_reducible rfl)
  (try simp only [Act.put, List.getElem_toArray, List.getElem_cons_succ, List.getElem_cons_zero, List.setIfInBounds_toArray, List.set_cons_zero, List.set_cons_succ])
  refine wpAnyH_take (i := 6) (v := ?_) rfl (by kernel_rfl) (by kernel_rfl) (by kernel_rfl) (fun _ _ _ h => h) (Or.inl ⟨by kernel_rfl, ?_⟩) h5 ?_
  rotate_left
  · intro w hSw; (try dsimp only at hSw); go_simp; try (with_reducible rfl)
  (try simp only [Act.put, List.getElem_toArray, List.getElem_cons_succ, List.getElem_cons_zero, List.setIfInBounds_toArray, List.set_cons_zero, List.set_cons_succ])
  refine wpAnyH_done (by kernel_rfl) ?_ _
  clear h5
  obtain ⟨k0, k1, k2, k3, k4, k5, k6, k7, k8⟩ := box9_facts Y5.out.2.2.2.1
  obtain ⟨m0, m1, m2⟩ := box3_facts Y5.out.2.2.2.2.1
  go_wp2_with fail
  refine bodyPost_ret (v := .tuple #[.agg #[.int .i64 (n : Int), .int .u64 (D : Int), .int .u64 (A : Int), .int .u64 (U : Int), .bool true, .int .i64 (fe : Int), .int .i64 (us : Int), .bool ev, .bool al], .int .i64 (-1), .agg #[.slice none 0 0, .int .u64 0, .int .u64 0], .bool false, .int .i64 0]) (by simp [results, Tryz.results17, go_sem, k0, k1, k2, k3, k4, k5, k6, k7, k8, m0, m1, m2]) rfl ?_
  exact ⟨rfl, Y5.out.1⟩

theorem dfetch_jmp {F : Nat → Prop} {w : World} {va : Option Addr} {nn vc : Nat} {bs : Nat → Nat × Nat} {M : Nat → Nat} (href : RefIn F w (.slice va nn vc) nn bs) (hgt : ∀ q, rget bs nn q = M q) (hle : ∀ a, M a ≤ 255) (hnn : nn ≤ 900000) {n D A U : Nat} {ev al : Bool} {fe us : Nat} (hg : Gd n D A U) (hfe : fe ≤ 65535) (hw : waitN M A fe ≠ 0) (hw2 : n < waitN M A fe) : Calls Tryz.prog 17 #[.agg #[.int .u64 8192, .slice va nn vc], .agg #[.int .i64 (n : Int), .int .u64 (D : Int), .int .u64 (A : Int), .int .u64 (U : Int), .bool true, .int .i64 (fe : Int), .int .i64 (us : Int), .bool ev, .bool al]] w fun r w' => r = .returned (.tuple #[.agg #[.int .i64 (n : Int), .int .u64 (D : Int), .int .u64 (A : Int), .int .u64 (U : Int), .bool true, .int .i64 (fe : Int), .int .i64 (us : Int), .bool ev, .bool al], .int .i64 (-1), .agg #[.slice none 0 0, .int .u64 0, .int .u64 0], .bool false, .int .i64 156]) ∧ Below w.heap.size w w' := by
  have XB : Hid (Dx w (((((w.alloc (.cells #[.int .u64 8192, .slice va nn vc] 33)).alloc (.cells #[.int .i64 (n : Int), .int .u64 (D : Int), .int .u64 (A : Int), .int .u64 (U : Int), .bool true, .int .i64 (fe : Int), .int .i64 (us : Int), .bool ev, .bool al] 27)).alloc (.cells #[.int .i64 0, .int .u64 0, .int .u64 0, .int .u64 0, .bool false, .int .i64 0, .int .i64 0, .bool false, .bool false] 27)).alloc (.cells #[.slice none 0 0, .int .u64 0, .int .u64 0] 64)).alloc (.cells #[.slice none 0 0, .int .u64 0, .int .u64 0] 64)) va nn vc (n : Int) D A U true fe us ev al #[.int .i64 0, .int .u64 0, .int .u64 0, .int .u64 0, .bool false, .int .i64 0, .int .i64 0, .bool false, .bool false] #[.slice none 0 0, .int .u64 0, .int .u64 0]) := dx_new
  have HC : Hid (Gd n D A U ∧ fe ≤ 65535 ∧ RefIn F w (.slice va nn vc) nn bs ∧ (∀ q, rget bs nn q = M q) ∧ (∀ a, M a ≤ 255) ∧ nn ≤ 900000) := ⟨hg, hfe, href, hgt, hle, hnn⟩
  obtain ⟨of, hof⟩ : ∃ of, wordN M (A + 2) 2 8192 = of := ⟨_, rfl⟩
  have HO : Hid (wordN M (A + 2) 2 8192 = of) := hof
  obtain ⟨o1, o2, wt, hwt, e1, e2, e3, e4, e8, e9⟩ := wait_facts hof hle hfe
  rw [hwt] at hw hw2
  have q1 : ((wt : Int) == 0) = false := int_ne0 hw
  have q2 : (n : Int) < (wt : Int) := Int.ofNat_lt.2 hw2
  clear href hgt hle hnn hfe hw hwt hof hg hw2
  go_enter Tryz.func17, Tryz.ntmps17
  go_upto_region 2 with fail
  generalize ((((w.alloc (.cells #[.int .u64 8192, .slice va nn vc] 33)).alloc (.cells #[.int .i64 (n : Int), .int .u64 (D : Int), .int .u64 (A : Int), .int .u64 (U : Int), .bool true, .int .i64 (fe : Int), .int .i64 (us : Int), .bool ev, .bool al] 27)).alloc (.cells #[.int .i64 0, .int .u64 0, .int .u64 0, .int .u64 0, .bool false, .int .i64 0, .int .i64 0, .bool false, .bool false] 27)).alloc (.cells #[.slice none 0 0, .int .u64 0, .int .u64 0] 64)).alloc (.cells #[.slice none 0 0, .int .u64 0, .int .u64 0] 64) = v0 at *
  obtain ⟨c0, c1, c2, c3, c4, c5, c6, c7, c8⟩ := box9_facts XB.out.2.2.1
  obtain ⟨r0, r1, _, _⟩ := box_facts XB.out.2.1
  go_upto_region 7 with (go_at_call 20; refine (rcheck_any HC.out.1.d1 (gd_bounds HC.out.1).2.1 (gd_bounds HC.out.1).2.2 8192 (by omega) va nn vc _).mono ?_; rintro e w1 ⟨rfl, hb1⟩; rw [HC.out.1.chk]; have X1 : Hid (Dx w w1 va nn vc (n : Int) D A U true fe us ev al #[.int .i64 0, .int .u64 0, .int .u64 0, .int .u64 0, .bool false, .int .i64 0, .int .i64 0, .bool false, .bool false] #[.slice none 0 0, .int .u64 0, .int .u64 0]) := XB.out.below hb1; clear hb1 XB c0 c1 c2 c3 c4 c5 c6 c7 c8 r0 r1; obtain ⟨c0, c1, c2, c3, c4, c5, c6, c7, c8⟩ := box9_facts X1.out.2.2.1; obtain ⟨r0, r1, _, _⟩ := box_facts X1.out.2.1)
  have X2 : Hid (Dx w w1.drew va nn vc (n : Int) D A U true fe us ev al #[.int .i64 0, .int .u64 0, .int .u64 0, .int .u64 0, .bool false, .int .i64 0, .int .i64 0, .bool false, .bool false] #[.slice none 0 0, .int .u64 0, .int .u64 0]) := X1.out.below (Below.drew (Below.refl _ _))
  go_region_held3 (fun Z => Z.cell? ⟨w.heap.size + 1, 0, none⟩ = some (.int .i64 (n : Int)) ∧ Z.cell? ⟨w.heap.size + 1, 1, none⟩ = some (.int .u64 (D : Int)) ∧ Z.cell? ⟨w.heap.size + 1, 2, none⟩ = some (.int .u64 (A : Int)) ∧ Z.cell? ⟨w.heap.size + 1, 3, none⟩ = some (.int .u64 (U : Int)) ∧ Z.cell? ⟨w.heap.size + 1, 4, none⟩ = some (.bool true) ∧ Z.cell? ⟨w.heap.size + 1, 5, none⟩ = some (.int .i64 (fe : Int)) ∧ Z.cell? ⟨w.heap.size + 1, 6, none⟩ = some (.int .i64 (us : Int)) ∧ Z.cell? ⟨w.heap.size + 1, 7, none⟩ = some (.bool ev) ∧ Z.cell? ⟨w.heap.size + 1, 8, none⟩ = some (.bool al) ∧ Z.cell? ⟨w.heap.size, 0, none⟩ = some (.int .u64 8192) ∧ Z.cell? ⟨w.heap.size, 1, none⟩ = some (.slice va nn vc)) (go_keep) (first | (go_at_call 47; refine (roffered_any (HC.out.2.2.1.below X2.out.1) HC.out.2.2.2.1 HC.out.2.2.2.2.1 (by have := HC.out.2.2.2.2.2; omega) HC.out.1).mono ?_; rintro e w2 ⟨rfl, hb2⟩; rw [HO.out]; have X3 : Hid (Dx w w2 va nn vc (n : Int) D A U true fe us ev al #[.int .i64 0, .int .u64 0, .int .u64 0, .int .u64 0, .bool false, .int .i64 0, .int .i64 0, .bool false, .bool false] #[.slice none 0 0, .int .u64 0, .int .u64 0]) := X2.out.below hb2; clear hb2; obtain ⟨d0, d1, d2, d3, d4, d5, d6, d7, d8⟩ := box9_facts X3.out.2.2.1; obtain ⟨s0, s1, _, _⟩ := box_facts X3.out.2.1))
  clear X1 X2 c0 c1 c2 c3 c4 c5 c6 c7 c8 r0 r1
  go_upto_region 11 with fail
  clear d0 d1 d2 d3 d4 d5 d6 d7 d8 s0 s1
  have Xd : Hid (Dx w w2.drew va nn vc (n : Int) D A U true fe us ev al #[.int .i64 0, .int .u64 0, .int .u64 0, .int .u64 0, .bool false, .int .i64 0, .int .i64 0, .bool false, .bool false] #[.slice none 0 0, .int .u64 0, .int .u64 0]) := X3.out.below (Below.drew (Below.refl _ _))
  refine wp_region_held_drew (S := fun Z => Z.cell? ⟨w.heap.size + 1, 0, none⟩ = some (.int .i64 (n : Int)) ∧ Z.cell? ⟨w.heap.size + 1, 1, none⟩ = some (.int .u64 (D : Int)) ∧ Z.cell? ⟨w.heap.size + 1, 2, none⟩ = some (.int .u64 (A : Int)) ∧ Z.cell? ⟨w.heap.size + 1, 3, none⟩ = some (.int .u64 (U : Int)) ∧ Z.cell? ⟨w.heap.size + 1, 4, none⟩ = some (.bool true) ∧ Z.cell? ⟨w.heap.size + 1, 5, none⟩ = some (.int .i64 (fe : Int)) ∧ Z.cell? ⟨w.heap.size + 1, 6, none⟩ = some (.int .i64 (us : Int)) ∧ Z.cell? ⟨w.heap.size + 1, 7, none⟩ = some (.bool ev) ∧ Z.cell? ⟨w.heap.size + 1, 8, none⟩ = some (.bool al) ∧ Z.cell? ⟨w.heap.size + 4, 0, none⟩ = some (.slice none 0 0) ∧ Z.cell? ⟨w.heap.size + 4, 1, none⟩ = some (.int .u64 0) ∧ Z.cell? ⟨w.heap.size + 4, 2, none⟩ = some (.int .u64 0)) (by kernel_rfl) ⟨cellOf Xd.out.2.2.1 0 _ rfl, cellOf Xd.out.2.2.1 1 _ rfl, cellOf Xd.out.2.2.1 2 _ rfl, cellOf Xd.out.2.2.1 3 _ rfl, cellOf Xd.out.2.2.1 4 _ rfl, cellOf Xd.out.2.2.1 5 _ rfl, cellOf Xd.out.2.2.1 6 _ rfl, cellOf Xd.out.2.2.1 7 _ rfl, cellOf Xd.out.2.2.1 8 _ rfl, cellOf Xd.out.2.2.2.2.2 0 _ rfl, cellOf Xd.out.2.2.2.2.2 1 _ rfl, cellOf Xd.out.2.2.2.2.2 2 _ rfl⟩ ?_
  intro hS
  clear X3
  generalize w2.drew = wd at *
  refine wpAnyH_take (i := 0) (v := ?_) rfl (by kernel_rfl) (by kernel_rfl) (by kernel_rfl) (fun _ _ _ h => h) (Or.inl ⟨by kernel_rfl, ?_⟩) hS ?_
  rotate_left
  · intro w hSw; (try dsimp only at hSw); go_simp; try (with_reducible rfl)
  (try simp only [Act.put, List.getElem_toArray, List.getElem_cons_succ, List.getElem_cons_zero, List.setIfInBounds_toArray, List.set_cons_zero, List.set_cons_succ])
  refine wpAnyH_take (i := 1) (v := ?_) rfl (by kernel_rfl) (by kernel_rfl) (by kernel_rfl) (fun _ _ _ h => h) (Or.inl ⟨by kernel_rfl, ?_⟩) hS ?_
  rotate_left
  · intro w hSw; (try dsimp only at hSw); go_simp; try (with_reducible rfl)
  (try simp only [Act.put, List.getElem_toArray, List.getElem_cons_succ, List.getElem_cons_zero, List.setIfInBounds_toArray, List.set_cons_zero, List.set_cons_succ])
  refine wpAnyH_ready (rs := [2]) (by kernel_rfl) (by simp) ?_
  refine AllReadyH.cons rfl (fun K1 hK1 => ?_) AllReadyH.nil
  rw [if_pos (by kernel_rfl)]
  refine wp_store_row 27 _ _ rfl (w.heap.size + 2) #[.int .i64 (n : Int), .int .u64 (D : Int), .int .u64 (A : Int), .int .u64 (U : Int), .bool true, .int .i64 (fe : Int), .int .i64 (us : Int), .bool ev, .bool al] rfl rfl 27 #[.int .i64 0, .int .u64 0, .int .u64 0, .int .u64 0, .bool false, .int .i64 0, .int .i64 0, .bool false, .bool false] Xd.out.2.2.2.1 infoDQ rfl (by simp [Value.oneCell']) ?_
  have Y4 : Hid (Dx w (wd.setRow (w.heap.size + 2) #[.int .i64 (n : Int), .int .u64 (D : Int), .int .u64 (A : Int), .int .u64 (U : Int), .bool true, .int .i64 (fe : Int), .int .i64 (us : Int), .bool ev, .bool al]) va nn vc (n : Int) D A U true fe us ev al #[.int .i64 (n : Int), .int .u64 (D : Int), .int .u64 (A : Int), .int .u64 (U : Int), .bool true, .int .i64 (fe : Int), .int .i64 (us : Int), .bool ev, .bool al] #[.slice none 0 0, .int .u64 0, .int .u64 0]) := Xd.out.set4 _
  clear Xd
  generalize wd.setRow (w.heap.size + 2) #[.int .i64 (n : Int), .int .u64 (D : Int), .int .u64 (A : Int), .int .u64 (U : Int), .bool true, .int .i64 (fe : Int), .int .i64 (us : Int), .bool ev, .bool al] = w4 at *
  refine hK1.out _ _ ⟨cellOf Y4.out.2.2.1 0 _ rfl, cellOf Y4.out.2.2.1 1 _ rfl, cellOf Y4.out.2.2.1 2 _ rfl, cellOf Y4.out.2.2.1 3 _ rfl, cellOf Y4.out.2.2.1 4 _ rfl, cellOf Y4.out.2.2.1 5 _ rfl, cellOf Y4.out.2.2.1 6 _ rfl, cellOf Y4.out.2.2.1 7 _ rfl, cellOf Y4.out.2.2.1 8 _ rfl, cellOf Y4.out.2.2.2.2.2 0 _ rfl, cellOf Y4.out.2.2.2.2.2 1 _ rfl, cellOf Y4.out.2.2.2.2.2 2 _ rfl⟩ (fun h4 => ?_)
  clear hK1 K1 hS
  (try simp only [Act.put, List.getElem_toArray, List.getElem_cons_succ, List.getElem_cons_zero, List.setIfInBounds_toArray, List.set_cons_zero, List.set_cons_succ])
  refine wpAnyH_take (i := 3) (v := ?_) rfl (by kernel_rfl) (by kernel_rfl) (by kernel_rfl) (fun _ _ _ h => h) (Or.inl ⟨by kernel_rfl, ?_⟩) h4 ?_
  rotate_left
  · intro w hSw; (try dsimp only at hSw); go_simp; try (with_reducible rfl)
  (try simp only [Act.put, List.getElem_toArray, List.getElem_cons_succ, List.getElem_cons_zero, List.setIfInBounds_toArray, List.set_cons_zero, List.set_cons_succ])
  refine wpAnyH_ready (rs := [4]) (by kernel_rfl) (by simp) ?_
  refine AllReadyH.cons rfl (fun K1 hK1 => ?_) AllReadyH.nil
  rw [if_pos (by kernel_rfl)]
  refine wp_store_row 64 _ _ rfl (w.heap.size + 3) #[.slice none 0 0, .int .u64 0, .int .u64 0] rfl rfl 64 #[.slice none 0 0, .int .u64 0, .int .u64 0] Y4.out.2.2.2.2.1 infoDC rfl (by simp [Value.oneCell']) ?_
  have Y5 : Hid (Dx w (w4.setRow (w.heap.size + 3) #[.slice none 0 0, .int .u64 0, .int .u64 0]) va nn vc (n : Int) D A U true fe us ev al #[.int .i64 (n : Int), .int .u64 (D : Int), .int .u64 (A : Int), .int .u64 (U : Int), .bool true, .int .i64 (fe : Int), .int .i64 (us : Int), .bool ev, .bool al] #[.slice none 0 0, .int .u64 0, .int .u64 0]) := Y4.out.set6 _
  clear Y4
  generalize w4.setRow (w.heap.size + 3) #[.slice none 0 0, .int .u64 0, .int .u64 0] = w5 at *
  refine hK1.out _ _ ⟨cellOf Y5.out.2.2.1 0 _ rfl, cellOf Y5.out.2.2.1 1 _ rfl, cellOf Y5.out.2.2.1 2 _ rfl, cellOf Y5.out.2.2.1 3 _ rfl, cellOf Y5.out.2.2.1 4 _ rfl, cellOf Y5.out.2.2.1 5 _ rfl, cellOf Y5.out.2.2.1 6 _ rfl, cellOf Y5.out.2.2.1 7 _ rfl, cellOf Y5.out.2.2.1 8 _ rfl, cellOf Y5.out.2.2.2.2.2 0 _ rfl, cellOf Y5.out.2.2.2.2.2 1 _ rfl, cellOf Y5.out.2.2.2.2.2 2 _ rfl⟩ (fun h5 => ?_)
  clear hK1 K1 h4
  (try simp only [Act.put, List.getElem_toArray, List.getElem_cons_succ, List.getElem_cons_zero, List.setIfInBounds_toArray, List.set_cons_zero, List.set_cons_succ])
  refine wpAnyH_take (i := 5) (v := ?_) rfl (by kernel_rfl) (by kernel_rfl) (by kernel_rfl) (fun _ _ _ h => h) (Or.inl ⟨by kernel_rfl, ?_⟩) h5 ?_
  rotate_left
  · intro w hSw; (try dsimp only at hSw); go_simp; try (with_reducible rfl)
  (try simp only [Act.put, List.getElem_toArray, List.getElem_cons_succ, List.getElem_cons_zero, List.setIfInBounds_toArray, List.set_cons_zero, List.set_cons_succ])
  refine wpAnyH_take (i := 6) (v := ?_) rfl (by kernel_rfl) (by kernel_rfl) (by kernel_rfl) (fun _ _ _ h => h) (Or.inl ⟨by kernel_rfl, ?_⟩) h5 ?_
  rotate_left
  · intro w hSw; (try dsimp only at hSw); go_simp; try (with_reducible rfl)
  (try simp only [Act.put, List.getElem_toArray, List.getElem_cons_succ, List.getElem_cons_zero, List.setIfInBounds_toArray, List.set_cons_zero, List.set_cons_succ])
  refine wpAnyH_done (by kernel_rfl) ?_ _
  clear h5
  obtain ⟨k0, k1, k2, k3, k4, k5, k6, k7, k8⟩ := box9_facts Y5.out.2.2.2.1
  obtain ⟨m0, m1, m2⟩ := box3_facts Y5.out.2.2.2.2.1
  go_wp2_with fail
  refine bodyPost_ret (v := .tuple #[.agg #[.int .i64 (n : Int), .int .u64 (D : Int), .int .u64 (A : Int), .int .u64 (U : Int), .bool true, .int .i64 (fe : Int), .int .i64 (us : Int), .bool ev, .bool al], .int .i64 (-1), .agg #[.slice none 0 0, .int .u64 0, .int .u64 0], .bool false, .int .i64 156]) (by simp [results, Tryz.results17, go_sem, k0, k1, k2, k3, k4, k5, k6, k7, k8, m0, m1, m2]) rfl ?_
  exact ⟨rfl, Y5.out.1⟩
end Go.Proofs.YtmjdnocilbnoaaaGreat

/- The document's Fetch, where a head comes. -/
namespace Go.Proofs.YtmjdnocilbnoaaaGreat
open Go.RowKit Go.Maps
set_option linter.unusedVariables false
set_option linter.unusedSimpArgs false
set_option maxRecDepth 100000
theorem seg_rise {C : Nat} {w : World} {v : Value} {l : List Seg} (h : SegIn 0 w v l) (hc : ∀ g, v.ownBlock = some g → C ≤ g) : SegIn C w v l := by
  refine ⟨h.1, ?_⟩
  rcases h.2 with hn | ⟨g, cap, cur, rfl, hb, rest⟩
  · exact .inl hn
  · exact .inr ⟨g, cap, cur, rfl, hc g rfl, rest⟩
theorem seg_set {B : Nat} {w : World} {v : Value} {l : List Seg} (h : SegIn B w v l) {q : Nat} (hq : q < B) (c : Array Value) : SegIn B (w.setRow q c) v l := h.kept (fun g hg => setRow_other _ _ _ _ (by have := (h.lt g hg).1; omega))
set_option maxHeartbeats 4000000 in
theorem dfetch_one {F : Nat → Prop} {w : World} {va : Option Addr} {nn vc : Nat} {bs : Nat → Nat × Nat} {M : Nat → Nat} (href : RefIn F w (.slice va nn vc) nn bs) (hgt : ∀ q, rget bs nn q = M q) (hle : ∀ a, M a ≤ 255) (hnn : nn ≤ 900000) {n D A U : Nat} {ev al : Bool} {fe us : Nat} (hg : Gd n D A U) (hfe : fe ≤ 65535) (hw : waitN M A fe ≠ 0) (hw2 : ¬ n < waitN M A fe) (h : Nat) (c : Cn) (hh : headN M n A fe = h) (hc : walkR M D n (h : Nat) al = c) : Calls Tryz.prog 17 #[.agg #[.int .u64 8192, .slice va nn vc], .agg #[.int .i64 (n : Int), .int .u64 (D : Int), .int .u64 (A : Int), .int .u64 (U : Int), .bool true, .int .i64 (fe : Int), .int .i64 (us : Int), .bool ev, .bool al]] w fun r w' => ∃ a1 c1, r = .returned (.tuple #[.agg #[.int .i64 (n : Int), .int .u64 (D : Int), .int .u64 (A : Int), .int .u64 (U : Int), .bool true, .int .i64 (upN fe : Int), .int .i64 (us : Int), .bool ev, .bool al], .int .i64 (h : Int), .agg #[.slice a1 c.l.length c1, .int .u64 (c.ta : Int), .int .u64 (c.tl : Int)], .bool ((c.e : Int) == 0), .int .i64 (c.e : Int)]) ∧ SegIn w.heap.size w' (.slice a1 c.l.length c1) c.l ∧ Below w.heap.size w w' := by
  have XB : Hid (Dx w (((((w.alloc (.cells #[.int .u64 8192, .slice va nn vc] 33)).alloc (.cells #[.int .i64 (n : Int), .int .u64 (D : Int), .int .u64 (A : Int), .int .u64 (U : Int), .bool true, .int .i64 (fe : Int), .int .i64 (us : Int), .bool ev, .bool al] 27)).alloc (.cells #[.int .i64 0, .int .u64 0, .int .u64 0, .int .u64 0, .bool false, .int .i64 0, .int .i64 0, .bool false, .bool false] 27)).alloc (.cells #[.slice none 0 0, .int .u64 0, .int .u64 0] 64)).alloc (.cells #[.slice none 0 0, .int .u64 0, .int .u64 0] 64)) va nn vc (n : Int) D A U true fe us ev al #[.int .i64 0, .int .u64 0, .int .u64 0, .int .u64 0, .bool false, .int .i64 0, .int .i64 0, .bool false, .bool false] #[.slice none 0 0, .int .u64 0, .int .u64 0]) := dx_new
  have HC : Hid (Gd n D A U ∧ fe ≤ 65535 ∧ RefIn F w (.slice va nn vc) nn bs ∧ (∀ q, rget bs nn q = M q) ∧ (∀ a, M a ≤ 255) ∧ nn ≤ 900000) := ⟨hg, hfe, href, hgt, hle, hnn⟩
  obtain ⟨of, hof⟩ : ∃ of, wordN M (A + 2) 2 8192 = of := ⟨_, rfl⟩
  have HO : Hid (wordN M (A + 2) 2 8192 = of) := hof
  obtain ⟨o1, o2, wt, hwt, e1, e2, e3, e4, e8, e9⟩ := wait_facts hof hle hfe
  have HDD : Hid (DDesc w va nn vc M) := ref_ddesc href hgt hle hnn
  rw [hwt] at hw hw2
  have q1 : ((wt : Int) == 0) = false := int_ne0 hw
  have q2 : ¬ (n : Int) < (wt : Int) := fun h => hw2 (Int.ofNat_lt.1 h)
  obtain ⟨f0, f1, hf1, e5, e6, e7⟩ := up_facts hfe
  rw [hf1]
  have HH : Hid (wordN M (A + 4 + 2 * (fe % n)) 2 8192 = h ∧ n ≤ 256 ∧ walkR M D n (h : Nat) al = c) := ⟨hh, hg.n2, hc⟩
  obtain ⟨cl, hcl⟩ : ∃ cl, c.l.length = cl := ⟨_, rfl⟩
  obtain ⟨ce, hce⟩ : ∃ ce, c.e = ce := ⟨_, rfl⟩
  obtain ⟨ta, hta⟩ : ∃ ta, c.ta = ta := ⟨_, rfl⟩
  obtain ⟨tl, htl⟩ : ∃ tl, c.tl = tl := ⟨_, rfl⟩
  have HCC : Hid (c.l.length = cl ∧ c.e = ce ∧ c.ta = ta ∧ c.tl = tl) := ⟨hcl, hce, hta, htl⟩
  rw [hcl, hce, hta, htl]
  clear href hgt hle hnn hfe hw hwt hof hg hw2 hf1 hh hc hcl hce hta htl
  go_enter Tryz.func17, Tryz.ntmps17
  go_upto_region 2 with fail
  generalize ((((w.alloc (.cells #[.int .u64 8192, .slice va nn vc] 33)).alloc (.cells #[.int .i64 (n : Int), .int .u64 (D : Int), .int .u64 (A : Int), .int .u64 (U : Int), .bool true, .int .i64 (fe : Int), .int .i64 (us : Int), .bool ev, .bool al] 27)).alloc (.cells #[.int .i64 0, .int .u64 0, .int .u64 0, .int .u64 0, .bool false, .int .i64 0, .int .i64 0, .bool false, .bool false] 27)).alloc (.cells #[.slice none 0 0, .int .u64 0, .int .u64 0] 64)).alloc (.cells #[.slice none 0 0, .int .u64 0, .int .u64 0] 64) = v0 at *
  obtain ⟨c0, c1, c2, c3, c4, c5, c6, c7, c8⟩ := box9_facts XB.out.2.2.1
  obtain ⟨r0, r1, _, _⟩ := box_facts XB.out.2.1
  go_upto_region 7 with (go_at_call 20; refine (rcheck_any HC.out.1.d1 (gd_bounds HC.out.1).2.1 (gd_bounds HC.out.1).2.2 8192 (by omega) va nn vc _).mono ?_; rintro e w1 ⟨rfl, hb1⟩; rw [HC.out.1.chk]; have X1 : Hid (Dx w w1 va nn vc (n : Int) D A U true fe us ev al #[.int .i64 0, .int .u64 0, .int .u64 0, .int .u64 0, .bool false, .int .i64 0, .int .i64 0, .bool false, .bool false] #[.slice none 0 0, .int .u64 0, .int .u64 0]) := XB.out.below hb1; clear hb1 XB c0 c1 c2 c3 c4 c5 c6 c7 c8 r0 r1; obtain ⟨c0, c1, c2, c3, c4, c5, c6, c7, c8⟩ := box9_facts X1.out.2.2.1; obtain ⟨r0, r1, _, _⟩ := box_facts X1.out.2.1)
  have X2 : Hid (Dx w w1.drew va nn vc (n : Int) D A U true fe us ev al #[.int .i64 0, .int .u64 0, .int .u64 0, .int .u64 0, .bool false, .int .i64 0, .int .i64 0, .bool false, .bool false] #[.slice none 0 0, .int .u64 0, .int .u64 0]) := X1.out.below (Below.drew (Below.refl _ _))
  go_region_held3 (fun Z => Z.cell? ⟨w.heap.size + 1, 0, none⟩ = some (.int .i64 (n : Int)) ∧ Z.cell? ⟨w.heap.size + 1, 1, none⟩ = some (.int .u64 (D : Int)) ∧ Z.cell? ⟨w.heap.size + 1, 2, none⟩ = some (.int .u64 (A : Int)) ∧ Z.cell? ⟨w.heap.size + 1, 3, none⟩ = some (.int .u64 (U : Int)) ∧ Z.cell? ⟨w.heap.size + 1, 4, none⟩ = some (.bool true) ∧ Z.cell? ⟨w.heap.size + 1, 5, none⟩ = some (.int .i64 (fe : Int)) ∧ Z.cell? ⟨w.heap.size + 1, 6, none⟩ = some (.int .i64 (us : Int)) ∧ Z.cell? ⟨w.heap.size + 1, 7, none⟩ = some (.bool ev) ∧ Z.cell? ⟨w.heap.size + 1, 8, none⟩ = some (.bool al) ∧ Z.cell? ⟨w.heap.size, 0, none⟩ = some (.int .u64 8192) ∧ Z.cell? ⟨w.heap.size, 1, none⟩ = some (.slice va nn vc)) (go_keep) (first | (go_at_call 47; refine (roffered_any (HC.out.2.2.1.below X2.out.1) HC.out.2.2.2.1 HC.out.2.2.2.2.1 (by have := HC.out.2.2.2.2.2; omega) HC.out.1).mono ?_; rintro e w2 ⟨rfl, hb2⟩; rw [HO.out]; have X3 : Hid (Dx w w2 va nn vc (n : Int) D A U true fe us ev al #[.int .i64 0, .int .u64 0, .int .u64 0, .int .u64 0, .bool false, .int .i64 0, .int .i64 0, .bool false, .bool false] #[.slice none 0 0, .int .u64 0, .int .u64 0]) := X2.out.below hb2; clear hb2; obtain ⟨d0, d1, d2, d3, d4, d5, d6, d7, d8⟩ := box9_facts X3.out.2.2.1; obtain ⟨s0, s1, _, _⟩ := box_facts X3.out.2.1))
  clear X1 X2 c0 c1 c2 c3 c4 c5 c6 c7 c8 r0 r1
  go_upto_region 13 with (go_at_call 48; refine (rhead_any (HC.out.2.2.1.below X3.out.1) HC.out.2.2.2.1 HC.out.2.2.2.2.1 (by have := HC.out.2.2.2.2.2; omega) HC.out.1 fe (fe % n) HC.out.2.1 rfl).mono ?_; rintro e w3 ⟨rfl, hb3⟩; rw [HH.out.1]; have X4 : Hid (Dx w w3 va nn vc (n : Int) D A U true fe us ev al #[.int .i64 0, .int .u64 0, .int .u64 0, .int .u64 0, .bool false, .int .i64 0, .int .i64 0, .bool false, .bool false] #[.slice none 0 0, .int .u64 0, .int .u64 0]) := X3.out.below hb3; clear hb3 X3 d0 d1 d2 d3 d4 d5 d6 d7 d8 s0 s1; obtain ⟨d0, d1, d2, d3, d4, d5, d6, d7, d8⟩ := box9_facts X4.out.2.2.1; have d5f := frozenOf X4.out.2.2.1 5)
  go_upto_region 14 with fail
  have X5 : Hid (Dx w (w3.setCell ⟨w.heap.size + 1, 5, none⟩ (.int .i64 (f1 : Int))) va nn vc (n : Int) D A U true f1 us ev al #[.int .i64 0, .int .u64 0, .int .u64 0, .int .u64 0, .bool false, .int .i64 0, .int .i64 0, .bool false, .bool false] #[.slice none 0 0, .int .u64 0, .int .u64 0]) := X4.out.one f1
  clear X4 d0 d1 d2 d3 d4 d5 d6 d7 d8 d5f
  generalize w3.setCell ⟨w.heap.size + 1, 5, none⟩ (.int .i64 (f1 : Int)) = w4 at *
  obtain ⟨d0, d1, d2, d3, d4, d5, d6, d7, d8⟩ := box9_facts X5.out.2.2.1
  obtain ⟨s0, s1, _, _⟩ := box_facts X5.out.2.1
  have KW : Hid (∀ V, Dx w V va nn vc (n : Int) D A U true f1 us ev al #[.int .i64 0, .int .u64 0, .int .u64 0, .int .u64 0, .bool false, .int .i64 0, .int .i64 0, .bool false, .bool false] #[.slice none 0 0, .int .u64 0, .int .u64 0] → Calls Tryz.prog 49 #[.agg #[.int .u64 8192, .slice va nn vc], .agg #[.int .i64 (n : Int), .int .u64 (D : Int), .int .u64 (A : Int), .int .u64 (U : Int)], .int .i64 (h : Int), .bool al] V fun e w' => ∃ a1 c1, e = .returned (.tuple #[.agg #[.slice a1 cl c1, .int .u64 (ta : Int), .int .u64 (tl : Int)], .int .i64 (ce : Int)]) ∧ SegIn (w.heap.size + 5) w' (.slice a1 cl c1) c.l ∧ Below V.heap.size V w') := by
    intro V hV
    have := dwalk_row HC.out.2.2.2.2.1 HDD.out n D A U HH.out.2.1 (h : Nat) al hV.1
    rw [HH.out.2.2, HCC.out.2.1, HCC.out.2.2.1, HCC.out.2.2.2] at this
    refine this.mono ?_
    rintro e w' ⟨a2, L2, c2, he, hs, hb, hro⟩
    obtain ⟨a3, c3, h3⟩ := hs.form
    rw [HCC.out.1] at h3
    simp only [Value.slice.injEq] at h3
    obtain ⟨rfl, rfl, rfl⟩ := h3
    exact ⟨_, _, he, seg_rise hs (fun g hg => by have h1 := hro g hg; have h2 := (Array.getElem?_eq_some_iff.1 hV.2.2.2.2.2).1; omega), hb⟩
  go_upto_region 15 with (go_at_call 49; refine (KW.out _ X5.out).mono ?_; rintro e w5 ⟨a1, c1, rfl, hs5, hb5⟩; have X6 : Hid (Dx w w5 va nn vc (n : Int) D A U true f1 us ev al #[.int .i64 0, .int .u64 0, .int .u64 0, .int .u64 0, .bool false, .int .i64 0, .int .i64 0, .bool false, .bool false] #[.slice none 0 0, .int .u64 0, .int .u64 0] ∧ SegIn (w.heap.size + 5) w5 (.slice a1 cl c1) c.l) := ⟨X5.out.below hb5, hs5⟩; clear hs5 hb5 X5 d0 d1 d2 d3 d4 d5 d6 d7 d8 s0 s1)
  have hb6 : Below w5.heap.size w5 (w5.alloc (.cells #[.slice a1 cl c1, .int .u64 (ta : Int), .int .u64 (tl : Int)] 64)) := one_box _ _
  have X7 : Hid (Dx w (w5.alloc (.cells #[.slice a1 cl c1, .int .u64 (ta : Int), .int .u64 (tl : Int)] 64)).drew va nn vc (n : Int) D A U true f1 us ev al #[.int .i64 0, .int .u64 0, .int .u64 0, .int .u64 0, .bool false, .int .i64 0, .int .i64 0, .bool false, .bool false] #[.slice none 0 0, .int .u64 0, .int .u64 0] ∧ (w5.alloc (.cells #[.slice a1 cl c1, .int .u64 (ta : Int), .int .u64 (tl : Int)] 64)).drew.heap[w5.heap.size]? = some (.cells #[.slice a1 cl c1, .int .u64 (ta : Int), .int .u64 (tl : Int)] 64 (0, 0)) ∧ SegIn (w.heap.size + 5) (w5.alloc (.cells #[.slice a1 cl c1, .int .u64 (ta : Int), .int .u64 (tl : Int)] 64)).drew (.slice a1 cl c1) c.l ∧ w.heap.size + 5 ≤ w5.heap.size) := ⟨(X6.out.1.below hb6).below (Below.drew (Below.refl _ _)), heap_alloc_new _ _, X6.out.2.kept (fun g hg => hb6.block g (X6.out.2.lt g hg).2), (Array.getElem?_eq_some_iff.1 X6.out.1.2.2.2.2.2).1⟩
  clear X6 hb6
  refine wp_region_held_drew (S := fun Z => Z.cell? ⟨w.heap.size + 1, 0, none⟩ = some (.int .i64 (n : Int)) ∧ Z.cell? ⟨w.heap.size + 1, 1, none⟩ = some (.int .u64 (D : Int)) ∧ Z.cell? ⟨w.heap.size + 1, 2, none⟩ = some (.int .u64 (A : Int)) ∧ Z.cell? ⟨w.heap.size + 1, 3, none⟩ = some (.int .u64 (U : Int)) ∧ Z.cell? ⟨w.heap.size + 1, 4, none⟩ = some (.bool true) ∧ Z.cell? ⟨w.heap.size + 1, 5, none⟩ = some (.int .i64 (f1 : Int)) ∧ Z.cell? ⟨w.heap.size + 1, 6, none⟩ = some (.int .i64 (us : Int)) ∧ Z.cell? ⟨w.heap.size + 1, 7, none⟩ = some (.bool ev) ∧ Z.cell? ⟨w.heap.size + 1, 8, none⟩ = some (.bool al) ∧ Z.cell? ⟨w5.heap.size, 0, none⟩ = some (.slice a1 cl c1) ∧ Z.cell? ⟨w5.heap.size, 1, none⟩ = some (.int .u64 (ta : Int)) ∧ Z.cell? ⟨w5.heap.size, 2, none⟩ = some (.int .u64 (tl : Int))) (by kernel_rfl) ⟨cellOf X7.out.1.2.2.1 0 _ rfl, cellOf X7.out.1.2.2.1 1 _ rfl, cellOf X7.out.1.2.2.1 2 _ rfl, cellOf X7.out.1.2.2.1 3 _ rfl, cellOf X7.out.1.2.2.1 4 _ rfl, cellOf X7.out.1.2.2.1 5 _ rfl, cellOf X7.out.1.2.2.1 6 _ rfl, cellOf X7.out.1.2.2.1 7 _ rfl, cellOf X7.out.1.2.2.1 8 _ rfl, cellOf X7.out.2.1 0 _ rfl, cellOf X7.out.2.1 1 _ rfl, cellOf X7.out.2.1 2 _ rfl⟩ ?_
  intro hS
  generalize (w5.alloc (.cells #[.slice a1 cl c1, .int .u64 (ta : Int), .int .u64 (tl : Int)] 64)).drew = wd at *
  generalize w5.heap.size = p at *
  refine wpAnyH_take (i := 0) (v := ?_) rfl (by kernel_rfl) (by kernel_rfl) (by kernel_rfl) (fun _ _ _ h => h) (Or.inl ⟨by kernel_rfl, ?_⟩) hS ?_
  rotate_left
  · intro w hSw; (try dsimp only at hSw); go_simp; try (with_reducible rfl)
  (try simp only [Act.put, List.getElem_toArray, List.getElem_cons_succ, List.getElem_cons_zero, List.setIfInBounds_toArray, List.set_cons_zero, List.set_cons_succ])
  refine wpAnyH_take (i := 1) (v := ?_) rfl (by kernel_rfl) (by kernel_rfl) (by kernel_rfl) (fun _ _ _ h => h) (Or.inl ⟨by kernel_rfl, ?_⟩) hS ?_
  rotate_left
  · intro w hSw; (try dsimp only at hSw); go_simp; try (with_reducible rfl)
  (try simp only [Act.put, List.getElem_toArray, List.getElem_cons_succ, List.getElem_cons_zero, List.setIfInBounds_toArray, List.set_cons_zero, List.set_cons_succ])
  refine wpAnyH_take (i := 2) (v := ?_) rfl (by kernel_rfl) (by kernel_rfl) (by kernel_rfl) (fun _ _ _ h => h) (Or.inl ⟨by kernel_rfl, ?_⟩) hS ?_
  rotate_left
  · intro w hSw; (try dsimp only at hSw); go_simp; try (with_reducible rfl)
  (try simp only [Act.put, List.getElem_toArray, List.getElem_cons_succ, List.getElem_cons_zero, List.setIfInBounds_toArray, List.set_cons_zero, List.set_cons_succ])
  refine wpAnyH_take (i := 3) (v := ?_) rfl (by kernel_rfl) (by kernel_rfl) (by kernel_rfl) (fun _ _ _ h => h) (Or.inl ⟨by kernel_rfl, ?_⟩) hS ?_
  rotate_left
  · intro w hSw; (try dsimp only at hSw); go_simp; try (with_reducible rfl)
  (try simp only [Act.put, List.getElem_toArray, List.getElem_cons_succ, List.getElem_cons_zero, List.setIfInBounds_toArray, List.set_cons_zero, List.set_cons_succ])
  refine wpAnyH_take (i := 4) (v := ?_) rfl (by kernel_rfl) (by kernel_rfl) (by kernel_rfl) (fun _ _ _ h => h) (Or.inl ⟨by kernel_rfl, ?_⟩) hS ?_
  rotate_left
  · intro w hSw; (try dsimp only at hSw); go_simp; try (with_reducible rfl)
  (try simp only [Act.put, List.getElem_toArray, List.getElem_cons_succ, List.getElem_cons_zero, List.setIfInBounds_toArray, List.set_cons_zero, List.set_cons_succ])
  refine wpAnyH_take (i := 5) (v := ?_) rfl (by kernel_rfl) (by kernel_rfl) (by kernel_rfl) (fun _ _ _ h => h) (Or.inl ⟨by kernel_rfl, ?_⟩) hS ?_
  rotate_left
  · intro w hSw; (try dsimp only at hSw); go_simp; try (with_reducible rfl)
  (try simp only [Act.put, List.getElem_toArray, List.getElem_cons_succ, List.getElem_cons_zero, List.setIfInBounds_toArray, List.set_cons_zero, List.set_cons_succ])
  refine wpAnyH_ready (rs := [6]) (by kernel_rfl) (by simp) ?_
  refine AllReadyH.cons rfl (fun K1 hK1 => ?_) AllReadyH.nil
  rw [if_pos (by kernel_rfl)]
  refine wp_store_row 27 _ _ rfl (w.heap.size + 2) #[.int .i64 (n : Int), .int .u64 (D : Int), .int .u64 (A : Int), .int .u64 (U : Int), .bool true, .int .i64 (f1 : Int), .int .i64 (us : Int), .bool ev, .bool al] rfl rfl 27 #[.int .i64 0, .int .u64 0, .int .u64 0, .int .u64 0, .bool false, .int .i64 0, .int .i64 0, .bool false, .bool false] X7.out.1.2.2.2.1 infoDQ rfl (by simp [Value.oneCell']) ?_
  have Y4 : Hid (Dx w (wd.setRow (w.heap.size + 2) #[.int .i64 (n : Int), .int .u64 (D : Int), .int .u64 (A : Int), .int .u64 (U : Int), .bool true, .int .i64 (f1 : Int), .int .i64 (us : Int), .bool ev, .bool al]) va nn vc (n : Int) D A U true f1 us ev al #[.int .i64 (n : Int), .int .u64 (D : Int), .int .u64 (A : Int), .int .u64 (U : Int), .bool true, .int .i64 (f1 : Int), .int .i64 (us : Int), .bool ev, .bool al] #[.slice none 0 0, .int .u64 0, .int .u64 0] ∧ (wd.setRow (w.heap.size + 2) #[.int .i64 (n : Int), .int .u64 (D : Int), .int .u64 (A : Int), .int .u64 (U : Int), .bool true, .int .i64 (f1 : Int), .int .i64 (us : Int), .bool ev, .bool al]).heap[p]? = some (.cells #[.slice a1 cl c1, .int .u64 (ta : Int), .int .u64 (tl : Int)] 64 (0, 0)) ∧ SegIn (w.heap.size + 5) (wd.setRow (w.heap.size + 2) #[.int .i64 (n : Int), .int .u64 (D : Int), .int .u64 (A : Int), .int .u64 (U : Int), .bool true, .int .i64 (f1 : Int), .int .i64 (us : Int), .bool ev, .bool al]) (.slice a1 cl c1) c.l ∧ w.heap.size + 5 ≤ p) := ⟨X7.out.1.set4 _, (setRow_other _ _ _ _ (by have := X7.out.2.2.2; omega)).trans X7.out.2.1, seg_set X7.out.2.2.1 (by omega) _, X7.out.2.2.2⟩
  clear X7
  generalize wd.setRow (w.heap.size + 2) #[.int .i64 (n : Int), .int .u64 (D : Int), .int .u64 (A : Int), .int .u64 (U : Int), .bool true, .int .i64 (f1 : Int), .int .i64 (us : Int), .bool ev, .bool al] = w6 at *
  refine hK1.out _ _ ⟨cellOf Y4.out.1.2.2.1 0 _ rfl, cellOf Y4.out.1.2.2.1 1 _ rfl, cellOf Y4.out.1.2.2.1 2 _ rfl, cellOf Y4.out.1.2.2.1 3 _ rfl, cellOf Y4.out.1.2.2.1 4 _ rfl, cellOf Y4.out.1.2.2.1 5 _ rfl, cellOf Y4.out.1.2.2.1 6 _ rfl, cellOf Y4.out.1.2.2.1 7 _ rfl, cellOf Y4.out.1.2.2.1 8 _ rfl, cellOf Y4.out.2.1 0 _ rfl, cellOf Y4.out.2.1 1 _ rfl, cellOf Y4.out.2.1 2 _ rfl⟩ (fun h4 => ?_)
  clear hK1 K1 hS
  (try simp only [Act.put, List.getElem_toArray, List.getElem_cons_succ, List.getElem_cons_zero, List.setIfInBounds_toArray, List.set_cons_zero, List.set_cons_succ])
  refine wpAnyH_take (i := 7) (v := ?_) rfl (by kernel_rfl) (by kernel_rfl) (by kernel_rfl) (fun _ _ _ h => h) (Or.inl ⟨by kernel_rfl, ?_⟩) h4 ?_
  rotate_left
  · intro w hSw; (try dsimp only at hSw); go_simp; try (with_reducible rfl)
  (try simp only [Act.put, List.getElem_toArray, List.getElem_cons_succ, List.getElem_cons_zero, List.setIfInBounds_toArray, List.set_cons_zero, List.set_cons_succ])
  refine wpAnyH_ready (rs := [8]) (by kernel_rfl) (by simp) ?_
  refine AllReadyH.cons rfl (fun K1 hK1 => ?_) AllReadyH.nil
  rw [if_pos (by kernel_rfl)]
  refine wp_store_row 64 _ _ rfl (w.heap.size + 3) #[.slice a1 cl c1, .int .u64 (ta : Int), .int .u64 (tl : Int)] rfl rfl 64 #[.slice none 0 0, .int .u64 0, .int .u64 0] Y4.out.1.2.2.2.2.1 infoDC rfl (by simp [Value.oneCell']) ?_
  have Y5 : Hid (Dx w (w6.setRow (w.heap.size + 3) #[.slice a1 cl c1, .int .u64 (ta : Int), .int .u64 (tl : Int)]) va nn vc (n : Int) D A U true f1 us ev al #[.int .i64 (n : Int), .int .u64 (D : Int), .int .u64 (A : Int), .int .u64 (U : Int), .bool true, .int .i64 (f1 : Int), .int .i64 (us : Int), .bool ev, .bool al] #[.slice a1 cl c1, .int .u64 (ta : Int), .int .u64 (tl : Int)] ∧ (w6.setRow (w.heap.size + 3) #[.slice a1 cl c1, .int .u64 (ta : Int), .int .u64 (tl : Int)]).heap[p]? = some (.cells #[.slice a1 cl c1, .int .u64 (ta : Int), .int .u64 (tl : Int)] 64 (0, 0)) ∧ SegIn (w.heap.size + 5) (w6.setRow (w.heap.size + 3) #[.slice a1 cl c1, .int .u64 (ta : Int), .int .u64 (tl : Int)]) (.slice a1 cl c1) c.l) := ⟨Y4.out.1.set6 _, (setRow_other _ _ _ _ (by have := Y4.out.2.2.2; omega)).trans Y4.out.2.1, seg_set Y4.out.2.2.1 (by omega) _⟩
  clear Y4
  generalize w6.setRow (w.heap.size + 3) #[.slice a1 cl c1, .int .u64 (ta : Int), .int .u64 (tl : Int)] = w7 at *
  refine hK1.out _ _ ⟨cellOf Y5.out.1.2.2.1 0 _ rfl, cellOf Y5.out.1.2.2.1 1 _ rfl, cellOf Y5.out.1.2.2.1 2 _ rfl, cellOf Y5.out.1.2.2.1 3 _ rfl, cellOf Y5.out.1.2.2.1 4 _ rfl, cellOf Y5.out.1.2.2.1 5 _ rfl, cellOf Y5.out.1.2.2.1 6 _ rfl, cellOf Y5.out.1.2.2.1 7 _ rfl, cellOf Y5.out.1.2.2.1 8 _ rfl, cellOf Y5.out.2.1 0 _ rfl, cellOf Y5.out.2.1 1 _ rfl, cellOf Y5.out.2.1 2 _ rfl⟩ (fun h5 => ?_)
  clear hK1 K1 h4
  (try simp only [Act.put, List.getElem_toArray, List.getElem_cons_succ, List.getElem_cons_zero, List.setIfInBounds_toArray, List.set_cons_zero, List.set_cons_succ])
  refine wpAnyH_take (i := 9) (v := ?_) rfl (by kernel_rfl) (by kernel_rfl) (by kernel_rfl) (fun _ _ _ h => h) (Or.inl ⟨by kernel_rfl, ?_⟩) h5 ?_
  rotate_left
  · intro w hSw; (try dsimp only at hSw); go_simp; try (with_reducible rfl)
  (try simp only [Act.put, List.getElem_toArray, List.getElem_cons_succ, List.getElem_cons_zero, List.setIfInBounds_toArray, List.set_cons_zero, List.set_cons_succ])
  refine wpAnyH_take (i := 10) (v := ?_) rfl (by kernel_rfl) (by kernel_rfl) (by kernel_rfl) (fun _ _ _ h => h) (Or.inl ⟨by kernel_rfl, ?_⟩) h5 ?_
  rotate_left
  · intro w hSw; (try dsimp only at hSw); go_simp; try (with_reducible rfl)
  (try simp only [Act.put, List.getElem_toArray, List.getElem_cons_succ, List.getElem_cons_zero, List.setIfInBounds_toArray, List.set_cons_zero, List.set_cons_succ])
  refine wpAnyH_done (by kernel_rfl) ?_ _
  clear h5
  obtain ⟨k0, k1, k2, k3, k4, k5, k6, k7, k8⟩ := box9_facts Y5.out.1.2.2.2.1
  obtain ⟨m0, m1, m2⟩ := box3_facts Y5.out.1.2.2.2.2.1
  go_wp2_with fail
  refine bodyPost_ret (v := .tuple #[.agg #[.int .i64 (n : Int), .int .u64 (D : Int), .int .u64 (A : Int), .int .u64 (U : Int), .bool true, .int .i64 (f1 : Int), .int .i64 (us : Int), .bool ev, .bool al], .int .i64 (h : Int), .agg #[.slice a1 cl c1, .int .u64 (ta : Int), .int .u64 (tl : Int)], .bool ((ce : Int) == 0), .int .i64 (ce : Int)]) (by simp [results, Tryz.results17, go_sem, k0, k1, k2, k3, k4, k5, k6, k7, k8, m0, m1, m2]) rfl ?_
  exact ⟨a1, c1, rfl, seg_base Y5.out.2.2 (by omega), Y5.out.1.1⟩
end Go.Proofs.YtmjdnocilbnoaaaGreat

/- The queue: a device is asked. -/
namespace Go.Proofs.YtmjdnocilbnoaaaGreat
open Go.RowKit Go.Maps
set_option linter.unusedVariables false
set_option linter.unusedSimpArgs false
set_option maxRecDepth 100000
theorem catch_idle (p q : Addr) (w : World) : CallsD Tryz.prog 112 #[.pointer (some p), .pointer (some q)] .returning w fun e u' w' => e = .returned (.tuple #[]) ∧ u' = .returning ∧ w' = w := by
  refine callsD_of_wpS Tryz.func112 rfl fun c₀ cs hu => ?_
  apply wpS_seq
  apply wpS_region
  simp [wpOpsS, go_sem, recoverD, hu, Tryz.ntmps112, Exit.thenS]
  refine wpS_cond (t := false) (by simp [Act.eval, Array.replicate]) ?_
  simp only [Bool.false_eq_true, if_false]
  refine wpS_of_wp (wp_skip ?_)
  cases c₀
  simp_all [bodyPostS, results, Tryz.results112]
/-- the three boxes of use -/
def Us (w V : World) (a : Option Addr) (L c ta tl : Nat) (x y : Value) : Prop := Below w.heap.size w V ∧ V.heap[w.heap.size]? = some (.cells #[.slice a L c, .int .u64 (ta : Int), .int .u64 (tl : Int)] 59 (0, 0)) ∧ V.heap[w.heap.size + 1]? = some (.cells #[x] 70 (0, 0)) ∧ V.heap[w.heap.size + 2]? = some (.cells #[y] 4 (0, 0))
theorem us_new (w : World) (a : Option Addr) (L c ta tl : Nat) : Us w (((w.alloc (.cells #[.slice a L c, .int .u64 (ta : Int), .int .u64 (tl : Int)] 59)).alloc (.cells #[.int .u32 0] 70)).alloc (.cells #[.bool false] 4)) a L c ta tl (.int .u32 0) (.bool false) := by
  have h := three_in w (.cells #[.slice a L c, .int .u64 (ta : Int), .int .u64 (tl : Int)] 59) (.cells #[.int .u32 0] 70) (.cells #[.bool false] 4)
  exact ⟨h.2.2.2, h.1, h.2.1, h.2.2.1⟩
theorem box1_facts {w : World} {b : Nat} {x0 : Value} {t : TypeId} (h : w.heap[b]? = some (.cells #[x0] t (0, 0))) : w.cell? ⟨b, 0, none⟩ = some x0 ∧ w.frozen? ⟨b, 0, none⟩ = false := ⟨cellOf h 0 _ rfl, frozenOf h 0⟩
theorem use_any {w : World} (df : Nat) (cap : Array Value) (hcf : ∀ (args : Array Value) (V : World), (callFunc df args).run Tryz.prog V = .ok (.enter df args) V) (a : Option Addr) (L c ta tl : Nat) (G : Nat → Prop) (hG : ∀ k, G k → k < w.heap.size)
    (P : (Nat → Prop) → World → Nat → Bool → Prop)
    (hP : ∀ G' V V' n o, P G' V n o → V.heap.size ≤ V'.heap.size → (∀ k, G' k → V'.heap[k]? = V.heap[k]?) → P G' V' n o)
    (hdev : ∀ V, Below w.heap.size w V → Calls Tryz.prog df (#[.agg #[.slice a L c, .int .u64 (ta : Int), .int .u64 (tl : Int)]] ++ cap) V fun e V' => ∃ (n : Nat) (o : Bool) (G' : Nat → Prop), e = .returned (.tuple #[.int .u32 (n : Int), .bool o]) ∧ Step G V G' V' ∧ P G' V' n o) :
    Calls Tryz.prog 97 #[.func (.func df) #[] cap, .agg #[.slice a L c, .int .u64 (ta : Int), .int .u64 (tl : Int)]] w fun e w' => ∃ (n : Nat) (o : Bool) (G' : Nat → Prop), e = .returned (.tuple #[.int .u32 (n : Int), .bool o]) ∧ Step G w G' w' ∧ P G' w' n o := by
  have hmf : ∀ (fn : Fn) (first cap : Array Value) (w : World), (Instr.makeFunc fn first cap).run Tryz.prog w = .ok (.func fn first cap) w := fun _ _ _ _ => rfl
  have U0 : Hid (Us w (((w.alloc (.cells #[.slice a L c, .int .u64 (ta : Int), .int .u64 (tl : Int)] 59)).alloc (.cells #[.int .u32 0] 70)).alloc (.cells #[.bool false] 4)) a L c ta tl (.int .u32 0) (.bool false)) := us_new w a L c ta tl
  have HD : Hid ((∀ k, G k → k < w.heap.size) ∧ (∀ G' V V' n o, P G' V n o → V.heap.size ≤ V'.heap.size → (∀ k, G' k → V'.heap[k]? = V.heap[k]?) → P G' V' n o) ∧ ∀ V, Below w.heap.size w V → Calls Tryz.prog df (#[.agg #[.slice a L c, .int .u64 (ta : Int), .int .u64 (tl : Int)]] ++ cap) V fun e V' => ∃ (n : Nat) (o : Bool) (G' : Nat → Prop), e = .returned (.tuple #[.int .u32 (n : Int), .bool o]) ∧ Step G V G' V' ∧ P G' V' n o) := ⟨hG, hP, hdev⟩
  clear hG hP hdev
  go_enter_defers Tryz.func97, Tryz.ntmps97
  go_upto_region 1 with fail
  generalize ((w.alloc (.cells #[.slice a L c, .int .u64 (ta : Int), .int .u64 (tl : Int)] 59)).alloc (.cells #[.int .u32 0] 70)).alloc (.cells #[.bool false] 4) = v0 at *
  obtain ⟨p0, p1, p2⟩ := box3_facts U0.out.2.1
  go_wp2_with fail
  refine (HD.out.2.2 _ U0.out.1).mono ?_
  rintro e w1 ⟨n, o, G', rfl, hs, hp⟩
  have U1 : Hid (Step G w G' w1 ∧ P G' w1 n o ∧ w1.heap[w.heap.size + 1]? = some (.cells #[.int .u32 0] 70 (0, 0)) ∧ w1.heap[w.heap.size + 2]? = some (.cells #[.bool false] 4 (0, 0)) ∧ ¬ G' (w.heap.size + 1) ∧ ¬ G' (w.heap.size + 2)) := by
    have n1 : ¬ G (w.heap.size + 1) := fun h => by have := HD.out.1 _ h; omega
    have n2 : ¬ G (w.heap.size + 2) := fun h => by have := HD.out.1 _ h; omega
    exact ⟨(Step.of_below U0.out.1).trans hs, hp, step_box hs U0.out.2.2.1 n1, step_box hs U0.out.2.2.2 n2, not_later hs (Array.getElem?_eq_some_iff.1 U0.out.2.2.1).1 n1, not_later hs (Array.getElem?_eq_some_iff.1 U0.out.2.2.2).1 n2⟩
  clear hs hp U0 p0 p1 p2
  obtain ⟨q0, q1⟩ := box1_facts U1.out.2.2.1
  obtain ⟨r0, r1⟩ := box1_facts U1.out.2.2.2.1
  go_wp2_with fail
  have U2 : Hid (Step G w G' ((w1.setCell ⟨w.heap.size + 1, 0, none⟩ (.int .u32 (n : Int))).setCell ⟨w.heap.size + 2, 0, none⟩ (.bool o)) ∧ P G' ((w1.setCell ⟨w.heap.size + 1, 0, none⟩ (.int .u32 (n : Int))).setCell ⟨w.heap.size + 2, 0, none⟩ (.bool o)) n o ∧ ((w1.setCell ⟨w.heap.size + 1, 0, none⟩ (.int .u32 (n : Int))).setCell ⟨w.heap.size + 2, 0, none⟩ (.bool o)).heap[w.heap.size + 1]? = some (.cells #[.int .u32 (n : Int)] 70 (0, 0)) ∧ ((w1.setCell ⟨w.heap.size + 1, 0, none⟩ (.int .u32 (n : Int))).setCell ⟨w.heap.size + 2, 0, none⟩ (.bool o)).heap[w.heap.size + 2]? = some (.cells #[.bool o] 4 (0, 0))) := by
    obtain ⟨u1, u2, u3, u4, u5, u6⟩ := U1.out
    have same : ∀ z, z ≠ w.heap.size + 1 → z ≠ w.heap.size + 2 → ((w1.setCell ⟨w.heap.size + 1, 0, none⟩ (.int .u32 (n : Int))).setCell ⟨w.heap.size + 2, 0, none⟩ (.bool o)).heap[z]? = w1.heap[z]? := fun z h1 h2 => (heap_setCell _ _ _ _ _ h2).trans (heap_setCell _ _ _ _ _ h1)
    refine ⟨⟨u1.os, u1.tape, u1.output, by simpa [World.setCell] using u1.size, fun z hz hn => (same z (by omega) (by omega)).trans (u1.block z hz hn), u1.old, u1.keep⟩, HD.out.2.1 _ _ _ _ _ u2 (by simp [World.setCell]) (fun z hz => same z (fun e => u5 (e ▸ hz)) (fun e => u6 (e ▸ hz))), (heap_setCell _ _ _ _ _ (by omega)).trans (set_box u3 0 _), set_box ((heap_setCell _ _ _ _ _ (by omega)).trans u4) 0 _⟩
  clear U1 q0 q1 r0 r1
  generalize (w1.setCell ⟨w.heap.size + 1, 0, none⟩ (.int .u32 (n : Int))).setCell ⟨w.heap.size + 2, 0, none⟩ (.bool o) = w2 at *
  refine leaves_cons (f := 112) (args := #[.pointer (some ⟨w.heap.size + 1, 0, none⟩), .pointer (some ⟨w.heap.size + 2, 0, none⟩)]) (by simp) (by simp [go_sem]) ?_
  refine (catch_idle _ _ _).mono ?_
  rintro e u' w3 ⟨rfl, rfl, rfl⟩
  obtain ⟨q0, q1⟩ := box1_facts U2.out.2.2.1
  obtain ⟨r0, r1⟩ := box1_facts U2.out.2.2.2
  exact ⟨.tuple #[.int .u32 (n : Int), .bool o], by simp [results, Tryz.results97, go_sem, q0, r0], n, o, G', rfl, U2.out.1, U2.out.2.1⟩
end Go.Proofs.YtmjdnocilbnoaaaGreat

/- The queue: a device, and a service under way. -/
namespace Go.Proofs.YtmjdnocilbnoaaaGreat
open Go.RowKit Go.Maps
set_option linter.unusedVariables false
set_option linter.unusedSimpArgs false
set_option maxRecDepth 100000
theorem fetch_non {w : World} {F : Nat → Prop} {rb k : Nat} {M : Nat → Nat} (hr : RamAt w F rb 8192 k (.pointer none) M) {qb : Nat} {s : Int} {D A U : Nat} {rd ev al : Bool} {fe us : Nat} (hq : w.heap[qb]? = some (.cells #[.int .i64 s, .int .u64 (D : Int), .int .u64 (A : Int), .int .u64 (U : Int), .bool rd, .int .u16 (fe : Int), .int .u16 (us : Int), .bool ev, .bool al] 40 (0, 0))) (hF : ¬ F qb) (hD : D < 18446744073709551616) (hA : A < 18446744073709551616) (hU : U < 18446744073709551616) (hfe : fe ≤ 65535) {e : Int} (h : fetchR M s D A U rd fe al = .non e) : Calls Tryz.prog 16 #[.pointer (some ⟨qb, 0, none⟩), .pointer (some ⟨rb, 0, none⟩)] w fun r w' => r = .returned (.tuple #[.agg #[.int .u16 0, .slice none 0 0, .int .u64 0, .int .u64 0], .bool false, .int .i64 e]) ∧ w'.heap[qb]? = some (.cells #[.int .i64 s, .int .u64 (D : Int), .int .u64 (A : Int), .int .u64 (U : Int), .bool rd, .int .u16 (fe : Int), .int .u16 (us : Int), .bool ev, .bool al] 40 (0, 0)) ∧ Step (fun k => k = qb) w (fun k => k = qb) w' := by
  cases rd with
  | false =>
    rw [fetch_idle] at h
    cases h
    exact fetch_off hr hq hF
  | true =>
    by_cases hc : chkN s D A U 8192 = 0
    case neg =>
      rw [fetch_bad hc] at h
      cases h
      exact fetch_chk hr hq hF hD hA hU hc
    case pos =>
      obtain ⟨n, rfl, hg⟩ := gd_of hc hD
      by_cases h1 : waitN M A fe = 0
      · rw [fetch_none hc h1] at h
        cases h
        exact fetch_wait hr hq hg hF hfe h1
      by_cases h2 : n < waitN M A fe
      · rw [fetch_jump hc h1 h2] at h
        cases h
        exact fetch_jmp hr hq hg hF hfe h1 h2
      rw [fetch_got hc h1 h2] at h
      cases h
/-- what holds where something was fetched -/
theorem got_facts {M : Nat → Nat} {s : Int} {D A U fe : Nat} {rd al : Bool} {h : Nat} {c : Cn} (hD : D < 18446744073709551616) (hf : fetchR M s D A U rd fe al = .got h c) : rd = true ∧ ∃ n : Nat, s = n ∧ Gd n D A U ∧ waitN M A fe ≠ 0 ∧ ¬ n < waitN M A fe ∧ headN M n A fe = h ∧ walkR M D n (h : Nat) al = c := by
  cases rd with
  | false => rw [fetch_idle] at hf; cases hf
  | true =>
    by_cases hc : chkN s D A U 8192 = 0
    case neg => rw [fetch_bad hc] at hf; cases hf
    case pos =>
      obtain ⟨n, rfl, hg⟩ := gd_of hc hD
      by_cases h1 : waitN M A fe = 0
      · rw [fetch_none hc h1] at hf; cases hf
      by_cases h2 : n < waitN M A fe
      · rw [fetch_jump hc h1 h2] at hf; cases hf
      rw [fetch_got hc h1 h2] at hf
      simp only [Ft.got.injEq] at hf
      obtain ⟨rfl, rfl⟩ := hf
      exact ⟨rfl, n, rfl, hg, h1, h2, rfl, rfl⟩
theorem fetch_any {w : World} {F : Nat → Prop} {rb k : Nat} {M : Nat → Nat} (hr : RamAt w F rb 8192 k (.pointer none) M) {qb : Nat} {s : Int} {D A U : Nat} {rd ev al : Bool} {fe us : Nat} (hq : w.heap[qb]? = some (.cells #[.int .i64 s, .int .u64 (D : Int), .int .u64 (A : Int), .int .u64 (U : Int), .bool rd, .int .u16 (fe : Int), .int .u16 (us : Int), .bool ev, .bool al] 40 (0, 0))) (hF : ¬ F qb) (hD : D < 18446744073709551616) (hA : A < 18446744073709551616) (hU : U < 18446744073709551616) (hfe : fe ≤ 65535) {h : Nat} {c : Cn} (hf : fetchR M s D A U rd fe al = .got h c) : Calls Tryz.prog 16 #[.pointer (some ⟨qb, 0, none⟩), .pointer (some ⟨rb, 0, none⟩)] w fun e w' => ∃ a1 c1, e = .returned (.tuple #[.agg #[.int .u16 (h : Int), .slice a1 c.l.length c1, .int .u64 (c.ta : Int), .int .u64 (c.tl : Int)], .bool ((c.e : Int) == 0), .int .i64 (c.e : Int)]) ∧ SegIn w.heap.size w' (.slice a1 c.l.length c1) c.l ∧ w'.heap[qb]? = some (.cells #[.int .i64 s, .int .u64 (D : Int), .int .u64 (A : Int), .int .u64 (U : Int), .bool rd, .int .u16 (upN fe : Int), .int .u16 (us : Int), .bool ev, .bool al] 40 (0, 0)) ∧ Step (fun k => k = qb) w (fun k => k = qb) w' := by
  obtain ⟨rfl, n, rfl, hg, h1, h2, h3, h4⟩ := got_facts hD hf
  exact fetch_one hr hq hg hF hfe h1 h2 h c h3 h4
theorem head_le {M : Nat → Nat} (hM : ∀ a, M a ≤ 255) {s : Int} {D A U fe : Nat} {rd al : Bool} {h : Nat} {c : Cn} (hD : D < 18446744073709551616) (hf : fetchR M s D A U rd fe al = .got h c) : h ≤ 65535 ∧ (∀ s ∈ c.l, SegOk s) ∧ c.l.length ≤ 1000 := by
  obtain ⟨rfl, n, rfl, hg, h1, h2, rfl, rfl⟩ := got_facts hD hf
  have := walk_all hM D n hg.n2 (headN M n A fe : Nat) al
  exact ⟨rd_lt hM _, this.1, Nat.le_trans this.2.1 (by decide)⟩
/-- A DEVICE: a function and what it has captured; dev: what it does to its state, to the memory, and what it says; I: how its state lies in the world, in blocks of its own -/
structure Dvc {σ : Type} (rb df : Nat) (cap : Array Value) (dev : σ → (Nat → Nat) → Nat → Cn → Option (σ × (Nat → Nat) × Nat)) (bud : σ → Nat) (I : σ → (Nat → Prop) → World → Prop) : Prop where
  cf : ∀ (args : Array Value) (V : World), (callFunc df args).run Tryz.prog V = .ok (.enter df args) V
  lt : ∀ {t : σ} {O : Nat → Prop} {w : World}, I t O w → ∀ k, O k → k < w.heap.size
  kept : ∀ {t : σ} {O : Nat → Prop} {w w' : World}, I t O w → w.heap.size ≤ w'.heap.size → (∀ k, O k → w'.heap[k]? = w.heap[k]?) → I t O w'
  no : ∀ {t : σ} {M : Nat → Nat} {h : Nat} {c : Cn} {F O : Nat → Prop} {κ : Nat} {w : World} {a : Option Addr} {cc : Nat}, dev t M h c = none → RamAt w F rb 8192 κ (.pointer none) M → I t O w → (∀ k, O k → ¬ F k) → SegIn 0 w (.slice a c.l.length cc) c.l → Calls Tryz.prog df (#[.agg #[.slice a c.l.length cc, .int .u64 (c.ta : Int), .int .u64 (c.tl : Int)]] ++ cap) w fun e w' => e = .returned (.tuple #[.int .u32 0, .bool false]) ∧ Below w.heap.size w w'
  le : ∀ {t : σ} {M : Nat → Nat} {h : Nat} {c : Cn} {t' : σ} {M' : Nat → Nat} {n : Nat}, dev t M h c = some (t', M', n) → (∀ s ∈ c.l, SegOk s) → n ≤ 4294967295
  yes : ∀ {t : σ} {M : Nat → Nat} {h : Nat} {c : Cn} {F O : Nat → Prop} {κ : Nat} {w : World} {a : Option Addr} {cc : Nat} {t' : σ} {M' : Nat → Nat} {n : Nat}, dev t M h c = some (t', M', n) → RamAt w F rb 8192 κ (.pointer none) M → κ + bud t ≤ 900000 → I t O w → (∀ k, O k → ¬ F k) → SegIn 0 w (.slice a c.l.length cc) c.l → (∀ g, (Value.slice a c.l.length cc).ownBlock = some g → ¬ F g ∧ ¬ O g) → c.l.length ≤ 1000 → (∀ s ∈ c.l, SegOk s) → Calls Tryz.prog df (#[.agg #[.slice a c.l.length cc, .int .u64 (c.ta : Int), .int .u64 (c.tl : Int)]] ++ cap) w fun e w' => e = .returned (.tuple #[.int .u32 (n : Int), .bool true]) ∧ ∃ (F' O' : Nat → Prop) (κ' : Nat), RamAt w' F' rb 8192 κ' (.pointer none) M' ∧ I t' O' w' ∧ (∀ k, O' k → ¬ F' k) ∧ Step (fun k => F k ∨ O k) w (fun k => F' k ∨ O' k) w' ∧ κ' + 10 + bud t' ≤ κ + bud t
/-- a service under way -/
def Gl {σ : Type} (I : σ → (Nat → Prop) → World → Prop) (bud : σ → Nat) (rb qb : Nat) (s : Int) (D A U : Nat) (rd ev al : Bool) (w0 : World) (F0 O0 : Nat → Prop) (wr : World) (t : σ) (M : Nat → Nat) (fe us : Nat) (F O : Nat → Prop) (κ : Nat) : Prop :=
  RamAt wr F rb 8192 κ (.pointer none) M ∧ wr.heap[qb]? = some (.cells #[.int .i64 s, .int .u64 (D : Int), .int .u64 (A : Int), .int .u64 (U : Int), .bool rd, .int .u16 (fe : Int), .int .u16 (us : Int), .bool ev, .bool al] 40 (0, 0)) ∧ I t O wr ∧ (∀ k, O k → ¬ F k ∧ k ≠ qb) ∧ ¬ F qb ∧ κ + bud t ≤ 900000 ∧ Step (fun k => (F0 k ∨ O0 k) ∨ k = qb) w0 (fun k => (F k ∨ O k) ∨ k = qb) wr
section
variable {σ : Type} {I : σ → (Nat → Prop) → World → Prop} {bud : σ → Nat} {rb qb df : Nat} {cap : Array Value} {dev : σ → (Nat → Nat) → Nat → Cn → Option (σ × (Nat → Nat) × Nat)} {s : Int} {n D A U : Nat} {rd ev al : Bool} {w0 wr w' : World} {F0 O0 F O F' O' : Nat → Prop} {t t' : σ} {M M' : Nat → Nat} {fe us fe' us' κ κ' : Nat}
theorem Gl.below (hd : Dvc rb df cap dev bud I) (h : Gl I bud rb qb s D A U rd ev al w0 F0 O0 wr t M fe us F O κ) (hb : Below wr.heap.size wr w') : Gl I bud rb qb s D A U rd ev al w0 F0 O0 w' t M fe us F O κ :=
  ⟨h.1.below hb, below_box h.2.1 hb, hd.kept h.2.2.1 hb.size (fun k hk => hb.block k (hd.lt h.2.2.1 k hk)), h.2.2.2.1, h.2.2.2.2.1, h.2.2.2.2.2.1, h.2.2.2.2.2.2.trans (Step.of_below hb)⟩
theorem Gl.q (hd : Dvc rb df cap dev bud I) (h : Gl I bud rb qb s D A U rd ev al w0 F0 O0 wr t M fe us F O κ) (hs : Step (fun k => k = qb) wr (fun k => k = qb) w') (hq : w'.heap[qb]? = some (.cells #[.int .i64 s, .int .u64 (D : Int), .int .u64 (A : Int), .int .u64 (U : Int), .bool rd, .int .u16 (fe' : Int), .int .u16 (us' : Int), .bool ev, .bool al] 40 (0, 0))) : Gl I bud rb qb s D A U rd ev al w0 F0 O0 w' t M fe' us' F O κ :=
  ⟨ram_q h.1 hs h.2.2.2.2.1, hq, hd.kept h.2.2.1 hs.size (fun k hk => hs.block k (hd.lt h.2.2.1 k hk) (h.2.2.2.1 k hk).2), h.2.2.2.1, h.2.2.2.2.1, h.2.2.2.2.2.1, h.2.2.2.2.2.2.trans (step_orR hs)⟩
theorem Gl.did (hd : Dvc rb df cap dev bud I) (h : Gl I bud rb qb s D A U rd ev al w0 F0 O0 wr t M fe us F O κ) (hr : RamAt w' F' rb 8192 κ' (.pointer none) M') (hi : I t' O' w') (hO : ∀ k, O' k → ¬ F' k) (hs : Step (fun k => F k ∨ O k) wr (fun k => F' k ∨ O' k) w') (hk : κ' + 10 + bud t' ≤ κ + bud t) : Gl I bud rb qb s D A U rd ev al w0 F0 O0 w' t' M' fe us F' O' κ' ∧ κ' + 10 + bud t' ≤ 900000 := by
  have hlt := (Array.getElem?_eq_some_iff.1 h.2.1).1
  have hn : ¬ (F qb ∨ O qb) := fun hc => hc.elim h.2.2.2.2.1 (fun ho => (h.2.2.2.1 qb ho).2 rfl)
  have hn2 := not_later hs hlt hn
  have h6 := h.2.2.2.2.2.1
  exact ⟨⟨hr, step_box hs h.2.1 hn, hi, fun k hk => ⟨hO k hk, fun e => hn2 (.inr (e ▸ hk))⟩, fun hf => hn2 (.inl hf), by omega, h.2.2.2.2.2.2.trans (step_q hs hlt)⟩, by omega⟩
theorem Gl.ret (hd : Dvc rb df cap dev bud I) (h : Gl I bud rb qb s D A U rd ev al w0 F0 O0 wr t M fe us F O κ) (hr : RamAt w' F' rb 8192 (κ + 10) (.pointer none) M') (hq : w'.heap[qb]? = some (.cells #[.int .i64 s, .int .u64 (D : Int), .int .u64 (A : Int), .int .u64 (U : Int), .bool rd, .int .u16 (fe : Int), .int .u16 (us' : Int), .bool ev, .bool al] 40 (0, 0))) (hs : Step (fun k => F k ∨ k = qb) wr (fun k => F' k ∨ k = qb) w') (hqF : ¬ F' qb) (hk : κ + 10 + bud t ≤ 900000) : Gl I bud rb qb s D A U rd ev al w0 F0 O0 w' t M' fe us' F' O (κ + 10) := by
  have hn : ∀ k, O k → ¬ (F k ∨ k = qb) := fun k hk hc => hc.elim (h.2.2.2.1 k hk).1 (h.2.2.2.1 k hk).2
  have hlt := fun k hk => hd.lt h.2.2.1 k hk
  refine ⟨hr, hq, hd.kept h.2.2.1 hs.size (fun k hk => hs.block k (hlt k hk) (hn k hk)), fun k hk => ⟨fun hf => not_later hs (hlt k hk) (hn k hk) (.inl hf), (h.2.2.2.1 k hk).2⟩, hqF, hk, h.2.2.2.2.2.2.trans ?_⟩
  · exact ⟨hs.os, hs.tape, hs.output, hs.size, fun k hk hc => hs.block k hk (fun hd => hc (hd.elim (fun hf => .inl (.inl hf)) .inr)), fun k hk => by
      rcases hk with (hk | hk) | hk
      · exact (hs.old k (.inl hk)).imp (fun h => h.elim (fun hf => .inl (.inl hf)) .inr) id
      · exact .inl (.inl (.inr hk))
      · exact .inl (.inr hk), fun k hk => by
      rcases hk with (hk | hk) | hk
      · exact (hs.keep k (.inl hk)).elim (fun hf => .inl (.inl hf)) .inr
      · exact .inl (.inr hk)
      · exact .inr hk⟩
end
end Go.Proofs.YtmjdnocilbnoaaaGreat

/- The statements' right and Of. -/
namespace Go.Proofs.YtmjdnocilbnoaaaGreat
open Go.RowKit Go.Maps
set_option linter.unusedVariables false
set_option linter.unusedSimpArgs false
set_option maxRecDepth 100000
def inQ (fi ui : Int) : Prop := 0 ≤ fi ∧ fi < 65536 ∧ 0 ≤ ui ∧ ui < 65536
theorem inQ_nat {fi ui : Int} (h : inQ fi ui) : ∃ fe us : Nat, fi = (fe : Int) ∧ ui = (us : Int) ∧ fe ≤ 65535 ∧ us ≤ 65535 := by
  obtain ⟨h1, h2, h3, h4⟩ := h
  exact ⟨fi.toNat, ui.toNat, by omega, by omega, by omega, by omega⟩
theorem right_no {w : World} {s : Int} {D A U : Nat} {rd ev al : Bool} {fi ui : Int} (h : ¬ inQ fi ui) : Calls Tryz.prog 8 #[.agg #[.int .i64 s, .int .u64 (D : Int), .int .u64 (A : Int), .int .u64 (U : Int), .bool rd, .int .i64 fi, .int .i64 ui, .bool ev, .bool al]] w fun e w' => e = .returned (.bool false) ∧ Below w.heap.size w w' := by
  have X : Hid ((w.alloc (.cells #[.int .i64 s, .int .u64 (D : Int), .int .u64 (A : Int), .int .u64 (U : Int), .bool rd, .int .i64 fi, .int .i64 ui, .bool ev, .bool al] 27)).heap[w.heap.size]? = some (.cells #[.int .i64 s, .int .u64 (D : Int), .int .u64 (A : Int), .int .u64 (U : Int), .bool rd, .int .i64 fi, .int .i64 ui, .bool ev, .bool al] 27 (0, 0)) ∧ Below w.heap.size w (w.alloc (.cells #[.int .i64 s, .int .u64 (D : Int), .int .u64 (A : Int), .int .u64 (U : Int), .bool rd, .int .i64 fi, .int .i64 ui, .bool ev, .bool al] 27))) := ⟨heap_alloc_new _ _, one_box _ _⟩
  have h' : ¬ (0 ≤ fi ∧ fi < 65536 ∧ 0 ≤ ui ∧ ui < 65536) := h
  have key : (¬ 0 ≤ fi) ∨ (0 ≤ fi ∧ ¬ fi < 65536) ∨ (0 ≤ fi ∧ fi < 65536 ∧ ¬ 0 ≤ ui) ∨ (0 ≤ fi ∧ fi < 65536 ∧ 0 ≤ ui ∧ ¬ ui < 65536) := by omega
  clear h h'
  rcases key with h1 | ⟨h1, h2⟩ | ⟨h1, h2, h3⟩ | ⟨h1, h2, h3, h4⟩
  all_goals
    go_enter Tryz.func8, Tryz.ntmps8
    go_upto_region 1 with fail
    generalize w.alloc (.cells #[.int .i64 s, .int .u64 (D : Int), .int .u64 (A : Int), .int .u64 (U : Int), .bool rd, .int .i64 fi, .int .i64 ui, .bool ev, .bool al] 27) = v0 at *
    obtain ⟨c0, c1, c2, c3, c4, c5, c6, c7, c8⟩ := box9_facts X.out.1
    go_wp2_with fail
    go_ret
    exact ⟨rfl, X.out.2⟩
theorem right_yes {w : World} {s : Int} {D A U : Nat} {rd ev al : Bool} {fe us : Nat} (hf : fe ≤ 65535) (hu : us ≤ 65535) : Calls Tryz.prog 8 #[.agg #[.int .i64 s, .int .u64 (D : Int), .int .u64 (A : Int), .int .u64 (U : Int), .bool rd, .int .i64 (fe : Int), .int .i64 (us : Int), .bool ev, .bool al]] w fun e w' => e = .returned (.bool true) ∧ Below w.heap.size w w' := by
  have X : Hid ((w.alloc (.cells #[.int .i64 s, .int .u64 (D : Int), .int .u64 (A : Int), .int .u64 (U : Int), .bool rd, .int .i64 (fe : Int), .int .i64 (us : Int), .bool ev, .bool al] 27)).heap[w.heap.size]? = some (.cells #[.int .i64 s, .int .u64 (D : Int), .int .u64 (A : Int), .int .u64 (U : Int), .bool rd, .int .i64 (fe : Int), .int .i64 (us : Int), .bool ev, .bool al] 27 (0, 0)) ∧ Below w.heap.size w (w.alloc (.cells #[.int .i64 s, .int .u64 (D : Int), .int .u64 (A : Int), .int .u64 (U : Int), .bool rd, .int .i64 (fe : Int), .int .i64 (us : Int), .bool ev, .bool al] 27))) := ⟨heap_alloc_new _ _, one_box _ _⟩
  have h1 : (0 : Int) ≤ (fe : Int) := by omega
  have h2 : (fe : Int) < 65536 := by omega
  have h3 : (0 : Int) ≤ (us : Int) := by omega
  have h4 : (us : Int) < 65536 := by omega
  clear hf hu
  go_enter Tryz.func8, Tryz.ntmps8
  go_upto_region 1 with fail
  generalize w.alloc (.cells #[.int .i64 s, .int .u64 (D : Int), .int .u64 (A : Int), .int .u64 (U : Int), .bool rd, .int .i64 (fe : Int), .int .i64 (us : Int), .bool ev, .bool al] 27) = v0 at *
  obtain ⟨c0, c1, c2, c3, c4, c5, c6, c7, c8⟩ := box9_facts X.out.1
  go_wp2_with fail
  go_ret
  exact ⟨rfl, X.out.2⟩
theorem infoQ : (Tryz.prog.info? 40).map (·.size) = some 9 := by kernel_rfl
theorem u16_id {m : Nat} (h : m ≤ 65535) : IntKind.u16.wrap (m : Int) = (m : Int) := by
  simp only [IntKind.wrap, IntKind.signed, IntKind.bits]
  simp
  try omega
theorem lawOf_any {w : World} {s : Int} {D A U : Nat} {rd ev al : Bool} {fe us : Nat} (hf : fe ≤ 65535) (hu : us ≤ 65535) : Calls Tryz.prog 10 #[.agg #[.int .i64 s, .int .u64 (D : Int), .int .u64 (A : Int), .int .u64 (U : Int), .bool rd, .int .i64 (fe : Int), .int .i64 (us : Int), .bool ev, .bool al]] w fun e w' => e = .returned (.agg #[.int .i64 s, .int .u64 (D : Int), .int .u64 (A : Int), .int .u64 (U : Int), .bool rd, .int .u16 (fe : Int), .int .u16 (us : Int), .bool ev, .bool al]) ∧ Below w.heap.size w w' := by
  have h2 := two_in w (.cells #[.int .i64 s, .int .u64 (D : Int), .int .u64 (A : Int), .int .u64 (U : Int), .bool rd, .int .i64 (fe : Int), .int .i64 (us : Int), .bool ev, .bool al] 27) (.cells #[.int .i64 0, .int .u64 0, .int .u64 0, .int .u64 0, .bool false, .int .u16 0, .int .u16 0, .bool false, .bool false] 40)
  have hb : Below w.heap.size w ((w.alloc (.cells #[.int .i64 s, .int .u64 (D : Int), .int .u64 (A : Int), .int .u64 (U : Int), .bool rd, .int .i64 (fe : Int), .int .i64 (us : Int), .bool ev, .bool al] 27)).alloc (.cells #[.int .i64 0, .int .u64 0, .int .u64 0, .int .u64 0, .bool false, .int .u16 0, .int .u16 0, .bool false, .bool false] 40)) := ((Below.refl _ _).alloc (Nat.le_refl _) _).alloc (by simp) _
  have X : Hid (((w.alloc (.cells #[.int .i64 s, .int .u64 (D : Int), .int .u64 (A : Int), .int .u64 (U : Int), .bool rd, .int .i64 (fe : Int), .int .i64 (us : Int), .bool ev, .bool al] 27)).alloc (.cells #[.int .i64 0, .int .u64 0, .int .u64 0, .int .u64 0, .bool false, .int .u16 0, .int .u16 0, .bool false, .bool false] 40)).heap[w.heap.size]? = some (.cells #[.int .i64 s, .int .u64 (D : Int), .int .u64 (A : Int), .int .u64 (U : Int), .bool rd, .int .i64 (fe : Int), .int .i64 (us : Int), .bool ev, .bool al] 27 (0, 0)) ∧ ((w.alloc (.cells #[.int .i64 s, .int .u64 (D : Int), .int .u64 (A : Int), .int .u64 (U : Int), .bool rd, .int .i64 (fe : Int), .int .i64 (us : Int), .bool ev, .bool al] 27)).alloc (.cells #[.int .i64 0, .int .u64 0, .int .u64 0, .int .u64 0, .bool false, .int .u16 0, .int .u16 0, .bool false, .bool false] 40)).heap[w.heap.size + 1]? = some (.cells #[.int .i64 0, .int .u64 0, .int .u64 0, .int .u64 0, .bool false, .int .u16 0, .int .u16 0, .bool false, .bool false] 40 (0, 0)) ∧ Below w.heap.size w ((w.alloc (.cells #[.int .i64 s, .int .u64 (D : Int), .int .u64 (A : Int), .int .u64 (U : Int), .bool rd, .int .i64 (fe : Int), .int .i64 (us : Int), .bool ev, .bool al] 27)).alloc (.cells #[.int .i64 0, .int .u64 0, .int .u64 0, .int .u64 0, .bool false, .int .u16 0, .int .u16 0, .bool false, .bool false] 40))) := ⟨h2.1, h2.2, hb⟩
  have e1 := u16_id hf
  have e2 := u16_id hu
  clear hf hu h2 hb
  go_enter Tryz.func10, Tryz.ntmps10
  go_upto_region 1 with fail
  generalize (w.alloc (.cells #[.int .i64 s, .int .u64 (D : Int), .int .u64 (A : Int), .int .u64 (U : Int), .bool rd, .int .i64 (fe : Int), .int .i64 (us : Int), .bool ev, .bool al] 27)).alloc (.cells #[.int .i64 0, .int .u64 0, .int .u64 0, .int .u64 0, .bool false, .int .u16 0, .int .u16 0, .bool false, .bool false] 40) = v0 at *
  obtain ⟨c0, c1, c2, c3, c4, c5, c6, c7, c8⟩ := box9_facts X.out.1
  refine wp_region_list ?_
  (refine wpList_step (fun KK hKK => ?_); go_simp; refine hKK _ _ ?_; clear hKK KK)
  (refine wpList_step (fun KK hKK => ?_); go_simp; refine hKK _ _ ?_; clear hKK KK)
  (refine wpList_step (fun KK hKK => ?_); go_simp; refine hKK _ _ ?_; clear hKK KK)
  (refine wpList_step (fun KK hKK => ?_); go_simp; refine hKK _ _ ?_; clear hKK KK)
  (refine wpList_step (fun KK hKK => ?_); go_simp; refine hKK _ _ ?_; clear hKK KK)
  (refine wpList_step (fun KK hKK => ?_); go_simp; refine hKK _ _ ?_; clear hKK KK)
  (refine wpList_step (fun KK hKK => ?_); go_simp; refine hKK _ _ ?_; clear hKK KK)
  (refine wpList_step (fun KK hKK => ?_); go_simp; refine hKK _ _ ?_; clear hKK KK)
  (refine wpList_step (fun KK hKK => ?_); go_simp; refine hKK _ _ ?_; clear hKK KK)
  (refine wpList_step (fun KK hKK => ?_); go_simp; refine hKK _ _ ?_; clear hKK KK)
  (refine wpList_step (fun KK hKK => ?_); go_simp; refine hKK _ _ ?_; clear hKK KK)
  (refine wpList_step (fun KK hKK => ?_); go_simp; refine hKK _ _ ?_; clear hKK KK)
  (refine wpList_step (fun KK hKK => ?_); go_simp; refine hKK _ _ ?_; clear hKK KK)
  (refine wpList_step (fun KK hKK => ?_); go_simp; refine hKK _ _ ?_; clear hKK KK)
  (refine wpList_step (fun KK hKK => ?_); go_simp; refine hKK _ _ ?_; clear hKK KK)
  refine wpList_store_row rfl 40 _ _ rfl (w.heap.size + 1) #[.int .i64 s, .int .u64 (D : Int), .int .u64 (A : Int), .int .u64 (U : Int), .bool rd, .int .u16 (fe : Int), .int .u16 (us : Int), .bool ev, .bool al] rfl rfl 40 #[.int .i64 0, .int .u64 0, .int .u64 0, .int .u64 0, .bool false, .int .u16 0, .int .u16 0, .bool false, .bool false] X.out.2.1 infoQ rfl (by simp [Value.oneCell']) ?_
  have Y : Hid ((v0.setRow (w.heap.size + 1) #[.int .i64 s, .int .u64 (D : Int), .int .u64 (A : Int), .int .u64 (U : Int), .bool rd, .int .u16 (fe : Int), .int .u16 (us : Int), .bool ev, .bool al]).heap[w.heap.size + 1]? = some (.cells #[.int .i64 s, .int .u64 (D : Int), .int .u64 (A : Int), .int .u64 (U : Int), .bool rd, .int .u16 (fe : Int), .int .u16 (us : Int), .bool ev, .bool al] 40 (0, 0)) ∧ Below w.heap.size w (v0.setRow (w.heap.size + 1) #[.int .i64 s, .int .u64 (D : Int), .int .u64 (A : Int), .int .u64 (U : Int), .bool rd, .int .u16 (fe : Int), .int .u16 (us : Int), .bool ev, .bool al])) := ⟨setRow_heap _ _ _ _ _ _ X.out.2.1, below_setRow X.out.2.2 (by omega) _⟩
  clear X c0 c1 c2 c3 c4 c5 c6 c7 c8
  generalize v0.setRow (w.heap.size + 1) #[.int .i64 s, .int .u64 (D : Int), .int .u64 (A : Int), .int .u64 (U : Int), .bool rd, .int .u16 (fe : Int), .int .u16 (us : Int), .bool ev, .bool al] = w9 at *
  obtain ⟨k0, k1, k2, k3, k4, k5, k6, k7, k8⟩ := box9_facts Y.out.1
  go_wp2_with fail
  refine bodyPost_ret (v := .agg #[.int .i64 s, .int .u64 (D : Int), .int .u64 (A : Int), .int .u64 (U : Int), .bool rd, .int .u16 (fe : Int), .int .u16 (us : Int), .bool ev, .bool al]) (by simp [results, Tryz.results10, go_sem, k0, k1, k2, k3, k4, k5, k6, k7, k8]) rfl ?_
  exact ⟨rfl, Y.out.2⟩
end Go.Proofs.YtmjdnocilbnoaaaGreat

/- What stays while a statement runs; Fetch on both sides. -/
namespace Go.Proofs.YtmjdnocilbnoaaaGreat
open Go.RowKit Go.Maps
set_option linter.unusedVariables false
set_option linter.unusedSimpArgs false
set_option maxRecDepth 100000
/-- boxes that stay, while blocks of G change -/
def Kq (W V : World) (G : Nat → Prop) (L : List (Nat × Obj)) : Prop := Below W.heap.size W V ∧ (∀ x ∈ L, V.heap[x.1]? = some x.2 ∧ ¬ G x.1) ∧ (∀ k, G k → W.heap.size ≤ k)
theorem Kq.step {W V V' : World} {G G' : Nat → Prop} {L : List (Nat × Obj)} (h : Kq W V G L) (hs : Step G V G' V') : Kq W V' G' L :=
  ⟨h.1.trans (hs.below h.1.size h.2.2), fun x hx => ⟨step_box hs (h.2.1 x hx).1 (h.2.1 x hx).2, not_later hs (Array.getElem?_eq_some_iff.1 (h.2.1 x hx).1).1 (h.2.1 x hx).2⟩, fun k hk => by
    rcases hs.old k hk with h1 | h1
    · exact h.2.2 k h1
    · exact Nat.le_trans h.1.size h1⟩
theorem Kq.add {W V : World} {G : Nat → Prop} {L : List (Nat × Obj)} (h : Kq W V G L) {q : Nat} {o : Obj} (hq : V.heap[q]? = some o) (hn : ¬ G q) : Kq W V G ((q, o) :: L) :=
  ⟨h.1, fun x hx => by
    rcases List.mem_cons.1 hx with rfl | hx
    · exact ⟨hq, hn⟩
    · exact h.2.1 x hx, h.2.2⟩
/-- .. and a memory that stays, and the document's bytes -/
def Ss (W V : World) (G : Nat → Prop) (L : List (Nat × Obj)) (rb2 : Nat) (F2 : Nat → Prop) (M : Nat → Nat) (a : Option Addr) (n c : Nat) (bs : Nat → Nat × Nat) : Prop := Kq W V G L ∧ (RamAt V F2 rb2 8192 12000 (.pointer none) M ∧ ∀ k, F2 k → ¬ G k) ∧ RefIn G V (.slice a n c) n bs
section
variable {W V V' : World} {G G' F2 : Nat → Prop} {L : List (Nat × Obj)} {rb2 : Nat} {M : Nat → Nat} {a : Option Addr} {n c : Nat} {bs : Nat → Nat × Nat}
theorem Ss.step (h : Ss W V G L rb2 F2 M a n c bs) (hs : Step G V G' V') : Ss W V' G' L rb2 F2 M a n c bs :=
  ⟨h.1.step hs, ⟨h.2.1.1.kept hs.size (fun k hk => hs.block k (h.2.1.1.lt k hk) (h.2.1.2 k hk)), fun k hk => not_later hs (h.2.1.1.lt k hk) (h.2.1.2 k hk)⟩, h.2.2.step hs⟩
theorem Ss.below (h : Ss W V G L rb2 F2 M a n c bs) (hb : Below V.heap.size V V') : Ss W V' G L rb2 F2 M a n c bs := h.step (Step.of_below hb)
theorem Ss.add (h : Ss W V G L rb2 F2 M a n c bs) {q : Nat} {o : Obj} (hq : V.heap[q]? = some o) (hn : ¬ G q) : Ss W V G ((q, o) :: L) rb2 F2 M a n c bs := ⟨h.1.add hq hn, h.2⟩
theorem Ss.at (h : Ss W V G L rb2 F2 M a n c bs) {q : Nat} {o : Obj} (hm : (q, o) ∈ L) : V.heap[q]? = some o := (h.1.2.1 _ hm).1
theorem Ss.not (h : Ss W V G L rb2 F2 M a n c bs) {q : Nat} {o : Obj} (hm : (q, o) ∈ L) : ¬ G q := (h.1.2.1 _ hm).2
end
theorem dfetch_non {F : Nat → Prop} {w : World} {va : Option Addr} {nn vc : Nat} {bs : Nat → Nat × Nat} {M : Nat → Nat} (href : RefIn F w (.slice va nn vc) nn bs) (hgt : ∀ q, rget bs nn q = M q) (hle : ∀ a, M a ≤ 255) (hnn : nn ≤ 900000) {s : Int} {D A U : Nat} {rd ev al : Bool} {fe us : Nat} (hD : D < 18446744073709551616) (hA : A < 18446744073709551616) (hU : U < 18446744073709551616) (hfe : fe ≤ 65535) {e : Int} (h : fetchR M s D A U rd fe al = .non e) : Calls Tryz.prog 17 #[.agg #[.int .u64 8192, .slice va nn vc], .agg #[.int .i64 s, .int .u64 (D : Int), .int .u64 (A : Int), .int .u64 (U : Int), .bool rd, .int .i64 (fe : Int), .int .i64 (us : Int), .bool ev, .bool al]] w fun r w' => r = .returned (.tuple #[.agg #[.int .i64 s, .int .u64 (D : Int), .int .u64 (A : Int), .int .u64 (U : Int), .bool rd, .int .i64 (fe : Int), .int .i64 (us : Int), .bool ev, .bool al], .int .i64 (-1), .agg #[.slice none 0 0, .int .u64 0, .int .u64 0], .bool false, .int .i64 e]) ∧ Below w.heap.size w w' := by
  cases rd with
  | false =>
    rw [fetch_idle] at h
    cases h
    exact dfetch_off
  | true =>
    by_cases hc : chkN s D A U 8192 = 0
    case neg =>
      rw [fetch_bad hc] at h
      cases h
      exact dfetch_chk hD hA hU hc
    case pos =>
      obtain ⟨n, rfl, hg⟩ := gd_of hc hD
      by_cases h1 : waitN M A fe = 0
      · rw [fetch_none hc h1] at h
        cases h
        exact dfetch_wait href hgt hle hnn hg hfe h1
      by_cases h2 : n < waitN M A fe
      · rw [fetch_jump hc h1 h2] at h
        cases h
        exact dfetch_jmp href hgt hle hnn hg hfe h1 h2
      rw [fetch_got hc h1 h2] at h
      cases h
theorem dfetch_any {F : Nat → Prop} {w : World} {va : Option Addr} {nn vc : Nat} {bs : Nat → Nat × Nat} {M : Nat → Nat} (href : RefIn F w (.slice va nn vc) nn bs) (hgt : ∀ q, rget bs nn q = M q) (hle : ∀ a, M a ≤ 255) (hnn : nn ≤ 900000) {s : Int} {D A U : Nat} {rd ev al : Bool} {fe us : Nat} (hD : D < 18446744073709551616) (hfe : fe ≤ 65535) {h : Nat} {c : Cn} (hf : fetchR M s D A U rd fe al = .got h c) : Calls Tryz.prog 17 #[.agg #[.int .u64 8192, .slice va nn vc], .agg #[.int .i64 s, .int .u64 (D : Int), .int .u64 (A : Int), .int .u64 (U : Int), .bool rd, .int .i64 (fe : Int), .int .i64 (us : Int), .bool ev, .bool al]] w fun r w' => ∃ a1 c1, r = .returned (.tuple #[.agg #[.int .i64 s, .int .u64 (D : Int), .int .u64 (A : Int), .int .u64 (U : Int), .bool rd, .int .i64 (upN fe : Int), .int .i64 (us : Int), .bool ev, .bool al], .int .i64 (h : Int), .agg #[.slice a1 c.l.length c1, .int .u64 (c.ta : Int), .int .u64 (c.tl : Int)], .bool ((c.e : Int) == 0), .int .i64 (c.e : Int)]) ∧ SegIn w.heap.size w' (.slice a1 c.l.length c1) c.l ∧ Below w.heap.size w w' := by
  obtain ⟨rfl, n, rfl, hg, h1, h2, h3, h4⟩ := got_facts hD hf
  exact dfetch_one href hgt hle hnn hg hfe h1 h2 h c h3 h4
theorem ref_or {F : Nat → Prop} {V : World} {a : Option Addr} {n c q : Nat} {bs : Nat → Nat × Nat} (h : RefIn F V (.slice a n c) n bs) (hq : ∀ z, (Value.slice a n c).ownBlock = some z → 0 < n → z ≠ q) : RefIn (fun k => F k ∨ k = q) V (.slice a n c) n bs := by
  rcases h with h | ⟨g, cc, he, hF, hc⟩
  · exact .inl h
  · by_cases h0 : n = 0
    · subst h0
      exact .inl ⟨rfl, a, c, rfl⟩
    · exact .inr ⟨g, cc, he, fun hx => hx.elim hF (fun e => hq g (by rw [he]; rfl) (by omega) e), hc⟩
end Go.Proofs.YtmjdnocilbnoaaaGreat
