/- Texts put together. -/
import Derived.Test.YtmjdnocilbnoaaaGreatYk
import Derived.Test.YtmjdnocilbnoaaaGreatYa
import Derived.Test.YtmjdnocilbnoaaaGreatYb
import Derived.ProofKit
import Derived.OpenShut
import Derived.Deep.Slices
/- The document's Serve. -/
namespace Go.Proofs.YtmjdnocilbnoaaaGreat
open Go.RowKit Go.Maps
set_option linter.unusedVariables false
set_option linter.unusedSimpArgs false
set_option maxRecDepth 100000
theorem infoInt : (Tryz.prog.info? 3).map (fun i => (i.zero, i.size, i.bytes)) = some (some (.int .i64 0), 1, 8) := by kernel_rfl
theorem seg_no_box {w : World} {v : Value} {l : List Seg} {q : Nat} {cc : Array Value} {B : Nat} (h : SegIn B w v l) (hq : v.ownBlock = some q) (hb : w.heap[q]? = some (.cells cc 27 (0, 0))) : False := by
  rcases h.2 with ⟨rfl, _⟩ | ⟨g, cap, cur, rfl, _, hg, _⟩
  · cases hq
  · have : g = q := by simpa [Value.ownBlock] using hq
    subst this
    rw [hb] at hg
    simp at hg
theorem row_types {w : World} {q : Nat} {c1 c2 : Array Value} (h1 : w.heap[q]? = some (.cells c1 64 (0, 0))) (h2 : w.heap[q]? = some (.cells c2 27 (0, 0))) : False := by
  rw [h1] at h2
  simp at h2

set_option maxHeartbeats 8000000 in
theorem dserve_good {F : Nat → Prop} {w : World} {va : Option Addr} {nn vc : Nat} {bs : Nat → Nat × Nat} {M : Nat → Nat} (href : RefIn F w (.slice va nn vc) nn bs) (hgt : ∀ q, rget bs nn q = M q) (hle : ∀ a, M a ≤ 255) (hnn : nn ≤ 900000) (hF : ∀ k, F k → k < w.heap.size) (hrg : Rng bs nn 8192) {n D A U : Nat} {ev al : Bool} {fe0 u0 : Nat} (hg : Gd n D A U) (hfe : fe0 ≤ 65535) (hus : u0 ≤ 65535) (b t0 : Nat) (hb : b ≤ 255) (ht : t0 ≤ 40) (hn12 : nn ≤ 12000) (R : Gv Nat) (hR : giveR (devF b) (n : Int) D A U true al 65537 t0 M fe0 u0 = R) :
    Calls Tryz.prog 12 #[.agg #[.int .u64 8192, .slice va nn vc], .agg #[.int .i64 (n : Int), .int .u64 (D : Int), .int .u64 (A : Int), .int .u64 (U : Int), .bool true, .int .i64 (fe0 : Int), .int .i64 (u0 : Int), .bool ev, .bool al], .int .u8 (b : Int), .int .i64 (t0 : Int)] w fun r w' => ∃ ya yn yc ys ha m hc, r = .returned (.agg #[.int .u64 8192, .slice ya yn yc, .int .i64 (n : Int), .int .u64 (D : Int), .int .u64 (A : Int), .int .u64 (U : Int), .bool true, .int .i64 (R.fe : Int), .int .i64 (R.us : Int), .bool ev, .bool al, .slice ha m hc, .bool (tellB (endM R n U ev) n A R.us u0 ev), .int .i64 R.e]) ∧ yn ≤ 190000 ∧ RefIn F w' (.slice ya yn yc) yn ys ∧ (∀ q, rget ys yn q = (endM R n U ev) q) ∧ Rng ys yn 8192 ∧ Below w.heap.size w w' := by
  obtain ⟨i0, hi0, hz0, hz1, hz2⟩ := info_parts infoInt
  have XB : Hid (Hs w (((w.alloc (.cells #[.int .u64 8192, .slice va nn vc] 33)).alloc (.cells #[.int .i64 (n : Int), .int .u64 (D : Int), .int .u64 (A : Int), .int .u64 (U : Int), .bool true, .int .i64 (fe0 : Int), .int .i64 (u0 : Int), .bool ev, .bool al] 27)).alloc (.cells #[.int .u64 0, .slice none 0 0, .int .i64 0, .int .u64 0, .int .u64 0, .int .u64 0, .bool false, .int .i64 0, .int .i64 0, .bool false, .bool false, .slice none 0 0, .bool false, .int .i64 0] 48)) F va nn vc bs (n : Int) D A U true fe0 u0 ev al none 0 0 [] #[.int .u64 0, .slice none 0 0, .int .i64 0, .int .u64 0, .int .u64 0, .int .u64 0, .bool false, .int .i64 0, .int .i64 0, .bool false, .bool false, .slice none 0 0, .bool false, .int .i64 0]) := hs_new href
  have HC : Hid (Gd n D A U ∧ u0 ≤ 65535 ∧ b ≤ 255 ∧ t0 ≤ 40 ∧ (∀ k, F k → k < w.heap.size)) := ⟨hg, hus, hb, ht, hF⟩
  have H0 : Hid ((∀ q, rget bs nn q = M q) ∧ (∀ a, M a ≤ 255) ∧ Rng bs nn 8192 ∧ nn ≤ 12000 ∧ fe0 ≤ 65535 ∧ giveR (devF b) (n : Int) D A U true al 65537 t0 M fe0 u0 = R) := ⟨hgt, hle, hrg, hn12, hfe, hR⟩
  clear href hgt hle hnn hF hrg hg hfe hus hb ht hn12 hR
  go_enter Tryz.func12, Tryz.ntmps12
  go_upto_region 1 with fail
  generalize ((w.alloc (.cells #[.int .u64 8192, .slice va nn vc] 33)).alloc (.cells #[.int .i64 (n : Int), .int .u64 (D : Int), .int .u64 (A : Int), .int .u64 (U : Int), .bool true, .int .i64 (fe0 : Int), .int .i64 (u0 : Int), .bool ev, .bool al] 27)).alloc (.cells #[.int .u64 0, .slice none 0 0, .int .i64 0, .int .u64 0, .int .u64 0, .int .u64 0, .bool false, .int .i64 0, .int .i64 0, .bool false, .bool false, .slice none 0 0, .bool false, .int .i64 0] 48) = v0 at *
  obtain ⟨c0, c1, c2, c3, c4, c5, c6, c7, c8⟩ := box9_facts XB.out.2.2.1
  obtain ⟨r0, r1, _, _⟩ := box_facts XB.out.2.1
  go_wp2_with fail
  clear c0 c1 c2 c3 c4 c5 c6 c7 c8 r0 r1
  go_loopw [3, 10, 11] (fun vt hv x wr => ∃ (i j t : Nat) (hs : List Value) (M : Nat → Nat) (fe us : Nat) (xa : Option Addr) (xn xc : Nat) (xs : Nat → Nat × Nat) (ha : Option Addr) (m hc : Nat), vt = .int .i64 (t : Int) ∧ hv = .slice ha m hc ∧ x = .int .i64 (i : Int) ∧ i + t = t0 ∧ i + j = 65537 ∧ m = i ∧ fe ≤ 65535 ∧ us ≤ 65535 ∧ xn + 4010 * t ≤ 180000 ∧ (∀ q, rget xs xn q = M q) ∧ (∀ a, M a ≤ 255) ∧ Rng xs xn 8192 ∧ Hs w wr F xa xn xc xs (n : Int) D A U true fe us ev al ha m hc hs #[.int .u64 0, .slice none 0 0, .int .i64 0, .int .u64 0, .int .u64 0, .int .u64 0, .bool false, .int .i64 0, .int .i64 0, .bool false, .bool false, .slice none 0 0, .bool false, .int .i64 0] ∧ giveR (devF b) (n : Int) D A U true al j t M fe us = R) (fun vt _ _ _ => (intOf vt).toNat)
  case atStart => exact ⟨0, 65537, t0, [], M, fe0, u0, va, nn, vc, bs, none, 0, 0, rfl, rfl, rfl, by omega, rfl, rfl, H0.out.2.2.2.2.1, HC.out.2.1, by have := H0.out.2.2.2.1; have := HC.out.2.2.2.1; omega, H0.out.1, H0.out.2.1, H0.out.2.2.1, XB.out, H0.out.2.2.2.2.2⟩
  case round =>
    clear XB H0
    obtain ⟨i, j, t, hs, M, fe, us, xa, xn, xc, xs, ha, m, hc, rfl, rfl, rfl, hit, hij, hmi, hfe, hus, hxn, hgt, hle, hrg, hx, hR⟩ := hrel
    have ht0 := HC.out.2.2.2.1
    obtain ⟨j, rfl⟩ : ∃ j', j = j' + 1 := ⟨j - 1, by omega⟩
    obtain ⟨hi, l, ta, tl, bo, e, f1, hf1, hKF, hcase⟩ := dstep hle HC.out.1 hfe hR
    have HM : Hid (xn ≤ 190000 ∧ (∀ q, rget xs xn q = M q) ∧ (∀ a, M a ≤ 255) ∧ Rng xs xn 8192 ∧ us ≤ 65535) := ⟨by omega, hgt, hle, hrg, hus⟩
    have KF : Hid (∀ V F', RefIn F' V (.slice xa xn xc) xn xs → Calls Tryz.prog 17 #[.agg #[.int .u64 8192, .slice xa xn xc], .agg #[.int .i64 (n : Int), .int .u64 (D : Int), .int .u64 (A : Int), .int .u64 (U : Int), .bool true, .int .i64 (fe : Int), .int .i64 (us : Int), .bool ev, .bool al]] V fun r w' => ∃ a1 c1, r = .returned (.tuple #[.agg #[.int .i64 (n : Int), .int .u64 (D : Int), .int .u64 (A : Int), .int .u64 (U : Int), .bool true, .int .i64 (f1 : Int), .int .i64 (us : Int), .bool ev, .bool al], .int .i64 hi, .agg #[.slice a1 l.length c1, .int .u64 (ta : Int), .int .u64 (tl : Int)], .bool bo, .int .i64 e]) ∧ SegIn V.heap.size w' (.slice a1 l.length c1) l ∧ Below V.heap.size V w') := fun V F' hV => hKF V F' _ _ _ _ _ hV hgt (by omega)
    have X : Hid (Hs w wr F xa xn xc xs (n : Int) D A U true fe us ev al ha m hc hs #[.int .u64 0, .slice none 0 0, .int .i64 0, .int .u64 0, .int .u64 0, .int .u64 0, .bool false, .int .i64 0, .int .i64 0, .bool false, .bool false, .slice none 0 0, .bool false, .int .i64 0]) := hx
    have HI : Hid (i + t = t0 ∧ i + (j + 1) = 65537 ∧ m = i ∧ xn + 4010 * t ≤ 180000 ∧ f1 ≤ 65535 ∧ fe ≤ 65535) := ⟨hit, hij, hmi, hxn, hf1, hfe⟩
    have HK : Hid ((e ≠ 0 ∧ R = ⟨t, M, f1, us, e⟩) ∨ (e = 0 ∧ (bo = false ∨ t = 0) ∧ R = ⟨t, M, fe, us, 0⟩) ∨ (e = 0 ∧ bo = true ∧ t ≠ 0 ∧ f1 = upN fe ∧ ∃ h : Nat, hi = (h : Int) ∧ h ≤ 65535 ∧ l.length ≤ 1000 ∧ (∀ s ∈ l, SegOk s) ∧ giveR (devF b) (n : Int) D A U true al j (t - 1) (retM (fillM b l M) n U us h (cntN l)) f1 (upN us) = R)) := hcase
    obtain ⟨L, hL⟩ : ∃ L, l.length = L := ⟨_, rfl⟩
    rw [hL] at KF
    have HL : Hid (l.length = L) := hL
    have hi40 : i ≤ 40 := by omega
    have q0 : (i : Int) ≤ 65536 := by omega
    clear hcase hKF hL hit hij hmi hxn hf1 hfe hgt hle hrg hus hx hR ht0
    obtain ⟨c0, c1', c2, c3, c4, c5, c6, c7, c8⟩ := box9_facts X.out.2.2.1
    obtain ⟨r0, r1, _, _⟩ := box_facts X.out.2.1
    go_upto_region 7 with (go_at_call 17; refine (KF.out _ _ X.out.2.2.2.2.1).mono ?_; rintro r wf ⟨a1, c1, rfl, hsf, hbf⟩; have Xf : Hid (Hs w wf F xa xn xc xs (n : Int) D A U true fe us ev al ha m hc hs #[.int .u64 0, .slice none 0 0, .int .i64 0, .int .u64 0, .int .u64 0, .int .u64 0, .bool false, .int .i64 0, .int .i64 0, .bool false, .bool false, .slice none 0 0, .bool false, .int .i64 0] ∧ SegIn 0 wf (.slice a1 L c1) l) := ⟨X.out.below hbf, seg_down hsf⟩; clear hsf hbf X KF c0 c1' c2 c3 c4 c5 c6 c7 c8 r0 r1)
    have hb7 : Below wf.heap.size wf ((wf.alloc (.cells #[.int .i64 (n : Int), .int .u64 (D : Int), .int .u64 (A : Int), .int .u64 (U : Int), .bool true, .int .i64 (f1 : Int), .int .i64 (us : Int), .bool ev, .bool al] 27)).alloc (.cells #[.slice a1 L c1, .int .u64 (ta : Int), .int .u64 (tl : Int)] 64)) := ((Below.refl _ _).alloc (Nat.le_refl _) _).alloc (by simp) _
    have h7 := two_in wf (.cells #[.int .i64 (n : Int), .int .u64 (D : Int), .int .u64 (A : Int), .int .u64 (U : Int), .bool true, .int .i64 (f1 : Int), .int .i64 (us : Int), .bool ev, .bool al] 27) (.cells #[.slice a1 L c1, .int .u64 (ta : Int), .int .u64 (tl : Int)] 64)
    have X : Hid (Hs w ((wf.alloc (.cells #[.int .i64 (n : Int), .int .u64 (D : Int), .int .u64 (A : Int), .int .u64 (U : Int), .bool true, .int .i64 (f1 : Int), .int .i64 (us : Int), .bool ev, .bool al] 27)).alloc (.cells #[.slice a1 L c1, .int .u64 (ta : Int), .int .u64 (tl : Int)] 64)) F xa xn xc xs (n : Int) D A U true fe us ev al ha m hc hs #[.int .u64 0, .slice none 0 0, .int .i64 0, .int .u64 0, .int .u64 0, .int .u64 0, .bool false, .int .i64 0, .int .i64 0, .bool false, .bool false, .slice none 0 0, .bool false, .int .i64 0] ∧ SegIn 0 ((wf.alloc (.cells #[.int .i64 (n : Int), .int .u64 (D : Int), .int .u64 (A : Int), .int .u64 (U : Int), .bool true, .int .i64 (f1 : Int), .int .i64 (us : Int), .bool ev, .bool al] 27)).alloc (.cells #[.slice a1 L c1, .int .u64 (ta : Int), .int .u64 (tl : Int)] 64)) (.slice a1 L c1) l ∧ ((wf.alloc (.cells #[.int .i64 (n : Int), .int .u64 (D : Int), .int .u64 (A : Int), .int .u64 (U : Int), .bool true, .int .i64 (f1 : Int), .int .i64 (us : Int), .bool ev, .bool al] 27)).alloc (.cells #[.slice a1 L c1, .int .u64 (ta : Int), .int .u64 (tl : Int)] 64)).heap[wf.heap.size]? = some (.cells #[.int .i64 (n : Int), .int .u64 (D : Int), .int .u64 (A : Int), .int .u64 (U : Int), .bool true, .int .i64 (f1 : Int), .int .i64 (us : Int), .bool ev, .bool al] 27 (0, 0)) ∧ ((wf.alloc (.cells #[.int .i64 (n : Int), .int .u64 (D : Int), .int .u64 (A : Int), .int .u64 (U : Int), .bool true, .int .i64 (f1 : Int), .int .i64 (us : Int), .bool ev, .bool al] 27)).alloc (.cells #[.slice a1 L c1, .int .u64 (ta : Int), .int .u64 (tl : Int)] 64)).heap[wf.heap.size + 1]? = some (.cells #[.slice a1 L c1, .int .u64 (ta : Int), .int .u64 (tl : Int)] 64 (0, 0))) := ⟨Xf.out.1.below hb7, Xf.out.2.kept (fun g hg => hb7.block g (Xf.out.2.lt g hg).2), h7.1, h7.2⟩
    clear hb7 h7 Xf
    generalize (wf.alloc (.cells #[.int .i64 (n : Int), .int .u64 (D : Int), .int .u64 (A : Int), .int .u64 (U : Int), .bool true, .int .i64 (f1 : Int), .int .i64 (us : Int), .bool ev, .bool al] 27)).alloc (.cells #[.slice a1 L c1, .int .u64 (ta : Int), .int .u64 (tl : Int)] 64) = w7 at *
    obtain ⟨p14, hp14⟩ : ∃ p14, wf.heap.size + 1 = p14 := ⟨_, rfl⟩
    rw [hp14] at X ⊢
    clear hp14
    generalize wf.heap.size = p12 at *
    by_cases he : e = 0
    case neg =>
      have q1 : (e != 0) = true := by simp [he]
      have HR : Hid (R = ⟨t, M, f1, us, e⟩) := by
        rcases HK.out with h | h | h
        · exact h.2
        · exact absurd h.1 he
        · exact absurd h.1 he
      have HV : Hid (R.e = e ∧ R.fe = f1 ∧ R.us = us ∧ endM R n U ev = M) := by rw [HR.out]; exact ⟨rfl, rfl, rfl, by unfold endM; rw [if_neg he]⟩
      clear HK HR he
      go_upto_region 8 with fail
      obtain ⟨c0, c1, c2, c3, c4, c5, c6, c7, c8⟩ := box9_facts X.out.2.2.1
      obtain ⟨r0, r1, _, _⟩ := box_facts X.out.1.2.1
      go_upto_region 9 with fail
      have X8 : Hid (He w (w7.alloc (.cells #[.int .u64 8192, .slice xa xn xc, .int .i64 (n : Int), .int .u64 (D : Int), .int .u64 (A : Int), .int .u64 (U : Int), .bool true, .int .i64 (f1 : Int), .int .i64 (us : Int), .bool ev, .bool al, .slice ha m hc, .bool false, .int .i64 e] 48)) F xa xn xc xs (p12) w7.heap.size (n : Int) D A U true f1 us ev al #[.int .u64 0, .slice none 0 0, .int .i64 0, .int .u64 0, .int .u64 0, .int .u64 0, .bool false, .int .i64 0, .int .i64 0, .bool false, .bool false, .slice none 0 0, .bool false, .int .i64 0] #[.int .u64 8192, .slice xa xn xc, .int .i64 (n : Int), .int .u64 (D : Int), .int .u64 (A : Int), .int .u64 (U : Int), .bool true, .int .i64 (f1 : Int), .int .i64 (us : Int), .bool ev, .bool al, .slice ha m hc, .bool false, .int .i64 e]) := he_new X.out.1 X.out.2.2.1 _
      clear X c0 c1 c2 c3 c4 c5 c6 c7 c8 r0 r1
      generalize w7.alloc (.cells #[.int .u64 8192, .slice xa xn xc, .int .i64 (n : Int), .int .u64 (D : Int), .int .u64 (A : Int), .int .u64 (U : Int), .bool true, .int .i64 (f1 : Int), .int .i64 (us : Int), .bool ev, .bool al, .slice ha m hc, .bool false, .int .i64 e] 48) = w8 at *
      generalize w7.heap.size = pb at *
      obtain ⟨c0, c1, c2, c3, c4, c5, c6, c7, c8⟩ := box9_facts X8.out.2.2.1
      obtain ⟨r0, r1, _, _⟩ := box_facts X8.out.2.1
      have c12 := cellOf X8.out.2.2.2.2.1 12 _ rfl
      have f12 := frozenOf X8.out.2.2.2.2.1 12
      by_cases hu : us = u0
      case pos =>
        have q2 : ((us : Int) != (u0 : Int)) = false := by simp [hu]
        have HU : Hid (us = u0) := hu
        clear hu
        go_upto_region 10 with fail
        have XE : Hid (He w (w8.setCell ⟨pb, 12, none⟩ (.bool false)) F xa xn xc xs (p12) pb (n : Int) D A U true f1 us ev al #[.int .u64 0, .slice none 0 0, .int .i64 0, .int .u64 0, .int .u64 0, .int .u64 0, .bool false, .int .i64 0, .int .i64 0, .bool false, .bool false, .slice none 0 0, .bool false, .int .i64 0] #[.int .u64 8192, .slice xa xn xc, .int .i64 (n : Int), .int .u64 (D : Int), .int .u64 (A : Int), .int .u64 (U : Int), .bool true, .int .i64 (f1 : Int), .int .i64 (us : Int), .bool ev, .bool al, .slice ha m hc, .bool false, .int .i64 e]) := X8.out.tell false rfl
        clear X8 c0 c1 c2 c3 c4 c5 c6 c7 c8 r0 r1 c12 f12
        generalize w8.setCell ⟨pb, 12, none⟩ (.bool false) = w9 at *
        refine wp_region_list ?_
        refine wpList_load_row rfl 48 _ rfl pb rfl 48 #[.int .u64 8192, .slice xa xn xc, .int .i64 (n : Int), .int .u64 (D : Int), .int .u64 (A : Int), .int .u64 (U : Int), .bool true, .int .i64 (f1 : Int), .int .i64 (us : Int), .bool ev, .bool al, .slice ha m hc, .bool false, .int .i64 e] (0, 0) _ XE.out.2.2.2.2.1 Tryz.underlying48 rfl infoSV ?_
        refine wpList_store_row rfl 48 _ _ rfl (w.heap.size + 2) #[.int .u64 8192, .slice xa xn xc, .int .i64 (n : Int), .int .u64 (D : Int), .int .u64 (A : Int), .int .u64 (U : Int), .bool true, .int .i64 (f1 : Int), .int .i64 (us : Int), .bool ev, .bool al, .slice ha m hc, .bool false, .int .i64 e] rfl rfl 48 #[.int .u64 0, .slice none 0 0, .int .i64 0, .int .u64 0, .int .u64 0, .int .u64 0, .bool false, .int .i64 0, .int .i64 0, .bool false, .bool false, .slice none 0 0, .bool false, .int .i64 0] XE.out.2.2.2.1 infoSV rfl (by simp [Value.oneCell']) ?_
        have XL : Hid ((w9.setRow (w.heap.size + 2) #[.int .u64 8192, .slice xa xn xc, .int .i64 (n : Int), .int .u64 (D : Int), .int .u64 (A : Int), .int .u64 (U : Int), .bool true, .int .i64 (f1 : Int), .int .i64 (us : Int), .bool ev, .bool al, .slice ha m hc, .bool false, .int .i64 e]).heap[w.heap.size + 2]? = some (.cells #[.int .u64 8192, .slice xa xn xc, .int .i64 (n : Int), .int .u64 (D : Int), .int .u64 (A : Int), .int .u64 (U : Int), .bool true, .int .i64 (f1 : Int), .int .i64 (us : Int), .bool ev, .bool al, .slice ha m hc, .bool false, .int .i64 e] 48 (0, 0)) ∧ RefIn F (w9.setRow (w.heap.size + 2) #[.int .u64 8192, .slice xa xn xc, .int .i64 (n : Int), .int .u64 (D : Int), .int .u64 (A : Int), .int .u64 (U : Int), .bool true, .int .i64 (f1 : Int), .int .i64 (us : Int), .bool ev, .bool al, .slice ha m hc, .bool false, .int .i64 e]) (.slice xa xn xc) xn xs ∧ Below w.heap.size w (w9.setRow (w.heap.size + 2) #[.int .u64 8192, .slice xa xn xc, .int .i64 (n : Int), .int .u64 (D : Int), .int .u64 (A : Int), .int .u64 (U : Int), .bool true, .int .i64 (f1 : Int), .int .i64 (us : Int), .bool ev, .bool al, .slice ha m hc, .bool false, .int .i64 e])) := XE.out.put2 #[.int .u64 8192, .slice xa xn xc, .int .i64 (n : Int), .int .u64 (D : Int), .int .u64 (A : Int), .int .u64 (U : Int), .bool true, .int .i64 (f1 : Int), .int .i64 (us : Int), .bool ev, .bool al, .slice ha m hc, .bool false, .int .i64 e]
        clear XE
        generalize w9.setRow (w.heap.size + 2) #[.int .u64 8192, .slice xa xn xc, .int .i64 (n : Int), .int .u64 (D : Int), .int .u64 (A : Int), .int .u64 (U : Int), .bool true, .int .i64 (f1 : Int), .int .i64 (us : Int), .bool ev, .bool al, .slice ha m hc, .bool false, .int .i64 e] = wl at *
        go_wp2_with fail
        refine bodyPost_ret (v := .agg #[.int .u64 8192, .slice xa xn xc, .int .i64 (n : Int), .int .u64 (D : Int), .int .u64 (A : Int), .int .u64 (U : Int), .bool true, .int .i64 (f1 : Int), .int .i64 (us : Int), .bool ev, .bool al, .slice ha m hc, .bool false, .int .i64 e]) (results_cell_row Tryz.results12 _ _ (w.heap.size + 2) 48 _ (0, 0) _ rfl XL.out.1 Tryz.underlying48 rfl infoSV) rfl ?_
        exact ⟨xa, xn, xc, xs, ha, m, hc, by rw [HV.out.1, HV.out.2.1, HV.out.2.2.1, HV.out.2.2.2, show tellB _ n A us u0 ev = false from HU.out ▸ tell_same], by have := HM.out.1; omega, XL.out.2.1, fun q => by rw [HV.out.2.2.2]; exact HM.out.2.1 q, HM.out.2.2.2.1, XL.out.2.2⟩
      have q2 : ((us : Int) != (u0 : Int)) = true := int_neq hu
      clear hu
      obtain ⟨tb, htb⟩ : ∃ tb, tellB M n A us u0 ev = tb := ⟨_, rfl⟩
      have KT : Hid (∀ V, RefIn F V (.slice xa xn xc) xn xs → Calls Tryz.prog 24 #[.agg #[.int .u64 8192, .slice xa xn xc], .agg #[.int .i64 (n : Int), .int .u64 (D : Int), .int .u64 (A : Int), .int .u64 (U : Int), .bool true, .int .i64 (f1 : Int), .int .i64 (us : Int), .bool ev, .bool al], .int .i64 (u0 : Int)] V fun r w' => r = .returned (.bool tb) ∧ Below V.heap.size V w') := by
        intro V hV
        rw [← htb]
        exact dtells_any hV HM.out.2.1 HM.out.2.2.1 (by have := HM.out.1; omega) HC.out.1 u0 HC.out.2.1 HM.out.2.2.2.2
      have HT : Hid (tellB M n A us u0 ev = tb) := htb
      clear htb
      go_upto_region 10 with (go_at_call 24; refine (KT.out _ X8.out.2.2.2.2.2.1).mono ?_; rintro r wt ⟨rfl, hbt⟩; have XT : Hid (He w wt F xa xn xc xs (p12) pb (n : Int) D A U true f1 us ev al #[.int .u64 0, .slice none 0 0, .int .i64 0, .int .u64 0, .int .u64 0, .int .u64 0, .bool false, .int .i64 0, .int .i64 0, .bool false, .bool false, .slice none 0 0, .bool false, .int .i64 0] #[.int .u64 8192, .slice xa xn xc, .int .i64 (n : Int), .int .u64 (D : Int), .int .u64 (A : Int), .int .u64 (U : Int), .bool true, .int .i64 (f1 : Int), .int .i64 (us : Int), .bool ev, .bool al, .slice ha m hc, .bool false, .int .i64 e]) := X8.out.below hbt; clear hbt X8 c0 c1 c2 c3 c4 c5 c6 c7 c8 r0 r1 c12 f12; have c12 := cellOf XT.out.2.2.2.2.1 12 _ rfl; have f12 := frozenOf XT.out.2.2.2.2.1 12)
      have XE : Hid (He w (wt.setCell ⟨pb, 12, none⟩ (.bool tb)) F xa xn xc xs (p12) pb (n : Int) D A U true f1 us ev al #[.int .u64 0, .slice none 0 0, .int .i64 0, .int .u64 0, .int .u64 0, .int .u64 0, .bool false, .int .i64 0, .int .i64 0, .bool false, .bool false, .slice none 0 0, .bool false, .int .i64 0] #[.int .u64 8192, .slice xa xn xc, .int .i64 (n : Int), .int .u64 (D : Int), .int .u64 (A : Int), .int .u64 (U : Int), .bool true, .int .i64 (f1 : Int), .int .i64 (us : Int), .bool ev, .bool al, .slice ha m hc, .bool tb, .int .i64 e]) := XT.out.tell tb rfl
      clear XT c12 f12
      generalize wt.setCell ⟨pb, 12, none⟩ (.bool tb) = w9 at *
      refine wp_region_list ?_
      refine wpList_load_row rfl 48 _ rfl pb rfl 48 #[.int .u64 8192, .slice xa xn xc, .int .i64 (n : Int), .int .u64 (D : Int), .int .u64 (A : Int), .int .u64 (U : Int), .bool true, .int .i64 (f1 : Int), .int .i64 (us : Int), .bool ev, .bool al, .slice ha m hc, .bool tb, .int .i64 e] (0, 0) _ XE.out.2.2.2.2.1 Tryz.underlying48 rfl infoSV ?_
      refine wpList_store_row rfl 48 _ _ rfl (w.heap.size + 2) #[.int .u64 8192, .slice xa xn xc, .int .i64 (n : Int), .int .u64 (D : Int), .int .u64 (A : Int), .int .u64 (U : Int), .bool true, .int .i64 (f1 : Int), .int .i64 (us : Int), .bool ev, .bool al, .slice ha m hc, .bool tb, .int .i64 e] rfl rfl 48 #[.int .u64 0, .slice none 0 0, .int .i64 0, .int .u64 0, .int .u64 0, .int .u64 0, .bool false, .int .i64 0, .int .i64 0, .bool false, .bool false, .slice none 0 0, .bool false, .int .i64 0] XE.out.2.2.2.1 infoSV rfl (by simp [Value.oneCell']) ?_
      have XL : Hid ((w9.setRow (w.heap.size + 2) #[.int .u64 8192, .slice xa xn xc, .int .i64 (n : Int), .int .u64 (D : Int), .int .u64 (A : Int), .int .u64 (U : Int), .bool true, .int .i64 (f1 : Int), .int .i64 (us : Int), .bool ev, .bool al, .slice ha m hc, .bool tb, .int .i64 e]).heap[w.heap.size + 2]? = some (.cells #[.int .u64 8192, .slice xa xn xc, .int .i64 (n : Int), .int .u64 (D : Int), .int .u64 (A : Int), .int .u64 (U : Int), .bool true, .int .i64 (f1 : Int), .int .i64 (us : Int), .bool ev, .bool al, .slice ha m hc, .bool tb, .int .i64 e] 48 (0, 0)) ∧ RefIn F (w9.setRow (w.heap.size + 2) #[.int .u64 8192, .slice xa xn xc, .int .i64 (n : Int), .int .u64 (D : Int), .int .u64 (A : Int), .int .u64 (U : Int), .bool true, .int .i64 (f1 : Int), .int .i64 (us : Int), .bool ev, .bool al, .slice ha m hc, .bool tb, .int .i64 e]) (.slice xa xn xc) xn xs ∧ Below w.heap.size w (w9.setRow (w.heap.size + 2) #[.int .u64 8192, .slice xa xn xc, .int .i64 (n : Int), .int .u64 (D : Int), .int .u64 (A : Int), .int .u64 (U : Int), .bool true, .int .i64 (f1 : Int), .int .i64 (us : Int), .bool ev, .bool al, .slice ha m hc, .bool tb, .int .i64 e])) := XE.out.put2 #[.int .u64 8192, .slice xa xn xc, .int .i64 (n : Int), .int .u64 (D : Int), .int .u64 (A : Int), .int .u64 (U : Int), .bool true, .int .i64 (f1 : Int), .int .i64 (us : Int), .bool ev, .bool al, .slice ha m hc, .bool tb, .int .i64 e]
      clear XE
      generalize w9.setRow (w.heap.size + 2) #[.int .u64 8192, .slice xa xn xc, .int .i64 (n : Int), .int .u64 (D : Int), .int .u64 (A : Int), .int .u64 (U : Int), .bool true, .int .i64 (f1 : Int), .int .i64 (us : Int), .bool ev, .bool al, .slice ha m hc, .bool tb, .int .i64 e] = wl at *
      go_wp2_with fail
      refine bodyPost_ret (v := .agg #[.int .u64 8192, .slice xa xn xc, .int .i64 (n : Int), .int .u64 (D : Int), .int .u64 (A : Int), .int .u64 (U : Int), .bool true, .int .i64 (f1 : Int), .int .i64 (us : Int), .bool ev, .bool al, .slice ha m hc, .bool tb, .int .i64 e]) (results_cell_row Tryz.results12 _ _ (w.heap.size + 2) 48 _ (0, 0) _ rfl XL.out.1 Tryz.underlying48 rfl infoSV) rfl ?_
      exact ⟨xa, xn, xc, xs, ha, m, hc, by rw [HV.out.1, HV.out.2.1, HV.out.2.2.1, HV.out.2.2.2, HT.out], by have := HM.out.1; omega, XL.out.2.1, fun q => by rw [HV.out.2.2.2]; exact HM.out.2.1 q, HM.out.2.2.2.1, XL.out.2.2⟩
    subst he
    by_cases hstop : bo = false ∨ t = 0
    case pos =>
      have HR : Hid (R = ⟨t, M, fe, us, 0⟩) := by
        rcases HK.out with h | h | h
        · exact absurd rfl h.1
        · exact h.2.2
        · rcases hstop with h1 | h1
          · rw [h1] at h; exact absurd h.2.1 (by simp)
          · exact absurd h1 h.2.2.1
      have HV : Hid (R.e = 0 ∧ R.fe = fe ∧ R.us = us ∧ endM R n U ev = askM M n U fe ev) := by rw [HR.out]; exact ⟨rfl, rfl, rfl, by unfold endM; rw [if_pos rfl]⟩
      clear HK HR
      rcases hstop with rfl | rfl
      · obtain ⟨c0, c1', c2, c3, c4, c5, c6, c7, c8⟩ := box9_facts X.out.1.2.2.1
        go_upto_region 19 with fail
        obtain ⟨r0, r1, _, _⟩ := box_facts X.out.1.2.1
        have KA : Hid (∀ V, Hs w V F xa xn xc xs (n : Int) D A U true fe us ev al ha m hc hs #[.int .u64 0, .slice none 0 0, .int .i64 0, .int .u64 0, .int .u64 0, .int .u64 0, .bool false, .int .i64 0, .int .i64 0, .bool false, .bool false, .slice none 0 0, .bool false, .int .i64 0] → Calls Tryz.prog 26 #[.agg #[.int .u64 8192, .slice xa xn xc], .agg #[.int .i64 (n : Int), .int .u64 (D : Int), .int .u64 (A : Int), .int .u64 (U : Int), .bool true, .int .i64 (fe : Int), .int .i64 (us : Int), .bool ev, .bool al]] V fun r w' => ∃ ya yn yc ys, r = .returned (.agg #[.int .u64 8192, .slice ya yn yc]) ∧ yn ≤ xn + 2 ∧ RefIn (fun k => F k ∨ (Value.slice ha m hc).ownBlock = some k) w' (.slice ya yn yc) yn ys ∧ (∀ q, rget ys yn q = askM M n U fe ev q) ∧ Rng ys yn 8192 ∧ Below V.heap.size V w') := by
          intro V hV
          have := HM.out.1
          exact dask_any hV.2.2.2.2.1 HM.out.2.1 HM.out.2.2.1 (by omega) (hV.lt HC.out.2.2.2.2) HM.out.2.2.2.1 HC.out.1 HI.out.2.2.2.2.2
        refine wp_region_list ?_
        (refine wpList_step (fun KK hKK => ?_); go_simp; refine hKK _ _ ?_; clear hKK KK)
        (refine wpList_step (fun KK hKK => ?_); go_simp; refine hKK _ _ ?_; clear hKK KK)
        refine wpList_step (fun KK hKK => ?_)
        go_simp
        refine (KA.out _ X.out.1).mono ?_
        rintro r wa ⟨ya, yn, yc, ys, rfl, hyn, hry, hgy, hrgy, hba⟩
        have Xa : Hid (Hs w wa F xa xn xc xs (n : Int) D A U true fe us ev al ha m hc hs #[.int .u64 0, .slice none 0 0, .int .i64 0, .int .u64 0, .int .u64 0, .int .u64 0, .bool false, .int .i64 0, .int .i64 0, .bool false, .bool false, .slice none 0 0, .bool false, .int .i64 0] ∧ RefIn (fun k => F k ∨ (Value.slice ha m hc).ownBlock = some k) wa (.slice ya yn yc) yn ys) := ⟨X.out.1.below hba, hry⟩
        have HM2 : Hid (yn ≤ 190000 ∧ (∀ q, rget ys yn q = askM M n U fe ev q) ∧ (∀ a, askM M n U fe ev a ≤ 255) ∧ Rng ys yn 8192 ∧ us ≤ 65535) := ⟨by have := HI.out.2.2.2.1; omega, hgy, ask_byte HM.out.2.2.1, hrgy, HM.out.2.2.2.2⟩
        clear hyn hry hgy hrgy hba X KA HM c0 c1' c2 c3 c4 c5 c6 c7 c8 r0 r1
        refine hKK _ _ ?_
        clear hKK KK
        refine wpList_store_row rfl 33 _ _ rfl (w.heap.size) #[.int .u64 8192, .slice ya yn yc] rfl rfl 33 #[.int .u64 8192, .slice xa xn xc] Xa.out.1.2.1 infoDR rfl (by simp [Value.oneCell']) ?_
        have X : Hid (Hs w (wa.setRow (w.heap.size) #[.int .u64 8192, .slice ya yn yc]) F ya yn yc ys (n : Int) D A U true fe us ev al ha m hc hs #[.int .u64 0, .slice none 0 0, .int .i64 0, .int .u64 0, .int .u64 0, .int .u64 0, .bool false, .int .i64 0, .int .i64 0, .bool false, .bool false, .slice none 0 0, .bool false, .int .i64 0] ∧ 0 = 0) := ⟨Xa.out.1.put0 Xa.out.2, rfl⟩
        clear Xa
        generalize wa.setRow (w.heap.size) #[.int .u64 8192, .slice ya yn yc] = wb at *
        obtain ⟨r0, r1, _, _⟩ := box_facts X.out.1.2.1
        go_upto_region 20 with fail
        clear r0 r1
        obtain ⟨c0, c1, c2, c3, c4, c5, c6, c7, c8⟩ := box9_facts X.out.1.2.2.1
        obtain ⟨r0, r1, _, _⟩ := box_facts X.out.1.2.1
        go_upto_region 21 with fail
        have X8 : Hid (He w (wb.alloc (.cells #[.int .u64 8192, .slice ya yn yc, .int .i64 (n : Int), .int .u64 (D : Int), .int .u64 (A : Int), .int .u64 (U : Int), .bool true, .int .i64 (fe : Int), .int .i64 (us : Int), .bool ev, .bool al, .slice ha m hc, .bool false, .int .i64 0] 48)) F ya yn yc ys (w.heap.size + 1) wb.heap.size (n : Int) D A U true fe us ev al #[.int .u64 0, .slice none 0 0, .int .i64 0, .int .u64 0, .int .u64 0, .int .u64 0, .bool false, .int .i64 0, .int .i64 0, .bool false, .bool false, .slice none 0 0, .bool false, .int .i64 0] #[.int .u64 8192, .slice ya yn yc, .int .i64 (n : Int), .int .u64 (D : Int), .int .u64 (A : Int), .int .u64 (U : Int), .bool true, .int .i64 (fe : Int), .int .i64 (us : Int), .bool ev, .bool al, .slice ha m hc, .bool false, .int .i64 0]) := he_new X.out.1 X.out.1.2.2.1 _
        clear X c0 c1 c2 c3 c4 c5 c6 c7 c8 r0 r1
        generalize wb.alloc (.cells #[.int .u64 8192, .slice ya yn yc, .int .i64 (n : Int), .int .u64 (D : Int), .int .u64 (A : Int), .int .u64 (U : Int), .bool true, .int .i64 (fe : Int), .int .i64 (us : Int), .bool ev, .bool al, .slice ha m hc, .bool false, .int .i64 0] 48) = w8 at *
        generalize wb.heap.size = pb at *
        obtain ⟨c0, c1, c2, c3, c4, c5, c6, c7, c8⟩ := box9_facts X8.out.2.2.1
        obtain ⟨r0, r1, _, _⟩ := box_facts X8.out.2.1
        have c12 := cellOf X8.out.2.2.2.2.1 12 _ rfl
        have f12 := frozenOf X8.out.2.2.2.2.1 12
        by_cases hu : us = u0
        case pos =>
          have q2 : ((us : Int) != (u0 : Int)) = false := by simp [hu]
          have HU : Hid (us = u0) := hu
          clear hu
          go_upto_region 22 with fail
          have XE : Hid (He w (w8.setCell ⟨pb, 12, none⟩ (.bool false)) F ya yn yc ys (w.heap.size + 1) pb (n : Int) D A U true fe us ev al #[.int .u64 0, .slice none 0 0, .int .i64 0, .int .u64 0, .int .u64 0, .int .u64 0, .bool false, .int .i64 0, .int .i64 0, .bool false, .bool false, .slice none 0 0, .bool false, .int .i64 0] #[.int .u64 8192, .slice ya yn yc, .int .i64 (n : Int), .int .u64 (D : Int), .int .u64 (A : Int), .int .u64 (U : Int), .bool true, .int .i64 (fe : Int), .int .i64 (us : Int), .bool ev, .bool al, .slice ha m hc, .bool false, .int .i64 0]) := X8.out.tell false rfl
          clear X8 c0 c1 c2 c3 c4 c5 c6 c7 c8 r0 r1 c12 f12
          generalize w8.setCell ⟨pb, 12, none⟩ (.bool false) = w9 at *
          refine wp_region_list ?_
          refine wpList_load_row rfl 48 _ rfl pb rfl 48 #[.int .u64 8192, .slice ya yn yc, .int .i64 (n : Int), .int .u64 (D : Int), .int .u64 (A : Int), .int .u64 (U : Int), .bool true, .int .i64 (fe : Int), .int .i64 (us : Int), .bool ev, .bool al, .slice ha m hc, .bool false, .int .i64 0] (0, 0) _ XE.out.2.2.2.2.1 Tryz.underlying48 rfl infoSV ?_
          refine wpList_store_row rfl 48 _ _ rfl (w.heap.size + 2) #[.int .u64 8192, .slice ya yn yc, .int .i64 (n : Int), .int .u64 (D : Int), .int .u64 (A : Int), .int .u64 (U : Int), .bool true, .int .i64 (fe : Int), .int .i64 (us : Int), .bool ev, .bool al, .slice ha m hc, .bool false, .int .i64 0] rfl rfl 48 #[.int .u64 0, .slice none 0 0, .int .i64 0, .int .u64 0, .int .u64 0, .int .u64 0, .bool false, .int .i64 0, .int .i64 0, .bool false, .bool false, .slice none 0 0, .bool false, .int .i64 0] XE.out.2.2.2.1 infoSV rfl (by simp [Value.oneCell']) ?_
          have XL : Hid ((w9.setRow (w.heap.size + 2) #[.int .u64 8192, .slice ya yn yc, .int .i64 (n : Int), .int .u64 (D : Int), .int .u64 (A : Int), .int .u64 (U : Int), .bool true, .int .i64 (fe : Int), .int .i64 (us : Int), .bool ev, .bool al, .slice ha m hc, .bool false, .int .i64 0]).heap[w.heap.size + 2]? = some (.cells #[.int .u64 8192, .slice ya yn yc, .int .i64 (n : Int), .int .u64 (D : Int), .int .u64 (A : Int), .int .u64 (U : Int), .bool true, .int .i64 (fe : Int), .int .i64 (us : Int), .bool ev, .bool al, .slice ha m hc, .bool false, .int .i64 0] 48 (0, 0)) ∧ RefIn F (w9.setRow (w.heap.size + 2) #[.int .u64 8192, .slice ya yn yc, .int .i64 (n : Int), .int .u64 (D : Int), .int .u64 (A : Int), .int .u64 (U : Int), .bool true, .int .i64 (fe : Int), .int .i64 (us : Int), .bool ev, .bool al, .slice ha m hc, .bool false, .int .i64 0]) (.slice ya yn yc) yn ys ∧ Below w.heap.size w (w9.setRow (w.heap.size + 2) #[.int .u64 8192, .slice ya yn yc, .int .i64 (n : Int), .int .u64 (D : Int), .int .u64 (A : Int), .int .u64 (U : Int), .bool true, .int .i64 (fe : Int), .int .i64 (us : Int), .bool ev, .bool al, .slice ha m hc, .bool false, .int .i64 0])) := XE.out.put2 #[.int .u64 8192, .slice ya yn yc, .int .i64 (n : Int), .int .u64 (D : Int), .int .u64 (A : Int), .int .u64 (U : Int), .bool true, .int .i64 (fe : Int), .int .i64 (us : Int), .bool ev, .bool al, .slice ha m hc, .bool false, .int .i64 0]
          clear XE
          generalize w9.setRow (w.heap.size + 2) #[.int .u64 8192, .slice ya yn yc, .int .i64 (n : Int), .int .u64 (D : Int), .int .u64 (A : Int), .int .u64 (U : Int), .bool true, .int .i64 (fe : Int), .int .i64 (us : Int), .bool ev, .bool al, .slice ha m hc, .bool false, .int .i64 0] = wl at *
          go_wp2_with fail
          refine bodyPost_ret (v := .agg #[.int .u64 8192, .slice ya yn yc, .int .i64 (n : Int), .int .u64 (D : Int), .int .u64 (A : Int), .int .u64 (U : Int), .bool true, .int .i64 (fe : Int), .int .i64 (us : Int), .bool ev, .bool al, .slice ha m hc, .bool false, .int .i64 0]) (results_cell_row Tryz.results12 _ _ (w.heap.size + 2) 48 _ (0, 0) _ rfl XL.out.1 Tryz.underlying48 rfl infoSV) rfl ?_
          exact ⟨ya, yn, yc, ys, ha, m, hc, by rw [HV.out.1, HV.out.2.1, HV.out.2.2.1, HV.out.2.2.2, show tellB _ n A us u0 ev = false from HU.out ▸ tell_same], by have := HM2.out.1; omega, XL.out.2.1, fun q => by rw [HV.out.2.2.2]; exact HM2.out.2.1 q, HM2.out.2.2.2.1, XL.out.2.2⟩
        have q2 : ((us : Int) != (u0 : Int)) = true := int_neq hu
        clear hu
        obtain ⟨tb, htb⟩ : ∃ tb, tellB (askM M n U fe ev) n A us u0 ev = tb := ⟨_, rfl⟩
        have KT : Hid (∀ V, RefIn F V (.slice ya yn yc) yn ys → Calls Tryz.prog 24 #[.agg #[.int .u64 8192, .slice ya yn yc], .agg #[.int .i64 (n : Int), .int .u64 (D : Int), .int .u64 (A : Int), .int .u64 (U : Int), .bool true, .int .i64 (fe : Int), .int .i64 (us : Int), .bool ev, .bool al], .int .i64 (u0 : Int)] V fun r w' => r = .returned (.bool tb) ∧ Below V.heap.size V w') := by
          intro V hV
          rw [← htb]
          exact dtells_any hV HM2.out.2.1 HM2.out.2.2.1 (by have := HM2.out.1; omega) HC.out.1 u0 HC.out.2.1 HM2.out.2.2.2.2
        have HT : Hid (tellB (askM M n U fe ev) n A us u0 ev = tb) := htb
        clear htb
        go_upto_region 22 with (go_at_call 24; refine (KT.out _ X8.out.2.2.2.2.2.1).mono ?_; rintro r wt ⟨rfl, hbt⟩; have XT : Hid (He w wt F ya yn yc ys (w.heap.size + 1) pb (n : Int) D A U true fe us ev al #[.int .u64 0, .slice none 0 0, .int .i64 0, .int .u64 0, .int .u64 0, .int .u64 0, .bool false, .int .i64 0, .int .i64 0, .bool false, .bool false, .slice none 0 0, .bool false, .int .i64 0] #[.int .u64 8192, .slice ya yn yc, .int .i64 (n : Int), .int .u64 (D : Int), .int .u64 (A : Int), .int .u64 (U : Int), .bool true, .int .i64 (fe : Int), .int .i64 (us : Int), .bool ev, .bool al, .slice ha m hc, .bool false, .int .i64 0]) := X8.out.below hbt; clear hbt X8 c0 c1 c2 c3 c4 c5 c6 c7 c8 r0 r1 c12 f12; have c12 := cellOf XT.out.2.2.2.2.1 12 _ rfl; have f12 := frozenOf XT.out.2.2.2.2.1 12)
        have XE : Hid (He w (wt.setCell ⟨pb, 12, none⟩ (.bool tb)) F ya yn yc ys (w.heap.size + 1) pb (n : Int) D A U true fe us ev al #[.int .u64 0, .slice none 0 0, .int .i64 0, .int .u64 0, .int .u64 0, .int .u64 0, .bool false, .int .i64 0, .int .i64 0, .bool false, .bool false, .slice none 0 0, .bool false, .int .i64 0] #[.int .u64 8192, .slice ya yn yc, .int .i64 (n : Int), .int .u64 (D : Int), .int .u64 (A : Int), .int .u64 (U : Int), .bool true, .int .i64 (fe : Int), .int .i64 (us : Int), .bool ev, .bool al, .slice ha m hc, .bool tb, .int .i64 0]) := XT.out.tell tb rfl
        clear XT c12 f12
        generalize wt.setCell ⟨pb, 12, none⟩ (.bool tb) = w9 at *
        refine wp_region_list ?_
        refine wpList_load_row rfl 48 _ rfl pb rfl 48 #[.int .u64 8192, .slice ya yn yc, .int .i64 (n : Int), .int .u64 (D : Int), .int .u64 (A : Int), .int .u64 (U : Int), .bool true, .int .i64 (fe : Int), .int .i64 (us : Int), .bool ev, .bool al, .slice ha m hc, .bool tb, .int .i64 0] (0, 0) _ XE.out.2.2.2.2.1 Tryz.underlying48 rfl infoSV ?_
        refine wpList_store_row rfl 48 _ _ rfl (w.heap.size + 2) #[.int .u64 8192, .slice ya yn yc, .int .i64 (n : Int), .int .u64 (D : Int), .int .u64 (A : Int), .int .u64 (U : Int), .bool true, .int .i64 (fe : Int), .int .i64 (us : Int), .bool ev, .bool al, .slice ha m hc, .bool tb, .int .i64 0] rfl rfl 48 #[.int .u64 0, .slice none 0 0, .int .i64 0, .int .u64 0, .int .u64 0, .int .u64 0, .bool false, .int .i64 0, .int .i64 0, .bool false, .bool false, .slice none 0 0, .bool false, .int .i64 0] XE.out.2.2.2.1 infoSV rfl (by simp [Value.oneCell']) ?_
        have XL : Hid ((w9.setRow (w.heap.size + 2) #[.int .u64 8192, .slice ya yn yc, .int .i64 (n : Int), .int .u64 (D : Int), .int .u64 (A : Int), .int .u64 (U : Int), .bool true, .int .i64 (fe : Int), .int .i64 (us : Int), .bool ev, .bool al, .slice ha m hc, .bool tb, .int .i64 0]).heap[w.heap.size + 2]? = some (.cells #[.int .u64 8192, .slice ya yn yc, .int .i64 (n : Int), .int .u64 (D : Int), .int .u64 (A : Int), .int .u64 (U : Int), .bool true, .int .i64 (fe : Int), .int .i64 (us : Int), .bool ev, .bool al, .slice ha m hc, .bool tb, .int .i64 0] 48 (0, 0)) ∧ RefIn F (w9.setRow (w.heap.size + 2) #[.int .u64 8192, .slice ya yn yc, .int .i64 (n : Int), .int .u64 (D : Int), .int .u64 (A : Int), .int .u64 (U : Int), .bool true, .int .i64 (fe : Int), .int .i64 (us : Int), .bool ev, .bool al, .slice ha m hc, .bool tb, .int .i64 0]) (.slice ya yn yc) yn ys ∧ Below w.heap.size w (w9.setRow (w.heap.size + 2) #[.int .u64 8192, .slice ya yn yc, .int .i64 (n : Int), .int .u64 (D : Int), .int .u64 (A : Int), .int .u64 (U : Int), .bool true, .int .i64 (fe : Int), .int .i64 (us : Int), .bool ev, .bool al, .slice ha m hc, .bool tb, .int .i64 0])) := XE.out.put2 #[.int .u64 8192, .slice ya yn yc, .int .i64 (n : Int), .int .u64 (D : Int), .int .u64 (A : Int), .int .u64 (U : Int), .bool true, .int .i64 (fe : Int), .int .i64 (us : Int), .bool ev, .bool al, .slice ha m hc, .bool tb, .int .i64 0]
        clear XE
        generalize w9.setRow (w.heap.size + 2) #[.int .u64 8192, .slice ya yn yc, .int .i64 (n : Int), .int .u64 (D : Int), .int .u64 (A : Int), .int .u64 (U : Int), .bool true, .int .i64 (fe : Int), .int .i64 (us : Int), .bool ev, .bool al, .slice ha m hc, .bool tb, .int .i64 0] = wl at *
        go_wp2_with fail
        refine bodyPost_ret (v := .agg #[.int .u64 8192, .slice ya yn yc, .int .i64 (n : Int), .int .u64 (D : Int), .int .u64 (A : Int), .int .u64 (U : Int), .bool true, .int .i64 (fe : Int), .int .i64 (us : Int), .bool ev, .bool al, .slice ha m hc, .bool tb, .int .i64 0]) (results_cell_row Tryz.results12 _ _ (w.heap.size + 2) 48 _ (0, 0) _ rfl XL.out.1 Tryz.underlying48 rfl infoSV) rfl ?_
        exact ⟨ya, yn, yc, ys, ha, m, hc, by rw [HV.out.1, HV.out.2.1, HV.out.2.2.1, HV.out.2.2.2, HT.out], by have := HM2.out.1; omega, XL.out.2.1, fun q => by rw [HV.out.2.2.2]; exact HM2.out.2.1 q, HM2.out.2.2.2.1, XL.out.2.2⟩
      · cases bo with
        | false =>
          obtain ⟨c0, c1', c2, c3, c4, c5, c6, c7, c8⟩ := box9_facts X.out.1.2.2.1
          go_upto_region 19 with fail
          obtain ⟨r0, r1, _, _⟩ := box_facts X.out.1.2.1
          have KA : Hid (∀ V, Hs w V F xa xn xc xs (n : Int) D A U true fe us ev al ha m hc hs #[.int .u64 0, .slice none 0 0, .int .i64 0, .int .u64 0, .int .u64 0, .int .u64 0, .bool false, .int .i64 0, .int .i64 0, .bool false, .bool false, .slice none 0 0, .bool false, .int .i64 0] → Calls Tryz.prog 26 #[.agg #[.int .u64 8192, .slice xa xn xc], .agg #[.int .i64 (n : Int), .int .u64 (D : Int), .int .u64 (A : Int), .int .u64 (U : Int), .bool true, .int .i64 (fe : Int), .int .i64 (us : Int), .bool ev, .bool al]] V fun r w' => ∃ ya yn yc ys, r = .returned (.agg #[.int .u64 8192, .slice ya yn yc]) ∧ yn ≤ xn + 2 ∧ RefIn (fun k => F k ∨ (Value.slice ha m hc).ownBlock = some k) w' (.slice ya yn yc) yn ys ∧ (∀ q, rget ys yn q = askM M n U fe ev q) ∧ Rng ys yn 8192 ∧ Below V.heap.size V w') := by
            intro V hV
            have := HM.out.1
            exact dask_any hV.2.2.2.2.1 HM.out.2.1 HM.out.2.2.1 (by omega) (hV.lt HC.out.2.2.2.2) HM.out.2.2.2.1 HC.out.1 HI.out.2.2.2.2.2
          refine wp_region_list ?_
          (refine wpList_step (fun KK hKK => ?_); go_simp; refine hKK _ _ ?_; clear hKK KK)
          (refine wpList_step (fun KK hKK => ?_); go_simp; refine hKK _ _ ?_; clear hKK KK)
          refine wpList_step (fun KK hKK => ?_)
          go_simp
          refine (KA.out _ X.out.1).mono ?_
          rintro r wa ⟨ya, yn, yc, ys, rfl, hyn, hry, hgy, hrgy, hba⟩
          have Xa : Hid (Hs w wa F xa xn xc xs (n : Int) D A U true fe us ev al ha m hc hs #[.int .u64 0, .slice none 0 0, .int .i64 0, .int .u64 0, .int .u64 0, .int .u64 0, .bool false, .int .i64 0, .int .i64 0, .bool false, .bool false, .slice none 0 0, .bool false, .int .i64 0] ∧ RefIn (fun k => F k ∨ (Value.slice ha m hc).ownBlock = some k) wa (.slice ya yn yc) yn ys) := ⟨X.out.1.below hba, hry⟩
          have HM2 : Hid (yn ≤ 190000 ∧ (∀ q, rget ys yn q = askM M n U fe ev q) ∧ (∀ a, askM M n U fe ev a ≤ 255) ∧ Rng ys yn 8192 ∧ us ≤ 65535) := ⟨by have := HI.out.2.2.2.1; omega, hgy, ask_byte HM.out.2.2.1, hrgy, HM.out.2.2.2.2⟩
          clear hyn hry hgy hrgy hba X KA HM c0 c1' c2 c3 c4 c5 c6 c7 c8 r0 r1
          refine hKK _ _ ?_
          clear hKK KK
          refine wpList_store_row rfl 33 _ _ rfl (w.heap.size) #[.int .u64 8192, .slice ya yn yc] rfl rfl 33 #[.int .u64 8192, .slice xa xn xc] Xa.out.1.2.1 infoDR rfl (by simp [Value.oneCell']) ?_
          have X : Hid (Hs w (wa.setRow (w.heap.size) #[.int .u64 8192, .slice ya yn yc]) F ya yn yc ys (n : Int) D A U true fe us ev al ha m hc hs #[.int .u64 0, .slice none 0 0, .int .i64 0, .int .u64 0, .int .u64 0, .int .u64 0, .bool false, .int .i64 0, .int .i64 0, .bool false, .bool false, .slice none 0 0, .bool false, .int .i64 0] ∧ 0 = 0) := ⟨Xa.out.1.put0 Xa.out.2, rfl⟩
          clear Xa
          generalize wa.setRow (w.heap.size) #[.int .u64 8192, .slice ya yn yc] = wb at *
          obtain ⟨r0, r1, _, _⟩ := box_facts X.out.1.2.1
          go_upto_region 20 with fail
          clear r0 r1
          obtain ⟨c0, c1, c2, c3, c4, c5, c6, c7, c8⟩ := box9_facts X.out.1.2.2.1
          obtain ⟨r0, r1, _, _⟩ := box_facts X.out.1.2.1
          go_upto_region 21 with fail
          have X8 : Hid (He w (wb.alloc (.cells #[.int .u64 8192, .slice ya yn yc, .int .i64 (n : Int), .int .u64 (D : Int), .int .u64 (A : Int), .int .u64 (U : Int), .bool true, .int .i64 (fe : Int), .int .i64 (us : Int), .bool ev, .bool al, .slice ha m hc, .bool false, .int .i64 0] 48)) F ya yn yc ys (w.heap.size + 1) wb.heap.size (n : Int) D A U true fe us ev al #[.int .u64 0, .slice none 0 0, .int .i64 0, .int .u64 0, .int .u64 0, .int .u64 0, .bool false, .int .i64 0, .int .i64 0, .bool false, .bool false, .slice none 0 0, .bool false, .int .i64 0] #[.int .u64 8192, .slice ya yn yc, .int .i64 (n : Int), .int .u64 (D : Int), .int .u64 (A : Int), .int .u64 (U : Int), .bool true, .int .i64 (fe : Int), .int .i64 (us : Int), .bool ev, .bool al, .slice ha m hc, .bool false, .int .i64 0]) := he_new X.out.1 X.out.1.2.2.1 _
          clear X c0 c1 c2 c3 c4 c5 c6 c7 c8 r0 r1
          generalize wb.alloc (.cells #[.int .u64 8192, .slice ya yn yc, .int .i64 (n : Int), .int .u64 (D : Int), .int .u64 (A : Int), .int .u64 (U : Int), .bool true, .int .i64 (fe : Int), .int .i64 (us : Int), .bool ev, .bool al, .slice ha m hc, .bool false, .int .i64 0] 48) = w8 at *
          generalize wb.heap.size = pb at *
          obtain ⟨c0, c1, c2, c3, c4, c5, c6, c7, c8⟩ := box9_facts X8.out.2.2.1
          obtain ⟨r0, r1, _, _⟩ := box_facts X8.out.2.1
          have c12 := cellOf X8.out.2.2.2.2.1 12 _ rfl
          have f12 := frozenOf X8.out.2.2.2.2.1 12
          by_cases hu : us = u0
          case pos =>
            have q2 : ((us : Int) != (u0 : Int)) = false := by simp [hu]
            have HU : Hid (us = u0) := hu
            clear hu
            go_upto_region 22 with fail
            have XE : Hid (He w (w8.setCell ⟨pb, 12, none⟩ (.bool false)) F ya yn yc ys (w.heap.size + 1) pb (n : Int) D A U true fe us ev al #[.int .u64 0, .slice none 0 0, .int .i64 0, .int .u64 0, .int .u64 0, .int .u64 0, .bool false, .int .i64 0, .int .i64 0, .bool false, .bool false, .slice none 0 0, .bool false, .int .i64 0] #[.int .u64 8192, .slice ya yn yc, .int .i64 (n : Int), .int .u64 (D : Int), .int .u64 (A : Int), .int .u64 (U : Int), .bool true, .int .i64 (fe : Int), .int .i64 (us : Int), .bool ev, .bool al, .slice ha m hc, .bool false, .int .i64 0]) := X8.out.tell false rfl
            clear X8 c0 c1 c2 c3 c4 c5 c6 c7 c8 r0 r1 c12 f12
            generalize w8.setCell ⟨pb, 12, none⟩ (.bool false) = w9 at *
            refine wp_region_list ?_
            refine wpList_load_row rfl 48 _ rfl pb rfl 48 #[.int .u64 8192, .slice ya yn yc, .int .i64 (n : Int), .int .u64 (D : Int), .int .u64 (A : Int), .int .u64 (U : Int), .bool true, .int .i64 (fe : Int), .int .i64 (us : Int), .bool ev, .bool al, .slice ha m hc, .bool false, .int .i64 0] (0, 0) _ XE.out.2.2.2.2.1 Tryz.underlying48 rfl infoSV ?_
            refine wpList_store_row rfl 48 _ _ rfl (w.heap.size + 2) #[.int .u64 8192, .slice ya yn yc, .int .i64 (n : Int), .int .u64 (D : Int), .int .u64 (A : Int), .int .u64 (U : Int), .bool true, .int .i64 (fe : Int), .int .i64 (us : Int), .bool ev, .bool al, .slice ha m hc, .bool false, .int .i64 0] rfl rfl 48 #[.int .u64 0, .slice none 0 0, .int .i64 0, .int .u64 0, .int .u64 0, .int .u64 0, .bool false, .int .i64 0, .int .i64 0, .bool false, .bool false, .slice none 0 0, .bool false, .int .i64 0] XE.out.2.2.2.1 infoSV rfl (by simp [Value.oneCell']) ?_
            have XL : Hid ((w9.setRow (w.heap.size + 2) #[.int .u64 8192, .slice ya yn yc, .int .i64 (n : Int), .int .u64 (D : Int), .int .u64 (A : Int), .int .u64 (U : Int), .bool true, .int .i64 (fe : Int), .int .i64 (us : Int), .bool ev, .bool al, .slice ha m hc, .bool false, .int .i64 0]).heap[w.heap.size + 2]? = some (.cells #[.int .u64 8192, .slice ya yn yc, .int .i64 (n : Int), .int .u64 (D : Int), .int .u64 (A : Int), .int .u64 (U : Int), .bool true, .int .i64 (fe : Int), .int .i64 (us : Int), .bool ev, .bool al, .slice ha m hc, .bool false, .int .i64 0] 48 (0, 0)) ∧ RefIn F (w9.setRow (w.heap.size + 2) #[.int .u64 8192, .slice ya yn yc, .int .i64 (n : Int), .int .u64 (D : Int), .int .u64 (A : Int), .int .u64 (U : Int), .bool true, .int .i64 (fe : Int), .int .i64 (us : Int), .bool ev, .bool al, .slice ha m hc, .bool false, .int .i64 0]) (.slice ya yn yc) yn ys ∧ Below w.heap.size w (w9.setRow (w.heap.size + 2) #[.int .u64 8192, .slice ya yn yc, .int .i64 (n : Int), .int .u64 (D : Int), .int .u64 (A : Int), .int .u64 (U : Int), .bool true, .int .i64 (fe : Int), .int .i64 (us : Int), .bool ev, .bool al, .slice ha m hc, .bool false, .int .i64 0])) := XE.out.put2 #[.int .u64 8192, .slice ya yn yc, .int .i64 (n : Int), .int .u64 (D : Int), .int .u64 (A : Int), .int .u64 (U : Int), .bool true, .int .i64 (fe : Int), .int .i64 (us : Int), .bool ev, .bool al, .slice ha m hc, .bool false, .int .i64 0]
            clear XE
            generalize w9.setRow (w.heap.size + 2) #[.int .u64 8192, .slice ya yn yc, .int .i64 (n : Int), .int .u64 (D : Int), .int .u64 (A : Int), .int .u64 (U : Int), .bool true, .int .i64 (fe : Int), .int .i64 (us : Int), .bool ev, .bool al, .slice ha m hc, .bool false, .int .i64 0] = wl at *
            go_wp2_with fail
            refine bodyPost_ret (v := .agg #[.int .u64 8192, .slice ya yn yc, .int .i64 (n : Int), .int .u64 (D : Int), .int .u64 (A : Int), .int .u64 (U : Int), .bool true, .int .i64 (fe : Int), .int .i64 (us : Int), .bool ev, .bool al, .slice ha m hc, .bool false, .int .i64 0]) (results_cell_row Tryz.results12 _ _ (w.heap.size + 2) 48 _ (0, 0) _ rfl XL.out.1 Tryz.underlying48 rfl infoSV) rfl ?_
            exact ⟨ya, yn, yc, ys, ha, m, hc, by rw [HV.out.1, HV.out.2.1, HV.out.2.2.1, HV.out.2.2.2, show tellB _ n A us u0 ev = false from HU.out ▸ tell_same], by have := HM2.out.1; omega, XL.out.2.1, fun q => by rw [HV.out.2.2.2]; exact HM2.out.2.1 q, HM2.out.2.2.2.1, XL.out.2.2⟩
          have q2 : ((us : Int) != (u0 : Int)) = true := int_neq hu
          clear hu
          obtain ⟨tb, htb⟩ : ∃ tb, tellB (askM M n U fe ev) n A us u0 ev = tb := ⟨_, rfl⟩
          have KT : Hid (∀ V, RefIn F V (.slice ya yn yc) yn ys → Calls Tryz.prog 24 #[.agg #[.int .u64 8192, .slice ya yn yc], .agg #[.int .i64 (n : Int), .int .u64 (D : Int), .int .u64 (A : Int), .int .u64 (U : Int), .bool true, .int .i64 (fe : Int), .int .i64 (us : Int), .bool ev, .bool al], .int .i64 (u0 : Int)] V fun r w' => r = .returned (.bool tb) ∧ Below V.heap.size V w') := by
            intro V hV
            rw [← htb]
            exact dtells_any hV HM2.out.2.1 HM2.out.2.2.1 (by have := HM2.out.1; omega) HC.out.1 u0 HC.out.2.1 HM2.out.2.2.2.2
          have HT : Hid (tellB (askM M n U fe ev) n A us u0 ev = tb) := htb
          clear htb
          go_upto_region 22 with (go_at_call 24; refine (KT.out _ X8.out.2.2.2.2.2.1).mono ?_; rintro r wt ⟨rfl, hbt⟩; have XT : Hid (He w wt F ya yn yc ys (w.heap.size + 1) pb (n : Int) D A U true fe us ev al #[.int .u64 0, .slice none 0 0, .int .i64 0, .int .u64 0, .int .u64 0, .int .u64 0, .bool false, .int .i64 0, .int .i64 0, .bool false, .bool false, .slice none 0 0, .bool false, .int .i64 0] #[.int .u64 8192, .slice ya yn yc, .int .i64 (n : Int), .int .u64 (D : Int), .int .u64 (A : Int), .int .u64 (U : Int), .bool true, .int .i64 (fe : Int), .int .i64 (us : Int), .bool ev, .bool al, .slice ha m hc, .bool false, .int .i64 0]) := X8.out.below hbt; clear hbt X8 c0 c1 c2 c3 c4 c5 c6 c7 c8 r0 r1 c12 f12; have c12 := cellOf XT.out.2.2.2.2.1 12 _ rfl; have f12 := frozenOf XT.out.2.2.2.2.1 12)
          have XE : Hid (He w (wt.setCell ⟨pb, 12, none⟩ (.bool tb)) F ya yn yc ys (w.heap.size + 1) pb (n : Int) D A U true fe us ev al #[.int .u64 0, .slice none 0 0, .int .i64 0, .int .u64 0, .int .u64 0, .int .u64 0, .bool false, .int .i64 0, .int .i64 0, .bool false, .bool false, .slice none 0 0, .bool false, .int .i64 0] #[.int .u64 8192, .slice ya yn yc, .int .i64 (n : Int), .int .u64 (D : Int), .int .u64 (A : Int), .int .u64 (U : Int), .bool true, .int .i64 (fe : Int), .int .i64 (us : Int), .bool ev, .bool al, .slice ha m hc, .bool tb, .int .i64 0]) := XT.out.tell tb rfl
          clear XT c12 f12
          generalize wt.setCell ⟨pb, 12, none⟩ (.bool tb) = w9 at *
          refine wp_region_list ?_
          refine wpList_load_row rfl 48 _ rfl pb rfl 48 #[.int .u64 8192, .slice ya yn yc, .int .i64 (n : Int), .int .u64 (D : Int), .int .u64 (A : Int), .int .u64 (U : Int), .bool true, .int .i64 (fe : Int), .int .i64 (us : Int), .bool ev, .bool al, .slice ha m hc, .bool tb, .int .i64 0] (0, 0) _ XE.out.2.2.2.2.1 Tryz.underlying48 rfl infoSV ?_
          refine wpList_store_row rfl 48 _ _ rfl (w.heap.size + 2) #[.int .u64 8192, .slice ya yn yc, .int .i64 (n : Int), .int .u64 (D : Int), .int .u64 (A : Int), .int .u64 (U : Int), .bool true, .int .i64 (fe : Int), .int .i64 (us : Int), .bool ev, .bool al, .slice ha m hc, .bool tb, .int .i64 0] rfl rfl 48 #[.int .u64 0, .slice none 0 0, .int .i64 0, .int .u64 0, .int .u64 0, .int .u64 0, .bool false, .int .i64 0, .int .i64 0, .bool false, .bool false, .slice none 0 0, .bool false, .int .i64 0] XE.out.2.2.2.1 infoSV rfl (by simp [Value.oneCell']) ?_
          have XL : Hid ((w9.setRow (w.heap.size + 2) #[.int .u64 8192, .slice ya yn yc, .int .i64 (n : Int), .int .u64 (D : Int), .int .u64 (A : Int), .int .u64 (U : Int), .bool true, .int .i64 (fe : Int), .int .i64 (us : Int), .bool ev, .bool al, .slice ha m hc, .bool tb, .int .i64 0]).heap[w.heap.size + 2]? = some (.cells #[.int .u64 8192, .slice ya yn yc, .int .i64 (n : Int), .int .u64 (D : Int), .int .u64 (A : Int), .int .u64 (U : Int), .bool true, .int .i64 (fe : Int), .int .i64 (us : Int), .bool ev, .bool al, .slice ha m hc, .bool tb, .int .i64 0] 48 (0, 0)) ∧ RefIn F (w9.setRow (w.heap.size + 2) #[.int .u64 8192, .slice ya yn yc, .int .i64 (n : Int), .int .u64 (D : Int), .int .u64 (A : Int), .int .u64 (U : Int), .bool true, .int .i64 (fe : Int), .int .i64 (us : Int), .bool ev, .bool al, .slice ha m hc, .bool tb, .int .i64 0]) (.slice ya yn yc) yn ys ∧ Below w.heap.size w (w9.setRow (w.heap.size + 2) #[.int .u64 8192, .slice ya yn yc, .int .i64 (n : Int), .int .u64 (D : Int), .int .u64 (A : Int), .int .u64 (U : Int), .bool true, .int .i64 (fe : Int), .int .i64 (us : Int), .bool ev, .bool al, .slice ha m hc, .bool tb, .int .i64 0])) := XE.out.put2 #[.int .u64 8192, .slice ya yn yc, .int .i64 (n : Int), .int .u64 (D : Int), .int .u64 (A : Int), .int .u64 (U : Int), .bool true, .int .i64 (fe : Int), .int .i64 (us : Int), .bool ev, .bool al, .slice ha m hc, .bool tb, .int .i64 0]
          clear XE
          generalize w9.setRow (w.heap.size + 2) #[.int .u64 8192, .slice ya yn yc, .int .i64 (n : Int), .int .u64 (D : Int), .int .u64 (A : Int), .int .u64 (U : Int), .bool true, .int .i64 (fe : Int), .int .i64 (us : Int), .bool ev, .bool al, .slice ha m hc, .bool tb, .int .i64 0] = wl at *
          go_wp2_with fail
          refine bodyPost_ret (v := .agg #[.int .u64 8192, .slice ya yn yc, .int .i64 (n : Int), .int .u64 (D : Int), .int .u64 (A : Int), .int .u64 (U : Int), .bool true, .int .i64 (fe : Int), .int .i64 (us : Int), .bool ev, .bool al, .slice ha m hc, .bool tb, .int .i64 0]) (results_cell_row Tryz.results12 _ _ (w.heap.size + 2) 48 _ (0, 0) _ rfl XL.out.1 Tryz.underlying48 rfl infoSV) rfl ?_
          exact ⟨ya, yn, yc, ys, ha, m, hc, by rw [HV.out.1, HV.out.2.1, HV.out.2.2.1, HV.out.2.2.2, HT.out], by have := HM2.out.1; omega, XL.out.2.1, fun q => by rw [HV.out.2.2.2]; exact HM2.out.2.1 q, HM2.out.2.2.2.1, XL.out.2.2⟩
        | true =>
          obtain ⟨c0, c1', c2, c3, c4, c5, c6, c7, c8⟩ := box9_facts X.out.1.2.2.1
          go_upto_region 19 with fail
          obtain ⟨r0, r1, _, _⟩ := box_facts X.out.1.2.1
          have KA : Hid (∀ V, Hs w V F xa xn xc xs (n : Int) D A U true fe us ev al ha m hc hs #[.int .u64 0, .slice none 0 0, .int .i64 0, .int .u64 0, .int .u64 0, .int .u64 0, .bool false, .int .i64 0, .int .i64 0, .bool false, .bool false, .slice none 0 0, .bool false, .int .i64 0] → Calls Tryz.prog 26 #[.agg #[.int .u64 8192, .slice xa xn xc], .agg #[.int .i64 (n : Int), .int .u64 (D : Int), .int .u64 (A : Int), .int .u64 (U : Int), .bool true, .int .i64 (fe : Int), .int .i64 (us : Int), .bool ev, .bool al]] V fun r w' => ∃ ya yn yc ys, r = .returned (.agg #[.int .u64 8192, .slice ya yn yc]) ∧ yn ≤ xn + 2 ∧ RefIn (fun k => F k ∨ (Value.slice ha m hc).ownBlock = some k) w' (.slice ya yn yc) yn ys ∧ (∀ q, rget ys yn q = askM M n U fe ev q) ∧ Rng ys yn 8192 ∧ Below V.heap.size V w') := by
            intro V hV
            have := HM.out.1
            exact dask_any hV.2.2.2.2.1 HM.out.2.1 HM.out.2.2.1 (by omega) (hV.lt HC.out.2.2.2.2) HM.out.2.2.2.1 HC.out.1 HI.out.2.2.2.2.2
          refine wp_region_list ?_
          (refine wpList_step (fun KK hKK => ?_); go_simp; refine hKK _ _ ?_; clear hKK KK)
          (refine wpList_step (fun KK hKK => ?_); go_simp; refine hKK _ _ ?_; clear hKK KK)
          refine wpList_step (fun KK hKK => ?_)
          go_simp
          refine (KA.out _ X.out.1).mono ?_
          rintro r wa ⟨ya, yn, yc, ys, rfl, hyn, hry, hgy, hrgy, hba⟩
          have Xa : Hid (Hs w wa F xa xn xc xs (n : Int) D A U true fe us ev al ha m hc hs #[.int .u64 0, .slice none 0 0, .int .i64 0, .int .u64 0, .int .u64 0, .int .u64 0, .bool false, .int .i64 0, .int .i64 0, .bool false, .bool false, .slice none 0 0, .bool false, .int .i64 0] ∧ RefIn (fun k => F k ∨ (Value.slice ha m hc).ownBlock = some k) wa (.slice ya yn yc) yn ys) := ⟨X.out.1.below hba, hry⟩
          have HM2 : Hid (yn ≤ 190000 ∧ (∀ q, rget ys yn q = askM M n U fe ev q) ∧ (∀ a, askM M n U fe ev a ≤ 255) ∧ Rng ys yn 8192 ∧ us ≤ 65535) := ⟨by have := HI.out.2.2.2.1; omega, hgy, ask_byte HM.out.2.2.1, hrgy, HM.out.2.2.2.2⟩
          clear hyn hry hgy hrgy hba X KA HM c0 c1' c2 c3 c4 c5 c6 c7 c8 r0 r1
          refine hKK _ _ ?_
          clear hKK KK
          refine wpList_store_row rfl 33 _ _ rfl (w.heap.size) #[.int .u64 8192, .slice ya yn yc] rfl rfl 33 #[.int .u64 8192, .slice xa xn xc] Xa.out.1.2.1 infoDR rfl (by simp [Value.oneCell']) ?_
          have X : Hid (Hs w (wa.setRow (w.heap.size) #[.int .u64 8192, .slice ya yn yc]) F ya yn yc ys (n : Int) D A U true fe us ev al ha m hc hs #[.int .u64 0, .slice none 0 0, .int .i64 0, .int .u64 0, .int .u64 0, .int .u64 0, .bool false, .int .i64 0, .int .i64 0, .bool false, .bool false, .slice none 0 0, .bool false, .int .i64 0] ∧ 0 = 0) := ⟨Xa.out.1.put0 Xa.out.2, rfl⟩
          clear Xa
          generalize wa.setRow (w.heap.size) #[.int .u64 8192, .slice ya yn yc] = wb at *
          obtain ⟨r0, r1, _, _⟩ := box_facts X.out.1.2.1
          go_upto_region 20 with fail
          clear r0 r1
          obtain ⟨c0, c1, c2, c3, c4, c5, c6, c7, c8⟩ := box9_facts X.out.1.2.2.1
          obtain ⟨r0, r1, _, _⟩ := box_facts X.out.1.2.1
          go_upto_region 21 with fail
          have X8 : Hid (He w (wb.alloc (.cells #[.int .u64 8192, .slice ya yn yc, .int .i64 (n : Int), .int .u64 (D : Int), .int .u64 (A : Int), .int .u64 (U : Int), .bool true, .int .i64 (fe : Int), .int .i64 (us : Int), .bool ev, .bool al, .slice ha m hc, .bool false, .int .i64 0] 48)) F ya yn yc ys (w.heap.size + 1) wb.heap.size (n : Int) D A U true fe us ev al #[.int .u64 0, .slice none 0 0, .int .i64 0, .int .u64 0, .int .u64 0, .int .u64 0, .bool false, .int .i64 0, .int .i64 0, .bool false, .bool false, .slice none 0 0, .bool false, .int .i64 0] #[.int .u64 8192, .slice ya yn yc, .int .i64 (n : Int), .int .u64 (D : Int), .int .u64 (A : Int), .int .u64 (U : Int), .bool true, .int .i64 (fe : Int), .int .i64 (us : Int), .bool ev, .bool al, .slice ha m hc, .bool false, .int .i64 0]) := he_new X.out.1 X.out.1.2.2.1 _
          clear X c0 c1 c2 c3 c4 c5 c6 c7 c8 r0 r1
          generalize wb.alloc (.cells #[.int .u64 8192, .slice ya yn yc, .int .i64 (n : Int), .int .u64 (D : Int), .int .u64 (A : Int), .int .u64 (U : Int), .bool true, .int .i64 (fe : Int), .int .i64 (us : Int), .bool ev, .bool al, .slice ha m hc, .bool false, .int .i64 0] 48) = w8 at *
          generalize wb.heap.size = pb at *
          obtain ⟨c0, c1, c2, c3, c4, c5, c6, c7, c8⟩ := box9_facts X8.out.2.2.1
          obtain ⟨r0, r1, _, _⟩ := box_facts X8.out.2.1
          have c12 := cellOf X8.out.2.2.2.2.1 12 _ rfl
          have f12 := frozenOf X8.out.2.2.2.2.1 12
          by_cases hu : us = u0
          case pos =>
            have q2 : ((us : Int) != (u0 : Int)) = false := by simp [hu]
            have HU : Hid (us = u0) := hu
            clear hu
            go_upto_region 22 with fail
            have XE : Hid (He w (w8.setCell ⟨pb, 12, none⟩ (.bool false)) F ya yn yc ys (w.heap.size + 1) pb (n : Int) D A U true fe us ev al #[.int .u64 0, .slice none 0 0, .int .i64 0, .int .u64 0, .int .u64 0, .int .u64 0, .bool false, .int .i64 0, .int .i64 0, .bool false, .bool false, .slice none 0 0, .bool false, .int .i64 0] #[.int .u64 8192, .slice ya yn yc, .int .i64 (n : Int), .int .u64 (D : Int), .int .u64 (A : Int), .int .u64 (U : Int), .bool true, .int .i64 (fe : Int), .int .i64 (us : Int), .bool ev, .bool al, .slice ha m hc, .bool false, .int .i64 0]) := X8.out.tell false rfl
            clear X8 c0 c1 c2 c3 c4 c5 c6 c7 c8 r0 r1 c12 f12
            generalize w8.setCell ⟨pb, 12, none⟩ (.bool false) = w9 at *
            refine wp_region_list ?_
            refine wpList_load_row rfl 48 _ rfl pb rfl 48 #[.int .u64 8192, .slice ya yn yc, .int .i64 (n : Int), .int .u64 (D : Int), .int .u64 (A : Int), .int .u64 (U : Int), .bool true, .int .i64 (fe : Int), .int .i64 (us : Int), .bool ev, .bool al, .slice ha m hc, .bool false, .int .i64 0] (0, 0) _ XE.out.2.2.2.2.1 Tryz.underlying48 rfl infoSV ?_
            refine wpList_store_row rfl 48 _ _ rfl (w.heap.size + 2) #[.int .u64 8192, .slice ya yn yc, .int .i64 (n : Int), .int .u64 (D : Int), .int .u64 (A : Int), .int .u64 (U : Int), .bool true, .int .i64 (fe : Int), .int .i64 (us : Int), .bool ev, .bool al, .slice ha m hc, .bool false, .int .i64 0] rfl rfl 48 #[.int .u64 0, .slice none 0 0, .int .i64 0, .int .u64 0, .int .u64 0, .int .u64 0, .bool false, .int .i64 0, .int .i64 0, .bool false, .bool false, .slice none 0 0, .bool false, .int .i64 0] XE.out.2.2.2.1 infoSV rfl (by simp [Value.oneCell']) ?_
            have XL : Hid ((w9.setRow (w.heap.size + 2) #[.int .u64 8192, .slice ya yn yc, .int .i64 (n : Int), .int .u64 (D : Int), .int .u64 (A : Int), .int .u64 (U : Int), .bool true, .int .i64 (fe : Int), .int .i64 (us : Int), .bool ev, .bool al, .slice ha m hc, .bool false, .int .i64 0]).heap[w.heap.size + 2]? = some (.cells #[.int .u64 8192, .slice ya yn yc, .int .i64 (n : Int), .int .u64 (D : Int), .int .u64 (A : Int), .int .u64 (U : Int), .bool true, .int .i64 (fe : Int), .int .i64 (us : Int), .bool ev, .bool al, .slice ha m hc, .bool false, .int .i64 0] 48 (0, 0)) ∧ RefIn F (w9.setRow (w.heap.size + 2) #[.int .u64 8192, .slice ya yn yc, .int .i64 (n : Int), .int .u64 (D : Int), .int .u64 (A : Int), .int .u64 (U : Int), .bool true, .int .i64 (fe : Int), .int .i64 (us : Int), .bool ev, .bool al, .slice ha m hc, .bool false, .int .i64 0]) (.slice ya yn yc) yn ys ∧ Below w.heap.size w (w9.setRow (w.heap.size + 2) #[.int .u64 8192, .slice ya yn yc, .int .i64 (n : Int), .int .u64 (D : Int), .int .u64 (A : Int), .int .u64 (U : Int), .bool true, .int .i64 (fe : Int), .int .i64 (us : Int), .bool ev, .bool al, .slice ha m hc, .bool false, .int .i64 0])) := XE.out.put2 #[.int .u64 8192, .slice ya yn yc, .int .i64 (n : Int), .int .u64 (D : Int), .int .u64 (A : Int), .int .u64 (U : Int), .bool true, .int .i64 (fe : Int), .int .i64 (us : Int), .bool ev, .bool al, .slice ha m hc, .bool false, .int .i64 0]
            clear XE
            generalize w9.setRow (w.heap.size + 2) #[.int .u64 8192, .slice ya yn yc, .int .i64 (n : Int), .int .u64 (D : Int), .int .u64 (A : Int), .int .u64 (U : Int), .bool true, .int .i64 (fe : Int), .int .i64 (us : Int), .bool ev, .bool al, .slice ha m hc, .bool false, .int .i64 0] = wl at *
            go_wp2_with fail
            refine bodyPost_ret (v := .agg #[.int .u64 8192, .slice ya yn yc, .int .i64 (n : Int), .int .u64 (D : Int), .int .u64 (A : Int), .int .u64 (U : Int), .bool true, .int .i64 (fe : Int), .int .i64 (us : Int), .bool ev, .bool al, .slice ha m hc, .bool false, .int .i64 0]) (results_cell_row Tryz.results12 _ _ (w.heap.size + 2) 48 _ (0, 0) _ rfl XL.out.1 Tryz.underlying48 rfl infoSV) rfl ?_
            exact ⟨ya, yn, yc, ys, ha, m, hc, by rw [HV.out.1, HV.out.2.1, HV.out.2.2.1, HV.out.2.2.2, show tellB _ n A us u0 ev = false from HU.out ▸ tell_same], by have := HM2.out.1; omega, XL.out.2.1, fun q => by rw [HV.out.2.2.2]; exact HM2.out.2.1 q, HM2.out.2.2.2.1, XL.out.2.2⟩
          have q2 : ((us : Int) != (u0 : Int)) = true := int_neq hu
          clear hu
          obtain ⟨tb, htb⟩ : ∃ tb, tellB (askM M n U fe ev) n A us u0 ev = tb := ⟨_, rfl⟩
          have KT : Hid (∀ V, RefIn F V (.slice ya yn yc) yn ys → Calls Tryz.prog 24 #[.agg #[.int .u64 8192, .slice ya yn yc], .agg #[.int .i64 (n : Int), .int .u64 (D : Int), .int .u64 (A : Int), .int .u64 (U : Int), .bool true, .int .i64 (fe : Int), .int .i64 (us : Int), .bool ev, .bool al], .int .i64 (u0 : Int)] V fun r w' => r = .returned (.bool tb) ∧ Below V.heap.size V w') := by
            intro V hV
            rw [← htb]
            exact dtells_any hV HM2.out.2.1 HM2.out.2.2.1 (by have := HM2.out.1; omega) HC.out.1 u0 HC.out.2.1 HM2.out.2.2.2.2
          have HT : Hid (tellB (askM M n U fe ev) n A us u0 ev = tb) := htb
          clear htb
          go_upto_region 22 with (go_at_call 24; refine (KT.out _ X8.out.2.2.2.2.2.1).mono ?_; rintro r wt ⟨rfl, hbt⟩; have XT : Hid (He w wt F ya yn yc ys (w.heap.size + 1) pb (n : Int) D A U true fe us ev al #[.int .u64 0, .slice none 0 0, .int .i64 0, .int .u64 0, .int .u64 0, .int .u64 0, .bool false, .int .i64 0, .int .i64 0, .bool false, .bool false, .slice none 0 0, .bool false, .int .i64 0] #[.int .u64 8192, .slice ya yn yc, .int .i64 (n : Int), .int .u64 (D : Int), .int .u64 (A : Int), .int .u64 (U : Int), .bool true, .int .i64 (fe : Int), .int .i64 (us : Int), .bool ev, .bool al, .slice ha m hc, .bool false, .int .i64 0]) := X8.out.below hbt; clear hbt X8 c0 c1 c2 c3 c4 c5 c6 c7 c8 r0 r1 c12 f12; have c12 := cellOf XT.out.2.2.2.2.1 12 _ rfl; have f12 := frozenOf XT.out.2.2.2.2.1 12)
          have XE : Hid (He w (wt.setCell ⟨pb, 12, none⟩ (.bool tb)) F ya yn yc ys (w.heap.size + 1) pb (n : Int) D A U true fe us ev al #[.int .u64 0, .slice none 0 0, .int .i64 0, .int .u64 0, .int .u64 0, .int .u64 0, .bool false, .int .i64 0, .int .i64 0, .bool false, .bool false, .slice none 0 0, .bool false, .int .i64 0] #[.int .u64 8192, .slice ya yn yc, .int .i64 (n : Int), .int .u64 (D : Int), .int .u64 (A : Int), .int .u64 (U : Int), .bool true, .int .i64 (fe : Int), .int .i64 (us : Int), .bool ev, .bool al, .slice ha m hc, .bool tb, .int .i64 0]) := XT.out.tell tb rfl
          clear XT c12 f12
          generalize wt.setCell ⟨pb, 12, none⟩ (.bool tb) = w9 at *
          refine wp_region_list ?_
          refine wpList_load_row rfl 48 _ rfl pb rfl 48 #[.int .u64 8192, .slice ya yn yc, .int .i64 (n : Int), .int .u64 (D : Int), .int .u64 (A : Int), .int .u64 (U : Int), .bool true, .int .i64 (fe : Int), .int .i64 (us : Int), .bool ev, .bool al, .slice ha m hc, .bool tb, .int .i64 0] (0, 0) _ XE.out.2.2.2.2.1 Tryz.underlying48 rfl infoSV ?_
          refine wpList_store_row rfl 48 _ _ rfl (w.heap.size + 2) #[.int .u64 8192, .slice ya yn yc, .int .i64 (n : Int), .int .u64 (D : Int), .int .u64 (A : Int), .int .u64 (U : Int), .bool true, .int .i64 (fe : Int), .int .i64 (us : Int), .bool ev, .bool al, .slice ha m hc, .bool tb, .int .i64 0] rfl rfl 48 #[.int .u64 0, .slice none 0 0, .int .i64 0, .int .u64 0, .int .u64 0, .int .u64 0, .bool false, .int .i64 0, .int .i64 0, .bool false, .bool false, .slice none 0 0, .bool false, .int .i64 0] XE.out.2.2.2.1 infoSV rfl (by simp [Value.oneCell']) ?_
          have XL : Hid ((w9.setRow (w.heap.size + 2) #[.int .u64 8192, .slice ya yn yc, .int .i64 (n : Int), .int .u64 (D : Int), .int .u64 (A : Int), .int .u64 (U : Int), .bool true, .int .i64 (fe : Int), .int .i64 (us : Int), .bool ev, .bool al, .slice ha m hc, .bool tb, .int .i64 0]).heap[w.heap.size + 2]? = some (.cells #[.int .u64 8192, .slice ya yn yc, .int .i64 (n : Int), .int .u64 (D : Int), .int .u64 (A : Int), .int .u64 (U : Int), .bool true, .int .i64 (fe : Int), .int .i64 (us : Int), .bool ev, .bool al, .slice ha m hc, .bool tb, .int .i64 0] 48 (0, 0)) ∧ RefIn F (w9.setRow (w.heap.size + 2) #[.int .u64 8192, .slice ya yn yc, .int .i64 (n : Int), .int .u64 (D : Int), .int .u64 (A : Int), .int .u64 (U : Int), .bool true, .int .i64 (fe : Int), .int .i64 (us : Int), .bool ev, .bool al, .slice ha m hc, .bool tb, .int .i64 0]) (.slice ya yn yc) yn ys ∧ Below w.heap.size w (w9.setRow (w.heap.size + 2) #[.int .u64 8192, .slice ya yn yc, .int .i64 (n : Int), .int .u64 (D : Int), .int .u64 (A : Int), .int .u64 (U : Int), .bool true, .int .i64 (fe : Int), .int .i64 (us : Int), .bool ev, .bool al, .slice ha m hc, .bool tb, .int .i64 0])) := XE.out.put2 #[.int .u64 8192, .slice ya yn yc, .int .i64 (n : Int), .int .u64 (D : Int), .int .u64 (A : Int), .int .u64 (U : Int), .bool true, .int .i64 (fe : Int), .int .i64 (us : Int), .bool ev, .bool al, .slice ha m hc, .bool tb, .int .i64 0]
          clear XE
          generalize w9.setRow (w.heap.size + 2) #[.int .u64 8192, .slice ya yn yc, .int .i64 (n : Int), .int .u64 (D : Int), .int .u64 (A : Int), .int .u64 (U : Int), .bool true, .int .i64 (fe : Int), .int .i64 (us : Int), .bool ev, .bool al, .slice ha m hc, .bool tb, .int .i64 0] = wl at *
          go_wp2_with fail
          refine bodyPost_ret (v := .agg #[.int .u64 8192, .slice ya yn yc, .int .i64 (n : Int), .int .u64 (D : Int), .int .u64 (A : Int), .int .u64 (U : Int), .bool true, .int .i64 (fe : Int), .int .i64 (us : Int), .bool ev, .bool al, .slice ha m hc, .bool tb, .int .i64 0]) (results_cell_row Tryz.results12 _ _ (w.heap.size + 2) 48 _ (0, 0) _ rfl XL.out.1 Tryz.underlying48 rfl infoSV) rfl ?_
          exact ⟨ya, yn, yc, ys, ha, m, hc, by rw [HV.out.1, HV.out.2.1, HV.out.2.2.1, HV.out.2.2.2, HT.out], by have := HM2.out.1; omega, XL.out.2.1, fun q => by rw [HV.out.2.2.2]; exact HM2.out.2.1 q, HM2.out.2.2.2.1, XL.out.2.2⟩
    obtain ⟨rfl, q3⟩ : bo = true ∧ t ≠ 0 := by
      cases bo with
      | false => exact absurd (.inl rfl) hstop
      | true => exact ⟨rfl, fun h => hstop (.inr h)⟩
    obtain ⟨h, rfl, hh, hll, hok, hR⟩ : ∃ h : Nat, hi = (h : Int) ∧ h ≤ 65535 ∧ l.length ≤ 1000 ∧ (∀ s ∈ l, SegOk s) ∧ giveR (devF b) (n : Int) D A U true al j (t - 1) (retM (fillM b l M) n U us h (cntN l)) f1 (upN us) = R := by
      rcases HK.out with h | h | h
      · exact absurd rfl h.1
      · exact absurd h.2.1 hstop
      · exact h.2.2.2.2
    have HR : Hid (h ≤ 65535 ∧ l.length ≤ 1000 ∧ (∀ s ∈ l, SegOk s) ∧ giveR (devF b) (n : Int) D A U true al j (t - 1) (retM (fillM b l M) n U us h (cntN l)) f1 (upN us) = R) := ⟨hh, hll, hok, hR⟩
    clear HK hstop hh hll hok hR
    have q4 : ((t : Int) == 0) = false := int_ne0 q3
    have e1 : wrap64 ((t : Int) - 1) = ((t - 1 : Nat) : Int) := ar_sub t 1 (by have := HI.out.1; have := HC.out.2.2.2.1; omega) (by omega)
    have HT3 : Hid (t ≠ 0) := q3
    obtain ⟨t1, ht1⟩ : ∃ t1, t - 1 = t1 := ⟨_, rfl⟩
    rw [ht1] at e1 HR
    have HT1 : Hid (t - 1 = t1) := ht1
    clear ht1 q3
    go_upto_region 13 with fail
    obtain ⟨c0, c1', c2, c3, c4, c5, c6, c7, c8⟩ := box9_facts X.out.2.2.1
    refine wp_region_list ?_
    (refine wpList_step (fun KK hKK => ?_); go_simp; refine hKK _ _ ?_; clear hKK KK)
    refine wpList_store_row rfl 27 _ _ rfl (w.heap.size + 1) #[.int .i64 (n : Int), .int .u64 (D : Int), .int .u64 (A : Int), .int .u64 (U : Int), .bool true, .int .i64 (f1 : Int), .int .i64 (us : Int), .bool ev, .bool al] rfl rfl 27 #[.int .i64 (n : Int), .int .u64 (D : Int), .int .u64 (A : Int), .int .u64 (U : Int), .bool true, .int .i64 (fe : Int), .int .i64 (us : Int), .bool ev, .bool al] X.out.1.2.2.1 infoDQ rfl (by simp [Value.oneCell']) ?_
    have Y : Hid (Hs w (w7.setRow (w.heap.size + 1) #[.int .i64 (n : Int), .int .u64 (D : Int), .int .u64 (A : Int), .int .u64 (U : Int), .bool true, .int .i64 (f1 : Int), .int .i64 (us : Int), .bool ev, .bool al]) F xa xn xc xs (n : Int) D A U true f1 us ev al ha m hc hs #[.int .u64 0, .slice none 0 0, .int .i64 0, .int .u64 0, .int .u64 0, .int .u64 0, .bool false, .int .i64 0, .int .i64 0, .bool false, .bool false, .slice none 0 0, .bool false, .int .i64 0] ∧ SegIn 0 (w7.setRow (w.heap.size + 1) #[.int .i64 (n : Int), .int .u64 (D : Int), .int .u64 (A : Int), .int .u64 (U : Int), .bool true, .int .i64 (f1 : Int), .int .i64 (us : Int), .bool ev, .bool al]) (.slice a1 L c1) l ∧ (w7.setRow (w.heap.size + 1) #[.int .i64 (n : Int), .int .u64 (D : Int), .int .u64 (A : Int), .int .u64 (U : Int), .bool true, .int .i64 (f1 : Int), .int .i64 (us : Int), .bool ev, .bool al]).heap[p14]? = some (.cells #[.slice a1 L c1, .int .u64 (ta : Int), .int .u64 (tl : Int)] 64 (0, 0))) := ⟨X.out.1.put1 f1 us, X.out.2.1.kept (fun g hg => setRow_other _ _ _ _ (fun e => seg_no_box X.out.2.1 hg (e ▸ X.out.1.2.2.1))), (setRow_other _ _ _ _ (fun e => row_types X.out.2.2.2 (e ▸ X.out.1.2.2.1))).trans X.out.2.2.2⟩
    clear X c0 c1' c2 c3 c4 c5 c6 c7 c8
    generalize w7.setRow (w.heap.size + 1) #[.int .i64 (n : Int), .int .u64 (D : Int), .int .u64 (A : Int), .int .u64 (U : Int), .bool true, .int .i64 (f1 : Int), .int .i64 (us : Int), .bool ev, .bool al] = w8 at *
    go_upto_region 15 with fail
    obtain ⟨r0, r1, _, _⟩ := box_facts Y.out.1.2.1
    obtain ⟨p0, p1, p2⟩ := box3_facts Y.out.2.2
    have KL : Hid (∀ V, Hs w V F xa xn xc xs (n : Int) D A U true f1 us ev al ha m hc hs #[.int .u64 0, .slice none 0 0, .int .i64 0, .int .u64 0, .int .u64 0, .int .u64 0, .bool false, .int .i64 0, .int .i64 0, .bool false, .bool false, .slice none 0 0, .bool false, .int .i64 0] → SegIn 0 V (.slice a1 L c1) l → Calls Tryz.prog 35 #[.agg #[.int .u64 8192, .slice xa xn xc], .agg #[.slice a1 L c1, .int .u64 (ta : Int), .int .u64 (tl : Int)], .int .u8 (b : Int)] V fun r w' => ∃ ya yn yc ys, r = .returned (.tuple #[.agg #[.int .u64 8192, .slice ya yn yc], .int .u32 (cntN l : Int)]) ∧ yn ≤ xn + 4000 ∧ RefIn (fun k => F k ∨ (Value.slice ha m hc).ownBlock = some k) w' (.slice ya yn yc) yn ys ∧ (∀ q, rget ys yn q = fillM b l M q) ∧ Rng ys yn 8192 ∧ Below V.heap.size V w') := by
      intro V hV hs
      have := HM.out.1
      exact dfill_any hV.2.2.2.2.1 HM.out.2.1 HM.out.2.2.1 (by omega) (hV.lt HC.out.2.2.2.2) HM.out.2.2.2.1 hs HR.out.2.1 HR.out.2.2.1 ta tl b HC.out.2.2.1
    obtain ⟨cn, hcn⟩ : ∃ cn, cntN l = cn := ⟨_, rfl⟩
    rw [hcn] at KL HR
    have HCN : Hid (cn ≤ 4294967295) := hcn ▸ cnt_le l
    clear hcn
    refine wp_region_list ?_
    (refine wpList_step (fun KK hKK => ?_); go_simp; refine hKK _ _ ?_; clear hKK KK)
    (refine wpList_step (fun KK hKK => ?_); go_simp; refine hKK _ _ ?_; clear hKK KK)
    (refine wpList_step (fun KK hKK => ?_); go_simp; refine hKK _ _ ?_; clear hKK KK)
    refine wpList_step (fun KK hKK => ?_)
    go_simp
    refine (KL.out _ Y.out.1 Y.out.2.1).mono ?_
    rintro r wa ⟨ya, yn, yc, ys, rfl, hyn, hry, hgy, hrgy, hba⟩
    have Ya : Hid (Hs w wa F xa xn xc xs (n : Int) D A U true f1 us ev al ha m hc hs #[.int .u64 0, .slice none 0 0, .int .i64 0, .int .u64 0, .int .u64 0, .int .u64 0, .bool false, .int .i64 0, .int .i64 0, .bool false, .bool false, .slice none 0 0, .bool false, .int .i64 0] ∧ RefIn (fun k => F k ∨ (Value.slice ha m hc).ownBlock = some k) wa (.slice ya yn yc) yn ys) := ⟨Y.out.1.below hba, hry⟩
    have HM2 : Hid (yn ≤ xn + 4000 ∧ (∀ q, rget ys yn q = fillM b l M q) ∧ (∀ a, fillM b l M a ≤ 255) ∧ Rng ys yn 8192 ∧ us ≤ 65535) := ⟨hyn, hgy, fill_byte HC.out.2.2.1 l HM.out.2.2.1, hrgy, HM.out.2.2.2.2⟩
    clear hyn hry hgy hrgy hba Y KL HM r0 r1 p0 p1 p2
    refine hKK _ _ ?_
    clear hKK KK
    (refine wpList_step (fun KK hKK => ?_); go_simp; refine hKK _ _ ?_; clear hKK KK)
    (refine wpList_step (fun KK hKK => ?_); go_simp; refine hKK _ _ ?_; clear hKK KK)
    (refine wpList_step (fun KK hKK => ?_); go_simp; refine hKK _ _ ?_; clear hKK KK)
    refine wpList_store_row rfl 33 _ _ rfl (w.heap.size) #[.int .u64 8192, .slice ya yn yc] rfl rfl 33 #[.int .u64 8192, .slice xa xn xc] Ya.out.1.2.1 infoDR rfl (by simp [Value.oneCell']) ?_
    have Y : Hid (Hs w (wa.setRow (w.heap.size) #[.int .u64 8192, .slice ya yn yc]) F ya yn yc ys (n : Int) D A U true f1 us ev al ha m hc hs #[.int .u64 0, .slice none 0 0, .int .i64 0, .int .u64 0, .int .u64 0, .int .u64 0, .bool false, .int .i64 0, .int .i64 0, .bool false, .bool false, .slice none 0 0, .bool false, .int .i64 0]) := Ya.out.1.put0 Ya.out.2
    clear Ya
    generalize wa.setRow (w.heap.size) #[.int .u64 8192, .slice ya yn yc] = wb at *
    go_upto_region 16 with fail
    obtain ⟨r0, r1, _, _⟩ := box_facts Y.out.2.1
    obtain ⟨c0, c1', c2, c3, c4, c5, c6, c7, c8⟩ := box9_facts Y.out.2.2.1
    obtain ⟨u1, hu1⟩ : ∃ u1, upN us = u1 := ⟨_, rfl⟩
    have KR : Hid (∀ V, Hs w V F ya yn yc ys (n : Int) D A U true f1 us ev al ha m hc hs #[.int .u64 0, .slice none 0 0, .int .i64 0, .int .u64 0, .int .u64 0, .int .u64 0, .bool false, .int .i64 0, .int .i64 0, .bool false, .bool false, .slice none 0 0, .bool false, .int .i64 0] → Calls Tryz.prog 22 #[.agg #[.int .u64 8192, .slice ya yn yc], .agg #[.int .i64 (n : Int), .int .u64 (D : Int), .int .u64 (A : Int), .int .u64 (U : Int), .bool true, .int .i64 (f1 : Int), .int .i64 (us : Int), .bool ev, .bool al], .int .i64 (h : Int), .int .u32 (cn : Int)] V fun r w' => ∃ za zn zc zs, r = .returned (.tuple #[.agg #[.int .u64 8192, .slice za zn zc], .agg #[.int .i64 (n : Int), .int .u64 (D : Int), .int .u64 (A : Int), .int .u64 (U : Int), .bool true, .int .i64 (f1 : Int), .int .i64 (u1 : Int), .bool ev, .bool al]]) ∧ zn ≤ yn + 10 ∧ RefIn (fun k => F k ∨ (Value.slice ha m hc).ownBlock = some k) w' (.slice za zn zc) zn zs ∧ (∀ q, rget zs zn q = retM (fillM b l M) n U us h cn q) ∧ Rng zs zn 8192 ∧ Below V.heap.size V w') := by
      intro V hV
      rw [← hu1]
      exact dreturn_any hV.2.2.2.2.1 HM2.out.2.1 HM2.out.2.2.1 (by have := HM2.out.1; have := HI.out.2.2.2.1; omega) (hV.lt HC.out.2.2.2.2) HM2.out.2.2.2.1 HC.out.1 h cn HM2.out.2.2.2.2 HR.out.1 HCN.out
    rw [hu1] at HR
    have HU1 : Hid (u1 ≤ 65535) := hu1 ▸ up_le us
    clear hu1
    refine wp_region_list ?_
    (refine wpList_step (fun KK hKK => ?_); go_simp; refine hKK _ _ ?_; clear hKK KK)
    (refine wpList_step (fun KK hKK => ?_); go_simp; refine hKK _ _ ?_; clear hKK KK)
    (refine wpList_step (fun KK hKK => ?_); go_simp; refine hKK _ _ ?_; clear hKK KK)
    (refine wpList_step (fun KK hKK => ?_); go_simp; refine hKK _ _ ?_; clear hKK KK)
    refine wpList_step (fun KK hKK => ?_)
    go_simp
    refine (KR.out _ Y.out).mono ?_
    rintro r wc ⟨za, zn, zc, zs, rfl, hzn, hrz, hgz, hrgz, hbc⟩
    have Yc : Hid (Hs w wc F ya yn yc ys (n : Int) D A U true f1 us ev al ha m hc hs #[.int .u64 0, .slice none 0 0, .int .i64 0, .int .u64 0, .int .u64 0, .int .u64 0, .bool false, .int .i64 0, .int .i64 0, .bool false, .bool false, .slice none 0 0, .bool false, .int .i64 0] ∧ RefIn (fun k => F k ∨ (Value.slice ha m hc).ownBlock = some k) wc (.slice za zn zc) zn zs) := ⟨Y.out.below hbc, hrz⟩
    have HM3 : Hid (zn ≤ yn + 10 ∧ (∀ q, rget zs zn q = retM (fillM b l M) n U us h cn q) ∧ (∀ a, retM (fillM b l M) n U us h cn a ≤ 255) ∧ Rng zs zn 8192) := ⟨hzn, hgz, ret_byte HM2.out.2.2.1, hrgz⟩
    clear hzn hrz hgz hrgz hbc Y KR r0 r1 c0 c1' c2 c3 c4 c5 c6 c7 c8
    refine hKK _ _ ?_
    clear hKK KK
    (refine wpList_step (fun KK hKK => ?_); go_simp; refine hKK _ _ ?_; clear hKK KK)
    (refine wpList_step (fun KK hKK => ?_); go_simp; refine hKK _ _ ?_; clear hKK KK)
    (refine wpList_step (fun KK hKK => ?_); go_simp; refine hKK _ _ ?_; clear hKK KK)
    refine wpList_store_row rfl 33 _ _ rfl (w.heap.size) #[.int .u64 8192, .slice za zn zc] rfl rfl 33 #[.int .u64 8192, .slice ya yn yc] Yc.out.1.2.1 infoDR rfl (by simp [Value.oneCell']) ?_
    have Yd : Hid (Hs w (wc.setRow (w.heap.size) #[.int .u64 8192, .slice za zn zc]) F za zn zc zs (n : Int) D A U true f1 us ev al ha m hc hs #[.int .u64 0, .slice none 0 0, .int .i64 0, .int .u64 0, .int .u64 0, .int .u64 0, .bool false, .int .i64 0, .int .i64 0, .bool false, .bool false, .slice none 0 0, .bool false, .int .i64 0]) := Yc.out.1.put0 Yc.out.2
    clear Yc
    generalize wc.setRow (w.heap.size) #[.int .u64 8192, .slice za zn zc] = wd at *
    refine wpList_store_row rfl 27 _ _ rfl (w.heap.size + 1) #[.int .i64 (n : Int), .int .u64 (D : Int), .int .u64 (A : Int), .int .u64 (U : Int), .bool true, .int .i64 (f1 : Int), .int .i64 (u1 : Int), .bool ev, .bool al] rfl rfl 27 #[.int .i64 (n : Int), .int .u64 (D : Int), .int .u64 (A : Int), .int .u64 (U : Int), .bool true, .int .i64 (f1 : Int), .int .i64 (us : Int), .bool ev, .bool al] Yd.out.2.2.1 infoDQ rfl (by simp [Value.oneCell']) ?_
    have Y : Hid (Hs w (wd.setRow (w.heap.size + 1) #[.int .i64 (n : Int), .int .u64 (D : Int), .int .u64 (A : Int), .int .u64 (U : Int), .bool true, .int .i64 (f1 : Int), .int .i64 (u1 : Int), .bool ev, .bool al]) F za zn zc zs (n : Int) D A U true f1 u1 ev al ha m hc hs #[.int .u64 0, .slice none 0 0, .int .i64 0, .int .u64 0, .int .u64 0, .int .u64 0, .bool false, .int .i64 0, .int .i64 0, .bool false, .bool false, .slice none 0 0, .bool false, .int .i64 0]) := Yd.out.put1 f1 u1
    clear Yd
    generalize wd.setRow (w.heap.size + 1) #[.int .i64 (n : Int), .int .u64 (D : Int), .int .u64 (A : Int), .int .u64 (U : Int), .bool true, .int .i64 (f1 : Int), .int .i64 (u1 : Int), .bool ev, .bool al] = we at *
    go_upto_region 17 with fail
    refine wp_region_list ?_
    (refine wpList_step (fun KK hKK => ?_); go_simp; refine hKK _ _ ?_; clear hKK KK)
    (refine wpList_step (fun KK hKK => ?_); go_simp; refine hKK _ _ ?_; clear hKK KK)
    (refine wpList_step (fun KK hKK => ?_); go_simp; refine hKK _ _ ?_; clear hKK KK)
    have hb3 : Below we.heap.size we (we.alloc (.cells #[.int .i64 (h : Int)] 3)) := one_box _ _
    have Y3 : Hid (Hs w (we.alloc (.cells #[.int .i64 (h : Int)] 3)) F za zn zc zs (n : Int) D A U true f1 u1 ev al ha m hc hs #[.int .u64 0, .slice none 0 0, .int .i64 0, .int .u64 0, .int .u64 0, .int .u64 0, .bool false, .int .i64 0, .int .i64 0, .bool false, .bool false, .slice none 0 0, .bool false, .int .i64 0]) := Y.out.below hb3
    have HN3 : Hid (∀ j u, [Value.int .i64 (h : Int)][j]? = some u → (we.alloc (.cells #[.int .i64 (h : Int)] 3)).cell? ((⟨we.heap.size, 0, none⟩ : Addr).add j) = some u) := cell_one_new we _ _
    clear hb3 Y
    generalize we.alloc (.cells #[.int .i64 (h : Int)] 3) = w3 at *
    generalize we.heap.size = q3 at *
    refine wpList_append_own_at w3 rfl _ _ 46 rfl (w.heap.size + 3) 3 i0 (.int .i64 0) 1 8 Tryz.underlying46 hi0 hz0 hz1 hz2 rfl (by decide) (.slice ha m hc) m hs rfl Y3.out.2.2.2.2.2 ⟨q3, 0, none⟩ 1 1 [.int .i64 (h : Int)] rfl rfl HN3.out (by intro u hu; simp at hu; subst hu; rfl) (by have := HI.out.2.2.1; unfold maxLen; omega) (by have := HI.out.2.2.1; omega) (by have := (Array.getElem?_eq_some_iff.1 Y3.out.2.2.2.1).1; omega) ?_
    intro v' w4 hown hgrow hnil hat
    obtain ⟨ha', hc', rfl⟩ := own_shape hown
    have X4 : Hid (Hs w w4 F za zn zc zs (n : Int) D A U true f1 u1 ev al ha' (m + 1) hc' (hs ++ [.int .i64 (h : Int)]) #[.int .u64 0, .slice none 0 0, .int .i64 0, .int .u64 0, .int .u64 0, .int .u64 0, .bool false, .int .i64 0, .int .i64 0, .bool false, .bool false, .slice none 0 0, .bool false, .int .i64 0]) := by
      obtain ⟨y1, y2, y3, y4, y5, y6⟩ := Y3.out
      have hne : ∀ q, q < w.heap.size + 3 → some q ≠ (Value.slice ha m hc).ownBlock := fun q hq e => by have := (y6.lt q e.symm).1; omega
      have hk : ∀ q o, q < w.heap.size + 3 → w3.heap[q]? = some o → w4.heap[q]? = some o := fun q o hq ho => (hgrow.block q (Array.getElem?_eq_some_iff.1 ho).1 (hne q hq)).trans ho
      exact ⟨Below.grown y1 hgrow y1.size (fun g hg => by have := (y6.lt g hg).1; omega), hk _ _ (by omega) y2, hk _ _ (by omega) y3, hk _ _ (by omega) y4, ref_grow (w := w) y5 hgrow hat, hown⟩
    clear hown hgrow hnil hat Y3 HN3
    go_wp2_with fail
    go_roundw
    case rel => exact ⟨i + 1, j, t1, hs ++ [.int .i64 (h : Int)], retM (fillM b l M) n U us h cn, f1, u1, za, zn, zc, zs, ha', m + 1, hc', rfl, rfl, by go_num, by have := HI.out.1; have := HT1.out; have := HT3.out; omega, by have := HI.out.2.1; omega, by rw [HI.out.2.2.1], HI.out.2.2.2.2.1, HU1.out, by have := HI.out.2.2.2.1; have := HT1.out; have := HT3.out; have := HM3.out.1; have := HM2.out.1; omega, HM3.out.2.1, HM3.out.2.2.1, HM3.out.2.2.2, X4.out, HR.out.2.2.2⟩
    case measure => simp [intOf]; have := HT1.out; have := HT3.out; omega
end Go.Proofs.YtmjdnocilbnoaaaGreat

/- The document's Serve: a queue that is not ready, a layout that may not be. -/
namespace Go.Proofs.YtmjdnocilbnoaaaGreat
open Go.RowKit Go.Maps
set_option linter.unusedVariables false
set_option linter.unusedSimpArgs false
set_option maxRecDepth 100000
set_option maxHeartbeats 4000000 in
theorem dserve_off {F : Nat → Prop} {w : World} {xa : Option Addr} {xn xc : Nat} {xs : Nat → Nat × Nat} {M : Nat → Nat} (href : RefIn F w (.slice xa xn xc) xn xs) (hgt : ∀ q, rget xs xn q = M q) (hle : ∀ a, M a ≤ 255) (hnn : xn ≤ 900000) (hrg : Rng xs xn 8192) {s : Int} {D A U : Nat} {ev al : Bool} {fe us : Nat}  (b t0 : Nat) (hn12 : xn ≤ 12000) :
    Calls Tryz.prog 12 #[.agg #[.int .u64 8192, .slice xa xn xc], .agg #[.int .i64 s, .int .u64 (D : Int), .int .u64 (A : Int), .int .u64 (U : Int), .bool false, .int .i64 (fe : Int), .int .i64 (us : Int), .bool ev, .bool al], .int .u8 (b : Int), .int .i64 (t0 : Int)] w fun r w' => ∃ ya yn yc ys ha m hc, r = .returned (.agg #[.int .u64 8192, .slice ya yn yc, .int .i64 s, .int .u64 (D : Int), .int .u64 (A : Int), .int .u64 (U : Int), .bool false, .int .i64 (fe : Int), .int .i64 (us : Int), .bool ev, .bool al, .slice ha m hc, .bool false, .int .i64 0]) ∧ yn ≤ 190000 ∧ RefIn F w' (.slice ya yn yc) yn ys ∧ (∀ q, rget ys yn q = M q) ∧ Rng ys yn 8192 ∧ Below w.heap.size w w' := by
  have XB : Hid (Hs w (((w.alloc (.cells #[.int .u64 8192, .slice xa xn xc] 33)).alloc (.cells #[.int .i64 s, .int .u64 (D : Int), .int .u64 (A : Int), .int .u64 (U : Int), .bool false, .int .i64 (fe : Int), .int .i64 (us : Int), .bool ev, .bool al] 27)).alloc (.cells #[.int .u64 0, .slice none 0 0, .int .i64 0, .int .u64 0, .int .u64 0, .int .u64 0, .bool false, .int .i64 0, .int .i64 0, .bool false, .bool false, .slice none 0 0, .bool false, .int .i64 0] 48)) F xa xn xc xs s D A U false fe us ev al none 0 0 [] #[.int .u64 0, .slice none 0 0, .int .i64 0, .int .u64 0, .int .u64 0, .int .u64 0, .bool false, .int .i64 0, .int .i64 0, .bool false, .bool false, .slice none 0 0, .bool false, .int .i64 0]) := hs_new href
  have HM : Hid (xn ≤ 190000 ∧ (∀ q, rget xs xn q = M q) ∧ Rng xs xn 8192) := ⟨by omega, hgt, hrg⟩
  have KF : Hid (∀ V, Calls Tryz.prog 17 #[.agg #[.int .u64 8192, .slice xa xn xc], .agg #[.int .i64 s, .int .u64 (D : Int), .int .u64 (A : Int), .int .u64 (U : Int), .bool false, .int .i64 (fe : Int), .int .i64 (us : Int), .bool ev, .bool al]] V fun r w' => r = .returned (.tuple #[.agg #[.int .i64 s, .int .u64 (D : Int), .int .u64 (A : Int), .int .u64 (U : Int), .bool false, .int .i64 (fe : Int), .int .i64 (us : Int), .bool ev, .bool al], .int .i64 (-1), .agg #[.slice none 0 0, .int .u64 0, .int .u64 0], .bool false, .int .i64 0]) ∧ Below V.heap.size V w') := fun V => dfetch_off
  clear href hgt hle hnn hrg hn12
  go_enter Tryz.func12, Tryz.ntmps12
  go_upto_region 1 with fail
  generalize ((w.alloc (.cells #[.int .u64 8192, .slice xa xn xc] 33)).alloc (.cells #[.int .i64 s, .int .u64 (D : Int), .int .u64 (A : Int), .int .u64 (U : Int), .bool false, .int .i64 (fe : Int), .int .i64 (us : Int), .bool ev, .bool al] 27)).alloc (.cells #[.int .u64 0, .slice none 0 0, .int .i64 0, .int .u64 0, .int .u64 0, .int .u64 0, .bool false, .int .i64 0, .int .i64 0, .bool false, .bool false, .slice none 0 0, .bool false, .int .i64 0] 48) = v0 at *
  obtain ⟨c0, c1, c2, c3, c4, c5, c6, c7, c8⟩ := box9_facts XB.out.2.2.1
  obtain ⟨r0, r1, _, _⟩ := box_facts XB.out.2.1
  go_wp2_with fail
  clear c0 c1 c2 c3 c4 c5 c6 c7 c8 r0 r1
  go_loopw [3, 10, 11] (fun vt hv x wr => vt = .int .i64 (t0 : Int) ∧ hv = .slice none 0 0 ∧ x = .int .i64 0 ∧ Hs w wr F xa xn xc xs s D A U false fe us ev al none 0 0 [] #[.int .u64 0, .slice none 0 0, .int .i64 0, .int .u64 0, .int .u64 0, .int .u64 0, .bool false, .int .i64 0, .int .i64 0, .bool false, .bool false, .slice none 0 0, .bool false, .int .i64 0]) (fun _ _ _ _ => 0)
  case atStart => exact ⟨rfl, rfl, rfl, XB.out⟩
  case round =>
    clear XB
    obtain ⟨rfl, rfl, rfl, hx⟩ := hrel
    have X : Hid (Hs w wr F xa xn xc xs s D A U false fe us ev al none 0 0 [] #[.int .u64 0, .slice none 0 0, .int .i64 0, .int .u64 0, .int .u64 0, .int .u64 0, .bool false, .int .i64 0, .int .i64 0, .bool false, .bool false, .slice none 0 0, .bool false, .int .i64 0]) := hx
    clear hx
    obtain ⟨c0, c1', c2, c3, c4, c5, c6, c7, c8⟩ := box9_facts X.out.2.2.1
    obtain ⟨r0, r1, _, _⟩ := box_facts X.out.2.1
    go_upto_region 7 with (go_at_call 17; refine (KF.out _).mono ?_; rintro r wf ⟨rfl, hbf⟩; have Xf : Hid (Hs w wf F xa xn xc xs s D A U false fe us ev al none 0 0 [] #[.int .u64 0, .slice none 0 0, .int .i64 0, .int .u64 0, .int .u64 0, .int .u64 0, .bool false, .int .i64 0, .int .i64 0, .bool false, .bool false, .slice none 0 0, .bool false, .int .i64 0]) := X.out.below hbf; clear hbf X KF c0 c1' c2 c3 c4 c5 c6 c7 c8 r0 r1)
    have hb7 : Below wf.heap.size wf ((wf.alloc (.cells #[.int .i64 s, .int .u64 (D : Int), .int .u64 (A : Int), .int .u64 (U : Int), .bool false, .int .i64 (fe : Int), .int .i64 (us : Int), .bool ev, .bool al] 27)).alloc (.cells #[.slice none 0 0, .int .u64 0, .int .u64 0] 64)) := ((Below.refl _ _).alloc (Nat.le_refl _) _).alloc (by simp) _
    have h7 := two_in wf (.cells #[.int .i64 s, .int .u64 (D : Int), .int .u64 (A : Int), .int .u64 (U : Int), .bool false, .int .i64 (fe : Int), .int .i64 (us : Int), .bool ev, .bool al] 27) (.cells #[.slice none 0 0, .int .u64 0, .int .u64 0] 64)
    have X : Hid (Hs w ((wf.alloc (.cells #[.int .i64 s, .int .u64 (D : Int), .int .u64 (A : Int), .int .u64 (U : Int), .bool false, .int .i64 (fe : Int), .int .i64 (us : Int), .bool ev, .bool al] 27)).alloc (.cells #[.slice none 0 0, .int .u64 0, .int .u64 0] 64)) F xa xn xc xs s D A U false fe us ev al none 0 0 [] #[.int .u64 0, .slice none 0 0, .int .i64 0, .int .u64 0, .int .u64 0, .int .u64 0, .bool false, .int .i64 0, .int .i64 0, .bool false, .bool false, .slice none 0 0, .bool false, .int .i64 0] ∧ 0 = 0 ∧ ((wf.alloc (.cells #[.int .i64 s, .int .u64 (D : Int), .int .u64 (A : Int), .int .u64 (U : Int), .bool false, .int .i64 (fe : Int), .int .i64 (us : Int), .bool ev, .bool al] 27)).alloc (.cells #[.slice none 0 0, .int .u64 0, .int .u64 0] 64)).heap[wf.heap.size]? = some (.cells #[.int .i64 s, .int .u64 (D : Int), .int .u64 (A : Int), .int .u64 (U : Int), .bool false, .int .i64 (fe : Int), .int .i64 (us : Int), .bool ev, .bool al] 27 (0, 0))) := ⟨Xf.out.below hb7, rfl, h7.1⟩
    clear hb7 h7 Xf
    generalize (wf.alloc (.cells #[.int .i64 s, .int .u64 (D : Int), .int .u64 (A : Int), .int .u64 (U : Int), .bool false, .int .i64 (fe : Int), .int .i64 (us : Int), .bool ev, .bool al] 27)).alloc (.cells #[.slice none 0 0, .int .u64 0, .int .u64 0] 64) = w7 at *
    generalize wf.heap.size = p12 at *
    obtain ⟨c0, c1', c2, c3, c4, c5, c6, c7, c8⟩ := box9_facts X.out.1.2.2.1
    go_upto_region 20 with fail
    clear c0 c1' c2 c3 c4 c5 c6 c7 c8
    obtain ⟨c0, c1, c2, c3, c4, c5, c6, c7, c8⟩ := box9_facts X.out.1.2.2.1
    obtain ⟨r0, r1, _, _⟩ := box_facts X.out.1.2.1
    go_upto_region 21 with fail
    have X8 : Hid (He w (w7.alloc (.cells #[.int .u64 8192, .slice xa xn xc, .int .i64 s, .int .u64 (D : Int), .int .u64 (A : Int), .int .u64 (U : Int), .bool false, .int .i64 (fe : Int), .int .i64 (us : Int), .bool ev, .bool al, .slice none 0 0, .bool false, .int .i64 0] 48)) F xa xn xc xs (w.heap.size + 1) w7.heap.size s D A U false fe us ev al #[.int .u64 0, .slice none 0 0, .int .i64 0, .int .u64 0, .int .u64 0, .int .u64 0, .bool false, .int .i64 0, .int .i64 0, .bool false, .bool false, .slice none 0 0, .bool false, .int .i64 0] #[.int .u64 8192, .slice xa xn xc, .int .i64 s, .int .u64 (D : Int), .int .u64 (A : Int), .int .u64 (U : Int), .bool false, .int .i64 (fe : Int), .int .i64 (us : Int), .bool ev, .bool al, .slice none 0 0, .bool false, .int .i64 0]) := he_new X.out.1 X.out.1.2.2.1 _
    clear X c0 c1 c2 c3 c4 c5 c6 c7 c8 r0 r1
    generalize w7.alloc (.cells #[.int .u64 8192, .slice xa xn xc, .int .i64 s, .int .u64 (D : Int), .int .u64 (A : Int), .int .u64 (U : Int), .bool false, .int .i64 (fe : Int), .int .i64 (us : Int), .bool ev, .bool al, .slice none 0 0, .bool false, .int .i64 0] 48) = w8 at *
    generalize w7.heap.size = pb at *
    obtain ⟨c0, c1, c2, c3, c4, c5, c6, c7, c8⟩ := box9_facts X8.out.2.2.1
    obtain ⟨r0, r1, _, _⟩ := box_facts X8.out.2.1
    have c12 := cellOf X8.out.2.2.2.2.1 12 _ rfl
    have f12 := frozenOf X8.out.2.2.2.2.1 12
    have q2 : ((us : Int) != (us : Int)) = false := by simp
    go_upto_region 22 with fail
    have XE : Hid (He w (w8.setCell ⟨pb, 12, none⟩ (.bool false)) F xa xn xc xs (w.heap.size + 1) pb s D A U false fe us ev al #[.int .u64 0, .slice none 0 0, .int .i64 0, .int .u64 0, .int .u64 0, .int .u64 0, .bool false, .int .i64 0, .int .i64 0, .bool false, .bool false, .slice none 0 0, .bool false, .int .i64 0] #[.int .u64 8192, .slice xa xn xc, .int .i64 s, .int .u64 (D : Int), .int .u64 (A : Int), .int .u64 (U : Int), .bool false, .int .i64 (fe : Int), .int .i64 (us : Int), .bool ev, .bool al, .slice none 0 0, .bool false, .int .i64 0]) := X8.out.tell false rfl
    clear X8 c0 c1 c2 c3 c4 c5 c6 c7 c8 r0 r1 c12 f12
    generalize w8.setCell ⟨pb, 12, none⟩ (.bool false) = w9 at *
    refine wp_region_list ?_
    refine wpList_load_row rfl 48 _ rfl pb rfl 48 #[.int .u64 8192, .slice xa xn xc, .int .i64 s, .int .u64 (D : Int), .int .u64 (A : Int), .int .u64 (U : Int), .bool false, .int .i64 (fe : Int), .int .i64 (us : Int), .bool ev, .bool al, .slice none 0 0, .bool false, .int .i64 0] (0, 0) _ XE.out.2.2.2.2.1 Tryz.underlying48 rfl infoSV ?_
    refine wpList_store_row rfl 48 _ _ rfl (w.heap.size + 2) #[.int .u64 8192, .slice xa xn xc, .int .i64 s, .int .u64 (D : Int), .int .u64 (A : Int), .int .u64 (U : Int), .bool false, .int .i64 (fe : Int), .int .i64 (us : Int), .bool ev, .bool al, .slice none 0 0, .bool false, .int .i64 0] rfl rfl 48 #[.int .u64 0, .slice none 0 0, .int .i64 0, .int .u64 0, .int .u64 0, .int .u64 0, .bool false, .int .i64 0, .int .i64 0, .bool false, .bool false, .slice none 0 0, .bool false, .int .i64 0] XE.out.2.2.2.1 infoSV rfl (by simp [Value.oneCell']) ?_
    have XL : Hid ((w9.setRow (w.heap.size + 2) #[.int .u64 8192, .slice xa xn xc, .int .i64 s, .int .u64 (D : Int), .int .u64 (A : Int), .int .u64 (U : Int), .bool false, .int .i64 (fe : Int), .int .i64 (us : Int), .bool ev, .bool al, .slice none 0 0, .bool false, .int .i64 0]).heap[w.heap.size + 2]? = some (.cells #[.int .u64 8192, .slice xa xn xc, .int .i64 s, .int .u64 (D : Int), .int .u64 (A : Int), .int .u64 (U : Int), .bool false, .int .i64 (fe : Int), .int .i64 (us : Int), .bool ev, .bool al, .slice none 0 0, .bool false, .int .i64 0] 48 (0, 0)) ∧ RefIn F (w9.setRow (w.heap.size + 2) #[.int .u64 8192, .slice xa xn xc, .int .i64 s, .int .u64 (D : Int), .int .u64 (A : Int), .int .u64 (U : Int), .bool false, .int .i64 (fe : Int), .int .i64 (us : Int), .bool ev, .bool al, .slice none 0 0, .bool false, .int .i64 0]) (.slice xa xn xc) xn xs ∧ Below w.heap.size w (w9.setRow (w.heap.size + 2) #[.int .u64 8192, .slice xa xn xc, .int .i64 s, .int .u64 (D : Int), .int .u64 (A : Int), .int .u64 (U : Int), .bool false, .int .i64 (fe : Int), .int .i64 (us : Int), .bool ev, .bool al, .slice none 0 0, .bool false, .int .i64 0])) := XE.out.put2 #[.int .u64 8192, .slice xa xn xc, .int .i64 s, .int .u64 (D : Int), .int .u64 (A : Int), .int .u64 (U : Int), .bool false, .int .i64 (fe : Int), .int .i64 (us : Int), .bool ev, .bool al, .slice none 0 0, .bool false, .int .i64 0]
    clear XE
    generalize w9.setRow (w.heap.size + 2) #[.int .u64 8192, .slice xa xn xc, .int .i64 s, .int .u64 (D : Int), .int .u64 (A : Int), .int .u64 (U : Int), .bool false, .int .i64 (fe : Int), .int .i64 (us : Int), .bool ev, .bool al, .slice none 0 0, .bool false, .int .i64 0] = wl at *
    go_wp2_with fail
    refine bodyPost_ret (v := .agg #[.int .u64 8192, .slice xa xn xc, .int .i64 s, .int .u64 (D : Int), .int .u64 (A : Int), .int .u64 (U : Int), .bool false, .int .i64 (fe : Int), .int .i64 (us : Int), .bool ev, .bool al, .slice none 0 0, .bool false, .int .i64 0]) (results_cell_row Tryz.results12 _ _ (w.heap.size + 2) 48 _ (0, 0) _ rfl XL.out.1 Tryz.underlying48 rfl infoSV) rfl ?_
    exact ⟨xa, xn, xc, xs, none, 0, 0, rfl, HM.out.1, XL.out.2.1, HM.out.2.1, HM.out.2.2, XL.out.2.2⟩

set_option maxHeartbeats 4000000 in
theorem dserve_bad {F : Nat → Prop} {w : World} {xa : Option Addr} {xn xc : Nat} {xs : Nat → Nat × Nat} {M : Nat → Nat} (href : RefIn F w (.slice xa xn xc) xn xs) (hgt : ∀ q, rget xs xn q = M q) (hle : ∀ a, M a ≤ 255) (hnn : xn ≤ 900000) (hrg : Rng xs xn 8192) {s : Int} {D A U : Nat} {ev al : Bool} {fe us : Nat} (hD : D < 18446744073709551616) (hA : A < 18446744073709551616) (hU : U < 18446744073709551616) (ce : Int) (hce : chkN s D A U 8192 = ce) (hc : ce ≠ 0) (b t0 : Nat) (hn12 : xn ≤ 12000) :
    Calls Tryz.prog 12 #[.agg #[.int .u64 8192, .slice xa xn xc], .agg #[.int .i64 s, .int .u64 (D : Int), .int .u64 (A : Int), .int .u64 (U : Int), .bool true, .int .i64 (fe : Int), .int .i64 (us : Int), .bool ev, .bool al], .int .u8 (b : Int), .int .i64 (t0 : Int)] w fun r w' => ∃ ya yn yc ys ha m hc, r = .returned (.agg #[.int .u64 8192, .slice ya yn yc, .int .i64 s, .int .u64 (D : Int), .int .u64 (A : Int), .int .u64 (U : Int), .bool true, .int .i64 (fe : Int), .int .i64 (us : Int), .bool ev, .bool al, .slice ha m hc, .bool false, .int .i64 ce]) ∧ yn ≤ 190000 ∧ RefIn F w' (.slice ya yn yc) yn ys ∧ (∀ q, rget ys yn q = M q) ∧ Rng ys yn 8192 ∧ Below w.heap.size w w' := by
  have XB : Hid (Hs w (((w.alloc (.cells #[.int .u64 8192, .slice xa xn xc] 33)).alloc (.cells #[.int .i64 s, .int .u64 (D : Int), .int .u64 (A : Int), .int .u64 (U : Int), .bool true, .int .i64 (fe : Int), .int .i64 (us : Int), .bool ev, .bool al] 27)).alloc (.cells #[.int .u64 0, .slice none 0 0, .int .i64 0, .int .u64 0, .int .u64 0, .int .u64 0, .bool false, .int .i64 0, .int .i64 0, .bool false, .bool false, .slice none 0 0, .bool false, .int .i64 0] 48)) F xa xn xc xs s D A U true fe us ev al none 0 0 [] #[.int .u64 0, .slice none 0 0, .int .i64 0, .int .u64 0, .int .u64 0, .int .u64 0, .bool false, .int .i64 0, .int .i64 0, .bool false, .bool false, .slice none 0 0, .bool false, .int .i64 0]) := hs_new href
  have HM : Hid (xn ≤ 190000 ∧ (∀ q, rget xs xn q = M q) ∧ Rng xs xn 8192) := ⟨by omega, hgt, hrg⟩
  have KF : Hid (∀ V, Calls Tryz.prog 17 #[.agg #[.int .u64 8192, .slice xa xn xc], .agg #[.int .i64 s, .int .u64 (D : Int), .int .u64 (A : Int), .int .u64 (U : Int), .bool true, .int .i64 (fe : Int), .int .i64 (us : Int), .bool ev, .bool al]] V fun r w' => r = .returned (.tuple #[.agg #[.int .i64 s, .int .u64 (D : Int), .int .u64 (A : Int), .int .u64 (U : Int), .bool true, .int .i64 (fe : Int), .int .i64 (us : Int), .bool ev, .bool al], .int .i64 (-1), .agg #[.slice none 0 0, .int .u64 0, .int .u64 0], .bool false, .int .i64 ce]) ∧ Below V.heap.size V w') := by
    intro V
    have := @dfetch_chk V xa xn xc s D A U ev al fe us hD hA hU (by rw [hce]; exact hc)
    rw [hce] at this
    exact this
  have q1 : (ce != 0) = true := by simp [hc]
  clear hD hA hU hce hc
  clear href hgt hle hnn hrg hn12
  go_enter Tryz.func12, Tryz.ntmps12
  go_upto_region 1 with fail
  generalize ((w.alloc (.cells #[.int .u64 8192, .slice xa xn xc] 33)).alloc (.cells #[.int .i64 s, .int .u64 (D : Int), .int .u64 (A : Int), .int .u64 (U : Int), .bool true, .int .i64 (fe : Int), .int .i64 (us : Int), .bool ev, .bool al] 27)).alloc (.cells #[.int .u64 0, .slice none 0 0, .int .i64 0, .int .u64 0, .int .u64 0, .int .u64 0, .bool false, .int .i64 0, .int .i64 0, .bool false, .bool false, .slice none 0 0, .bool false, .int .i64 0] 48) = v0 at *
  obtain ⟨c0, c1, c2, c3, c4, c5, c6, c7, c8⟩ := box9_facts XB.out.2.2.1
  obtain ⟨r0, r1, _, _⟩ := box_facts XB.out.2.1
  go_wp2_with fail
  clear c0 c1 c2 c3 c4 c5 c6 c7 c8 r0 r1
  go_loopw [3, 10, 11] (fun vt hv x wr => vt = .int .i64 (t0 : Int) ∧ hv = .slice none 0 0 ∧ x = .int .i64 0 ∧ Hs w wr F xa xn xc xs s D A U true fe us ev al none 0 0 [] #[.int .u64 0, .slice none 0 0, .int .i64 0, .int .u64 0, .int .u64 0, .int .u64 0, .bool false, .int .i64 0, .int .i64 0, .bool false, .bool false, .slice none 0 0, .bool false, .int .i64 0]) (fun _ _ _ _ => 0)
  case atStart => exact ⟨rfl, rfl, rfl, XB.out⟩
  case round =>
    clear XB
    obtain ⟨rfl, rfl, rfl, hx⟩ := hrel
    have X : Hid (Hs w wr F xa xn xc xs s D A U true fe us ev al none 0 0 [] #[.int .u64 0, .slice none 0 0, .int .i64 0, .int .u64 0, .int .u64 0, .int .u64 0, .bool false, .int .i64 0, .int .i64 0, .bool false, .bool false, .slice none 0 0, .bool false, .int .i64 0]) := hx
    clear hx
    obtain ⟨c0, c1', c2, c3, c4, c5, c6, c7, c8⟩ := box9_facts X.out.2.2.1
    obtain ⟨r0, r1, _, _⟩ := box_facts X.out.2.1
    go_upto_region 7 with (go_at_call 17; refine (KF.out _).mono ?_; rintro r wf ⟨rfl, hbf⟩; have Xf : Hid (Hs w wf F xa xn xc xs s D A U true fe us ev al none 0 0 [] #[.int .u64 0, .slice none 0 0, .int .i64 0, .int .u64 0, .int .u64 0, .int .u64 0, .bool false, .int .i64 0, .int .i64 0, .bool false, .bool false, .slice none 0 0, .bool false, .int .i64 0]) := X.out.below hbf; clear hbf X KF c0 c1' c2 c3 c4 c5 c6 c7 c8 r0 r1)
    have hb7 : Below wf.heap.size wf ((wf.alloc (.cells #[.int .i64 s, .int .u64 (D : Int), .int .u64 (A : Int), .int .u64 (U : Int), .bool true, .int .i64 (fe : Int), .int .i64 (us : Int), .bool ev, .bool al] 27)).alloc (.cells #[.slice none 0 0, .int .u64 0, .int .u64 0] 64)) := ((Below.refl _ _).alloc (Nat.le_refl _) _).alloc (by simp) _
    have h7 := two_in wf (.cells #[.int .i64 s, .int .u64 (D : Int), .int .u64 (A : Int), .int .u64 (U : Int), .bool true, .int .i64 (fe : Int), .int .i64 (us : Int), .bool ev, .bool al] 27) (.cells #[.slice none 0 0, .int .u64 0, .int .u64 0] 64)
    have X : Hid (Hs w ((wf.alloc (.cells #[.int .i64 s, .int .u64 (D : Int), .int .u64 (A : Int), .int .u64 (U : Int), .bool true, .int .i64 (fe : Int), .int .i64 (us : Int), .bool ev, .bool al] 27)).alloc (.cells #[.slice none 0 0, .int .u64 0, .int .u64 0] 64)) F xa xn xc xs s D A U true fe us ev al none 0 0 [] #[.int .u64 0, .slice none 0 0, .int .i64 0, .int .u64 0, .int .u64 0, .int .u64 0, .bool false, .int .i64 0, .int .i64 0, .bool false, .bool false, .slice none 0 0, .bool false, .int .i64 0] ∧ 0 = 0 ∧ ((wf.alloc (.cells #[.int .i64 s, .int .u64 (D : Int), .int .u64 (A : Int), .int .u64 (U : Int), .bool true, .int .i64 (fe : Int), .int .i64 (us : Int), .bool ev, .bool al] 27)).alloc (.cells #[.slice none 0 0, .int .u64 0, .int .u64 0] 64)).heap[wf.heap.size]? = some (.cells #[.int .i64 s, .int .u64 (D : Int), .int .u64 (A : Int), .int .u64 (U : Int), .bool true, .int .i64 (fe : Int), .int .i64 (us : Int), .bool ev, .bool al] 27 (0, 0))) := ⟨Xf.out.below hb7, rfl, h7.1⟩
    clear hb7 h7 Xf
    generalize (wf.alloc (.cells #[.int .i64 s, .int .u64 (D : Int), .int .u64 (A : Int), .int .u64 (U : Int), .bool true, .int .i64 (fe : Int), .int .i64 (us : Int), .bool ev, .bool al] 27)).alloc (.cells #[.slice none 0 0, .int .u64 0, .int .u64 0] 64) = w7 at *
    generalize wf.heap.size = p12 at *
    obtain ⟨c0, c1', c2, c3, c4, c5, c6, c7, c8⟩ := box9_facts X.out.1.2.2.1
    go_upto_region 8 with fail
    clear c0 c1' c2 c3 c4 c5 c6 c7 c8
    obtain ⟨c0, c1, c2, c3, c4, c5, c6, c7, c8⟩ := box9_facts X.out.2.2
    obtain ⟨r0, r1, _, _⟩ := box_facts X.out.1.2.1
    go_upto_region 9 with fail
    have X8 : Hid (He w (w7.alloc (.cells #[.int .u64 8192, .slice xa xn xc, .int .i64 s, .int .u64 (D : Int), .int .u64 (A : Int), .int .u64 (U : Int), .bool true, .int .i64 (fe : Int), .int .i64 (us : Int), .bool ev, .bool al, .slice none 0 0, .bool false, .int .i64 ce] 48)) F xa xn xc xs (p12) w7.heap.size s D A U true fe us ev al #[.int .u64 0, .slice none 0 0, .int .i64 0, .int .u64 0, .int .u64 0, .int .u64 0, .bool false, .int .i64 0, .int .i64 0, .bool false, .bool false, .slice none 0 0, .bool false, .int .i64 0] #[.int .u64 8192, .slice xa xn xc, .int .i64 s, .int .u64 (D : Int), .int .u64 (A : Int), .int .u64 (U : Int), .bool true, .int .i64 (fe : Int), .int .i64 (us : Int), .bool ev, .bool al, .slice none 0 0, .bool false, .int .i64 ce]) := he_new X.out.1 X.out.2.2 _
    clear X c0 c1 c2 c3 c4 c5 c6 c7 c8 r0 r1
    generalize w7.alloc (.cells #[.int .u64 8192, .slice xa xn xc, .int .i64 s, .int .u64 (D : Int), .int .u64 (A : Int), .int .u64 (U : Int), .bool true, .int .i64 (fe : Int), .int .i64 (us : Int), .bool ev, .bool al, .slice none 0 0, .bool false, .int .i64 ce] 48) = w8 at *
    generalize w7.heap.size = pb at *
    obtain ⟨c0, c1, c2, c3, c4, c5, c6, c7, c8⟩ := box9_facts X8.out.2.2.1
    obtain ⟨r0, r1, _, _⟩ := box_facts X8.out.2.1
    have c12 := cellOf X8.out.2.2.2.2.1 12 _ rfl
    have f12 := frozenOf X8.out.2.2.2.2.1 12
    have q2 : ((us : Int) != (us : Int)) = false := by simp
    go_upto_region 10 with fail
    have XE : Hid (He w (w8.setCell ⟨pb, 12, none⟩ (.bool false)) F xa xn xc xs (p12) pb s D A U true fe us ev al #[.int .u64 0, .slice none 0 0, .int .i64 0, .int .u64 0, .int .u64 0, .int .u64 0, .bool false, .int .i64 0, .int .i64 0, .bool false, .bool false, .slice none 0 0, .bool false, .int .i64 0] #[.int .u64 8192, .slice xa xn xc, .int .i64 s, .int .u64 (D : Int), .int .u64 (A : Int), .int .u64 (U : Int), .bool true, .int .i64 (fe : Int), .int .i64 (us : Int), .bool ev, .bool al, .slice none 0 0, .bool false, .int .i64 ce]) := X8.out.tell false rfl
    clear X8 c0 c1 c2 c3 c4 c5 c6 c7 c8 r0 r1 c12 f12
    generalize w8.setCell ⟨pb, 12, none⟩ (.bool false) = w9 at *
    refine wp_region_list ?_
    refine wpList_load_row rfl 48 _ rfl pb rfl 48 #[.int .u64 8192, .slice xa xn xc, .int .i64 s, .int .u64 (D : Int), .int .u64 (A : Int), .int .u64 (U : Int), .bool true, .int .i64 (fe : Int), .int .i64 (us : Int), .bool ev, .bool al, .slice none 0 0, .bool false, .int .i64 ce] (0, 0) _ XE.out.2.2.2.2.1 Tryz.underlying48 rfl infoSV ?_
    refine wpList_store_row rfl 48 _ _ rfl (w.heap.size + 2) #[.int .u64 8192, .slice xa xn xc, .int .i64 s, .int .u64 (D : Int), .int .u64 (A : Int), .int .u64 (U : Int), .bool true, .int .i64 (fe : Int), .int .i64 (us : Int), .bool ev, .bool al, .slice none 0 0, .bool false, .int .i64 ce] rfl rfl 48 #[.int .u64 0, .slice none 0 0, .int .i64 0, .int .u64 0, .int .u64 0, .int .u64 0, .bool false, .int .i64 0, .int .i64 0, .bool false, .bool false, .slice none 0 0, .bool false, .int .i64 0] XE.out.2.2.2.1 infoSV rfl (by simp [Value.oneCell']) ?_
    have XL : Hid ((w9.setRow (w.heap.size + 2) #[.int .u64 8192, .slice xa xn xc, .int .i64 s, .int .u64 (D : Int), .int .u64 (A : Int), .int .u64 (U : Int), .bool true, .int .i64 (fe : Int), .int .i64 (us : Int), .bool ev, .bool al, .slice none 0 0, .bool false, .int .i64 ce]).heap[w.heap.size + 2]? = some (.cells #[.int .u64 8192, .slice xa xn xc, .int .i64 s, .int .u64 (D : Int), .int .u64 (A : Int), .int .u64 (U : Int), .bool true, .int .i64 (fe : Int), .int .i64 (us : Int), .bool ev, .bool al, .slice none 0 0, .bool false, .int .i64 ce] 48 (0, 0)) ∧ RefIn F (w9.setRow (w.heap.size + 2) #[.int .u64 8192, .slice xa xn xc, .int .i64 s, .int .u64 (D : Int), .int .u64 (A : Int), .int .u64 (U : Int), .bool true, .int .i64 (fe : Int), .int .i64 (us : Int), .bool ev, .bool al, .slice none 0 0, .bool false, .int .i64 ce]) (.slice xa xn xc) xn xs ∧ Below w.heap.size w (w9.setRow (w.heap.size + 2) #[.int .u64 8192, .slice xa xn xc, .int .i64 s, .int .u64 (D : Int), .int .u64 (A : Int), .int .u64 (U : Int), .bool true, .int .i64 (fe : Int), .int .i64 (us : Int), .bool ev, .bool al, .slice none 0 0, .bool false, .int .i64 ce])) := XE.out.put2 #[.int .u64 8192, .slice xa xn xc, .int .i64 s, .int .u64 (D : Int), .int .u64 (A : Int), .int .u64 (U : Int), .bool true, .int .i64 (fe : Int), .int .i64 (us : Int), .bool ev, .bool al, .slice none 0 0, .bool false, .int .i64 ce]
    clear XE
    generalize w9.setRow (w.heap.size + 2) #[.int .u64 8192, .slice xa xn xc, .int .i64 s, .int .u64 (D : Int), .int .u64 (A : Int), .int .u64 (U : Int), .bool true, .int .i64 (fe : Int), .int .i64 (us : Int), .bool ev, .bool al, .slice none 0 0, .bool false, .int .i64 ce] = wl at *
    go_wp2_with fail
    refine bodyPost_ret (v := .agg #[.int .u64 8192, .slice xa xn xc, .int .i64 s, .int .u64 (D : Int), .int .u64 (A : Int), .int .u64 (U : Int), .bool true, .int .i64 (fe : Int), .int .i64 (us : Int), .bool ev, .bool al, .slice none 0 0, .bool false, .int .i64 ce]) (results_cell_row Tryz.results12 _ _ (w.heap.size + 2) 48 _ (0, 0) _ rfl XL.out.1 Tryz.underlying48 rfl infoSV) rfl ?_
    exact ⟨xa, xn, xc, xs, none, 0, 0, rfl, HM.out.1, XL.out.2.1, HM.out.2.1, HM.out.2.2, XL.out.2.2⟩
end Go.Proofs.YtmjdnocilbnoaaaGreat

/- Store of a memory that is not watched. -/
namespace Go.Proofs.YtmjdnocilbnoaaaGreat
open Go.RowKit Go.Maps
set_option linter.unusedVariables false
set_option linter.unusedSimpArgs false
set_option maxRecDepth 100000
theorem width_any (n : Int) (w : World) : Calls Tryz.prog 67 #[.int .i64 n] w fun e w' => e = .returned (.bool (widB n)) ∧ w' = w := by
  go_enter Tryz.func67, Tryz.ntmps67
  go_wp2
  all_goals (go_ret; exact ⟨ret_bool (by rw [Bool.eq_iff_iff]; simp [widB, *]; try omega), rfl⟩)
set_option maxHeartbeats 400000 in
theorem store_any {w : World} {F : Nat → Prop} {rb size n : Nat} {M : Nat → Nat} (h : RamAt w F rb size n (.pointer none) M) (hs : size ≤ 268435456) (x : Nat) (k : Int) (y : Nat) (hx : x < 18446744073709551616) (hy : y < 18446744073709551616) (hn : n + 8 ≤ 1000000) :
    Calls Tryz.prog 29 #[.pointer (some ⟨rb, 0, none⟩), .int .u64 (x : Nat), .int .i64 k, .int .u64 (y : Nat)] w fun e w' => e = .returned (.bool (widB k && inB x k 2147483648 size)) ∧ ∃ F', RamAt w' F' rb size (n + 8) (.pointer none) (if (widB k && inB x k 2147483648 size) = true then over M x k.toNat (byteAt y) else M) ∧ Step F w F' w' := by
  cases hw : widB k with
  | false =>
    rw [Bool.false_and, if_neg (by simp)]
    have H : Hid (widB k = false) := hw
    clear hw
    go_enter Tryz.func29, Tryz.ntmps29
    go_wp2_with (first | (go_at_call 67; refine (width_any k _).mono ?_; rintro e w' ⟨rfl, rfl⟩; rw [H.out]))
    go_ret
    exact ⟨rfl, F, h.mono (by omega), Step.refl _ _⟩
  | true =>
    rw [Bool.true_and]
    have hk : k = 1 ∨ k = 2 ∨ k = 4 ∨ k = 8 := by simpa [widB] using hw
    obtain ⟨L, rfl⟩ : ∃ L : Nat, k = L := ⟨k.toNat, by omega⟩
    have hL : L ≤ 8 := by omega
    have H : Hid (widB L = true) := hw
    clear hw hk
    rw [Int.toNat_natCast]
    obtain ⟨Q, hQ⟩ : ∃ Q, Q = (if inB x L 2147483648 size = true then over M x L (byteAt y) else M) := ⟨_, rfl⟩
    rw [← hQ]
    have HQ : Hid (Q = (if inB x L 2147483648 size = true then over M x L (byteAt y) else M)) := hQ
    clear hQ
    go_enter Tryz.func29, Tryz.ntmps29
    go_wp2_with (first | (go_at_call 67; refine (width_any _ _).mono ?_; rintro e w' ⟨rfl, rfl⟩; rw [H.out]) | (go_at_call 68; refine (bytes_any y L L hy (by omega) _).mono ?_; rintro e w1 ⟨v, rfl, hown, hb⟩) | (go_at_call 30; refine (write_any (h.below hb) hs x L (byteAt y) _ hx (reads_ownF hown h.lt) (fun i _ => byteAt_le y i) (by omega)).mono ?_; rintro e w2 ⟨rfl, F2, h2, hs2⟩))
    go_ret
    exact ⟨rfl, F2, by rw [HQ.out]; exact h2.mono (by omega), (Step.of_below hb).trans hs2⟩
end Go.Proofs.YtmjdnocilbnoaaaGreat

/- The example, plain. -/
namespace Go.Proofs.YtmjdnocilbnoaaaGreat
open Go.RowKit Go.Maps
set_option linter.unusedVariables false
set_option linter.unusedSimpArgs false
set_option maxRecDepth 100000
theorem ex_gd : Gd 2 2147483648 2147483904 2147484160 := ⟨by kernel_rfl, by decide, by decide, by kernel_rfl, by decide, by decide, by decide, by decide, by decide⟩
theorem ex_e : (giveR (devF 7) ((2 : Nat) : Int) 2147483648 2147483904 2147484160 true false 65537 9 (over (over (fun _ => 0) 2147483648 8 (byteAt 2147487744)) 2147483906 2 (byteAt 2)) 0 0).e = 0 := by kernel_rfl
theorem ex_fe : (giveR (devF 7) ((2 : Nat) : Int) 2147483648 2147483904 2147484160 true false 65537 9 (over (over (fun _ => 0) 2147483648 8 (byteAt 2147487744)) 2147483906 2 (byteAt 2)) 0 0).fe = 2 := by kernel_rfl
theorem ex_us : (giveR (devF 7) ((2 : Nat) : Int) 2147483648 2147483904 2147484160 true false 65537 9 (over (over (fun _ => 0) 2147483648 8 (byteAt 2147487744)) 2147483906 2 (byteAt 2)) 0 0).us = 2 := by kernel_rfl
theorem ex_tell : tellB (endM (giveR (devF 7) ((2 : Nat) : Int) 2147483648 2147483904 2147484160 true false 65537 9 (over (over (fun _ => 0) 2147483648 8 (byteAt 2147487744)) 2147483906 2 (byteAt 2)) 0 0) 2 2147484160 false) 2 2147483904 2 0 false = true := by kernel_rfl
theorem ex_new : rightB 8192 = true := by decide
theorem ex_p1 : (widB 8 && inB (2147483648 : Nat) 8 2147483648 (8192 : Nat)) = true := by decide
theorem ex_p2 : (widB 2 && inB (2147483906 : Nat) 2 2147483648 (8192 : Nat)) = true := by decide
end Go.Proofs.YtmjdnocilbnoaaaGreat

/- The example: two chains offered are used, and told. -/
namespace Go.Proofs.YtmjdnocilbnoaaaGreat
open Go.RowKit Go.Maps
set_option linter.unusedVariables false
set_option linter.unusedSimpArgs false
set_option maxRecDepth 100000
def Aq (w V : World) (F : Nat → Prop) (rb k : Nat) (M : Nat → Nat) (p : Nat) (fe us : Int) : Prop := RamAt V F rb 8192 k (.pointer none) M ∧ (∀ z, F z → w.heap.size ≤ z) ∧ Below w.heap.size w V ∧ V.heap[p]? = some (.cells #[.int .i64 2, .int .u64 2147483648, .int .u64 2147483904, .int .u64 2147484160, .bool true, .int .u16 fe, .int .u16 us, .bool false, .bool false] 40 (0, 0)) ∧ ¬ F p ∧ w.heap.size ≤ p
theorem Aq.step {w V V2 : World} {F F2 : Nat → Prop} {rb k k2 p : Nat} {M M2 : Nat → Nat} {fe us : Int} (h : Aq w V F rb k M p fe us) (hr : RamAt V2 F2 rb 8192 k2 (.pointer none) M2) (hs : Step F V F2 V2) : Aq w V2 F2 rb k2 M2 p fe us := by
  have hlt := (Array.getElem?_eq_some_iff.1 h.2.2.2.1).1
  have hw := h.2.2.1.size
  exact ⟨hr, hs.base hw h.2.1, h.2.2.1.trans (hs.below hw h.2.1), (hs.block p hlt h.2.2.2.2.1).trans h.2.2.2.1, not_later hs hlt h.2.2.2.2.1, h.2.2.2.2.2⟩
set_option maxHeartbeats 2000000 in
theorem awake_any (w : World) : Calls Tryz.prog 6 #[] w fun e w' => e = .returned (.bool true) ∧ Below w.heap.size w w' := by
  have KN : Hid (Calls Tryz.prog 28 #[.int .u64 8192] w fun e w' => ∃ rb F, e = .returned (.tuple #[.pointer (some ⟨rb, 0, none⟩), .int .i64 0]) ∧ RamAt w' F rb 8192 0 (.pointer none) (fun _ => 0) ∧ (∀ k, F k → w.heap.size ≤ k) ∧ Below w.heap.size w w') := new_yes 8192 ex_new w
  have K1 : Hid (∀ V F rb p, Aq w V F rb 0 (fun _ => 0) p 0 0 → Calls Tryz.prog 29 #[.pointer (some ⟨rb, 0, none⟩), .int .u64 2147483648, .int .i64 8, .int .u64 2147487744] V fun e w' => e = .returned (.bool true) ∧ ∃ F', Aq w w' F' rb 8 (over (fun _ => 0) 2147483648 8 (byteAt 2147487744)) p 0 0) := by
    intro V F rb p h
    have := store_any h.1 (by omega) 2147483648 8 2147487744 (by omega) (by omega) (by omega)
    rw [ex_p1, if_pos rfl] at this
    refine this.mono ?_
    rintro e w' ⟨he, F', hr, hs⟩
    exact ⟨he, F', h.step hr hs⟩
  have K2 : Hid (∀ V F rb p, Aq w V F rb 8 (over (fun _ => 0) 2147483648 8 (byteAt 2147487744)) p 0 0 → Calls Tryz.prog 29 #[.pointer (some ⟨rb, 0, none⟩), .int .u64 2147483906, .int .i64 2, .int .u64 2] V fun e w' => e = .returned (.bool true) ∧ ∃ F', Aq w w' F' rb 16 (over (over (fun _ => 0) 2147483648 8 (byteAt 2147487744)) 2147483906 2 (byteAt 2)) p 0 0) := by
    intro V F rb p h
    have := store_any h.1 (by omega) 2147483906 2 2 (by omega) (by omega) (by omega)
    rw [ex_p2, if_pos rfl] at this
    refine this.mono ?_
    rintro e w' ⟨he, F', hr, hs⟩
    exact ⟨he, F', h.step hr hs⟩
  have KS : Hid (∀ V F rb p, Aq w V F rb 16 (over (over (fun _ => 0) 2147483648 8 (byteAt 2147487744)) 2147483906 2 (byteAt 2)) p 0 0 → Calls Tryz.prog 11 #[.pointer (some ⟨rb, 0, none⟩), .pointer (some ⟨p, 0, none⟩), .int .u8 7, .int .i64 9] V fun e w' => e = .returned (.tuple #[.bool true, .int .i64 0]) ∧ w'.heap[p]? = some (.cells #[.int .i64 2, .int .u64 2147483648, .int .u64 2147483904, .int .u64 2147484160, .bool true, .int .u16 2, .int .u16 2, .bool false, .bool false] 40 (0, 0)) ∧ Below w.heap.size w w') := by
    intro V F rb p h
    have := law_good (n := 2) (D := 2147483648) (A := 2147483904) (U := 2147484160) (ev := false) (al := false) (fe := 0) (us := 0) h.1 h.2.2.2.1 ex_gd h.2.2.2.2.1 (by decide) (by decide) 7 9 (by decide) (by decide) (by decide) _ rfl
    rw [ex_e, ex_us, ex_fe, ex_tell] at this
    refine this.mono ?_
    rintro e w' ⟨he, F', κ', hr, hq, hF, hk, hs⟩
    refine ⟨he, hq, h.2.2.1.trans (hs.below h.2.2.1.size (fun k hk => ?_))⟩
    rcases hk with hk | hk
    · exact h.2.1 k hk
    · rw [hk]; exact h.2.2.2.2.2
  go_enter Tryz.func6, Tryz.ntmps6
  go_upto_region 4 with (go_at_call 28; refine (KN.out).mono ?_; rintro e w1 ⟨rb, F, rfl, hr, hF, hb⟩)
  go_upto_region 5 with fail
  have X1 : Hid (Aq w (w1.alloc (.cells #[.int .i64 2, .int .u64 2147483648, .int .u64 2147483904, .int .u64 2147484160, .bool true, .int .u16 0, .int .u16 0, .bool false, .bool false] 40)) F rb 0 (fun _ => 0) w1.heap.size 0 0) := ⟨hr.below (one_box _ _), hF, hb.trans ((Below.refl _ _).alloc hb.size _), heap_alloc_new _ _, fun hf => by have := hr.lt _ hf; omega, hb.size⟩
  clear hr hF hb KN
  generalize w1.alloc (.cells #[.int .i64 2, .int .u64 2147483648, .int .u64 2147483904, .int .u64 2147484160, .bool true, .int .u16 0, .int .u16 0, .bool false, .bool false] 40) = w2 at *
  generalize w1.heap.size = p at *
  go_upto_region 6 with (go_at_call 29; refine (K1.out _ _ _ _ X1.out).mono ?_; rintro e w3 ⟨rfl, F3, h3⟩; have X2 : Hid (Aq w w3 F3 rb 8 (over (fun _ => 0) 2147483648 8 (byteAt 2147487744)) p 0 0) := h3; clear h3 X1)
  clear K1
  go_upto_region 7 with (go_at_call 29; refine (K2.out _ _ _ _ X2.out).mono ?_; rintro e w4 ⟨rfl, F4, h4⟩; have X3 : Hid (Aq w w4 F4 rb 16 (over (over (fun _ => 0) 2147483648 8 (byteAt 2147487744)) 2147483906 2 (byteAt 2)) p 0 0) := h4; clear h4 X2)
  clear K2
  go_wp2_with (go_at_call 11; refine (KS.out _ _ _ _ X3.out).mono ?_; rintro e w5 ⟨rfl, hq5, hb5⟩; have X5 : Hid (w5.heap[p]? = some (.cells #[.int .i64 2, .int .u64 2147483648, .int .u64 2147483904, .int .u64 2147484160, .bool true, .int .u16 2, .int .u16 2, .bool false, .bool false] 40 (0, 0)) ∧ Below w.heap.size w w5) := ⟨hq5, hb5⟩; clear hq5 hb5 X3; obtain ⟨c0, c1, c2, c3, c4, c5, c6, c7, c8⟩ := box9_facts X5.out.1)
  go_ret
  exact ⟨rfl, X5.out.2⟩
end Go.Proofs.YtmjdnocilbnoaaaGreat

/- What the statements are handed: a queue, numbers. -/
namespace Go.Proofs.YtmjdnocilbnoaaaGreat
open Go.RowKit Go.ChangeShapes Go.WideShapes Go.ChangeAt
set_option linter.unusedVariables false
set_option linter.unusedSimpArgs false
set_option maxRecDepth 100000
theorem cellsQ : Tryz.prog.cellsOf 27 = 9 := by kernel_rfl
theorem cellsL17 : Tryz.prog.cellsOf 25 = 4 := by kernel_rfl
theorem cellsI17 : Tryz.prog.cellsOf 3 = 1 := by kernel_rfl
theorem cellsB17 : Tryz.prog.cellsOf 4 = 1 := by kernel_rfl
theorem cellsU17 : Tryz.prog.cellsOf 23 = 1 := by kernel_rfl
theorem list_nine {α : Type} (l : List α) (h : l.length = 9) : ∃ a b c d e f g h i, l = [a, b, c, d, e, f, g, h, i] := by
  match l, h with
  | [a, b, c, d, e, f, g, h, i], _ => exact ⟨a, b, c, d, e, f, g, h, i, rfl⟩
theorem list_six {α : Type} (l : List α) (h : l.length = 6) : ∃ a b c d e f, l = [a, b, c, d, e, f] := by
  match l, h with
  | [a, b, c, d, e, f], _ => exact ⟨a, b, c, d, e, f, rfl⟩
section
variable {H : Type} {enc : TypeId × Value → H} {W : World} {spare : Nat → Bool} {held : Bool}
theorem open_lays {n : Nat} {cs : List Value} {x : DataW H × List MemPlace} (h : DataW.trod enc Tryz.prog W 0 (fun _ => true) held n 25 cs = some x) :
    ∃ (s : Int) (D A Uu : Nat), cs = [.int .i64 s, .int .u64 (D : Int), .int .u64 (A : Int), .int .u64 (Uu : Int)] ∧ (Lit.int .i64 s).wf = true ∧ D < 18446744073709551616 ∧ A < 18446744073709551616 ∧ Uu < 18446744073709551616 := by
  obtain ⟨xs, m, _, _, hl, hlen, hff⟩ := DataW.trod_struct Tryz.underlying25 h
  rw [cellsL17] at hl
  obtain ⟨c0, c1, c2, c3, rfl⟩ := list_four _ hl
  obtain ⟨y0, y1, y2, y3, rfl⟩ := list_four xs hlen
  have h0 := hff 0 _ rfl
  have h1 := hff 1 _ rfl
  have h2 := hff 2 _ rfl
  have h3 := hff 3 _ rfl
  simp [cellsI17, cellsU17] at h0 h1 h2 h3
  obtain ⟨z0, e0, _, w0⟩ := DataW.trod_int Tryz.underlying3 h0
  obtain ⟨z1, e1, _, w1⟩ := DataW.trod_int Tryz.underlying23 h1
  obtain ⟨z2, e2, _, w2⟩ := DataW.trod_int Tryz.underlying23 h2
  obtain ⟨z3, e3, _, w3⟩ := DataW.trod_int Tryz.underlying23 h3
  simp at e0 e1 e2 e3
  obtain ⟨n1, rfl, g1⟩ := nat_u64 w1
  obtain ⟨n2, rfl, g2⟩ := nat_u64 w2
  obtain ⟨n3, rfl, g3⟩ := nat_u64 w3
  subst e0 e1 e2 e3
  exact ⟨z0, n1, n2, n3, rfl, w0, g1, g2, g3⟩
theorem open_queue {r : Reach} {b0 : Nat} {x : Value} {d : DataW H} {p : List MemPlace} (hv : Value.okWide Tryz.prog W r b0 27 x) (h : DataW.Trod enc Tryz.prog W 0 (fun _ => true) held 27 x d p) :
    ∃ (s : Int) (D A U : Nat) (rd : Bool) (fi ui : Int) (ev al : Bool), x = .agg #[.int .i64 s, .int .u64 (D : Int), .int .u64 (A : Int), .int .u64 (U : Int), .bool rd, .int .i64 fi, .int .i64 ui, .bool ev, .bool al] ∧ D < 18446744073709551616 ∧ A < 18446744073709551616 ∧ U < 18446744073709551616 := by
  obtain ⟨cs, rfl⟩ := open_agg Tryz.underlying27 hv
  obtain ⟨fuel, hf⟩ := h
  obtain ⟨xs, m, _, _, hl, hlen, hff⟩ := DataW.trod_struct Tryz.underlying27 hf
  rw [cellsQ] at hl
  obtain ⟨c0, c1, c2, c3, c4, c5, c6, c7, c8, hcs⟩ := list_nine _ hl
  simp only [Value.cells] at hcs hff
  rw [hcs] at hff
  obtain ⟨y0, y1, y2, y3, y4, y5, rfl⟩ := list_six xs hlen
  have h0 := hff 0 _ rfl
  have h1 := hff 1 _ rfl
  have h2 := hff 2 _ rfl
  have h3 := hff 3 _ rfl
  have h4 := hff 4 _ rfl
  have h5 := hff 5 _ rfl
  simp [cellsL17, cellsI17, cellsB17] at h0 h1 h2 h3 h4 h5
  obtain ⟨s, D, A, Uu, e0, _, hD, hA, hU⟩ := open_lays h0
  obtain ⟨z1, e1, _⟩ := DataW.trod_bool Tryz.underlying4 h1
  obtain ⟨z2, e2, _, w2⟩ := DataW.trod_int Tryz.underlying3 h2
  obtain ⟨z3, e3, _, w3⟩ := DataW.trod_int Tryz.underlying3 h3
  obtain ⟨z4, e4, _⟩ := DataW.trod_bool Tryz.underlying4 h4
  obtain ⟨z5, e5, _⟩ := DataW.trod_bool Tryz.underlying4 h5
  simp at e0 e1 e2 e3 e4 e5
  obtain ⟨rfl, rfl, rfl, rfl⟩ := e0
  subst e1 e2 e3 e4 e5
  refine ⟨s, D, A, Uu, z1, z2, z3, z4, z5, ?_, hD, hA, hU⟩
  cases cs; simp_all
theorem open_int2 {r : Reach} {b0 : Nat} {x : Value} {d : DataW H} {p : List MemPlace} (hv : Value.okWide Tryz.prog W r b0 28 x) (h : DataW.Trod enc Tryz.prog W 0 (fun _ => true) held 28 x d p) :
    ∃ (a b : Int), x = .agg #[.int .i64 a, .int .i64 b] ∧ (Lit.int .i64 a).wf = true ∧ (Lit.int .i64 b).wf = true := by
  obtain ⟨cs, rfl, hsz, _⟩ : ∃ cs, x = .agg cs ∧ cs.size = Tryz.prog.cellsOf 28 ∧ Row.okWide Tryz.prog W r b0 28 cs := by
    simpa [Value.okWide, Tryz.underlying28] using hv
  rw [show Tryz.prog.cellsOf 28 = 2 from by kernel_rfl] at hsz
  obtain ⟨l⟩ := cs
  obtain ⟨c0, c1, rfl⟩ := list_two l hsz
  obtain ⟨fuel, hf⟩ := h
  obtain ⟨xs, m, rfl, hx, _, hl, hi⟩ := DataW.trod_array Tryz.underlying28 hf
  obtain ⟨y0, y1, rfl⟩ := list_two xs hl
  have h0 := hi 0 (by omega)
  have h1 := hi 1 (by omega)
  simp [Value.cells, cellsI17] at h0 h1
  obtain ⟨x0, e0, _, w0⟩ := DataW.trod_int Tryz.underlying3 h0
  obtain ⟨x1, e1, _, w1⟩ := DataW.trod_int Tryz.underlying3 h1
  simp at e0 e1
  subst e0 e1
  exact ⟨x0, x1, rfl, w0, w1⟩
end
end Go.Proofs.YtmjdnocilbnoaaaGreat
