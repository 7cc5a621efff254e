/- Texts put together. -/
import Derived.Test.YtmjdnocilbnoaaaZc
import Derived.Test.YtmjdnocilbnoaaaZb
import Derived.Deep.RegionHeld3
import Derived.Test.YtmjdnocilbnoaaaZa
/- The pieces of a chain. -/
namespace Go.Proofs.Ytmjdnocilbnoaaa
open Go.RowKit Go.Maps
set_option linter.unusedVariables false
set_option linter.unusedSimpArgs false
set_option maxRecDepth 100000
def PcS (w : World) (b : Bool) (l : List Seg) (f n : Nat) (a : Option Addr) (L c ta tl : Nat) (V : World) (vo : Value) (i f' n' : Nat) (out : List (Nat × Nat)) : Prop := SpanIn w.heap.size V vo out ∧ out.length ≤ i ∧ pcs b l f n = (out ++ (pcs b (l.drop i) f' n').1, (pcs b (l.drop i) f' n').2) ∧ f' ≤ f ∧ n' ≤ n ∧ Below w.heap.size w V ∧ V.heap[w.heap.size]? = some (.cells #[.slice a L c, .int .u64 (ta : Int), .int .u64 (tl : Int)] 50 (0, 0))
theorem PcS.below {w : World} {b : Bool} {l : List Seg} {f n : Nat} {a : Option Addr} {L c ta tl : Nat} {V V2 : World} {vo : Value} {i f' n' : Nat} {out : List (Nat × Nat)} (h : PcS w b l f n a L c ta tl V vo i f' n' out) (hb : Below V.heap.size V V2) : PcS w b l f n a L c ta tl V2 vo i f' n' out := ⟨h.1.kept (fun g hg => hb.block g (h.1.lt g hg).2), h.2.1, h.2.2.1, h.2.2.2.1, h.2.2.2.2.1, below_to h.2.2.2.2.2.1 hb, below_box h.2.2.2.2.2.2 hb⟩
theorem SpanIn.row {B : Nat} {w : World} {v : Value} {l : List (Nat × Nat)} {q : Nat} {cc : Array Value} (h : SpanIn B w v l) (hq : v.ownBlock = some q) (hb : w.heap[q]? = some (.cells cc 50 (0, 0))) : False := by
  rcases h.2 with ⟨rfl, _⟩ | ⟨g, cap, cur, rfl, _, hg, _⟩
  · cases hq
  · have : g = q := by simpa [Value.ownBlock] using hq
    subst this
    rw [hb] at hg
    simp at hg
theorem drop_cons {l : List Seg} {i : Nat} (h : i < l.length) : l.drop i = l[i] :: l.drop (i + 1) := List.drop_eq_getElem_cons h
theorem PcS.skip {w : World} {b : Bool} {l : List Seg} {f n : Nat} {a : Option Addr} {L c ta tl : Nat} {V : World} {vo : Value} {i f' n' : Nat} {out : List (Nat × Nat)} (h : PcS w b l f n a L c ta tl V vo i f' n' out) (hi : i < l.length) (hw : ¬ (l[i]).wr = b) : PcS w b l f n a L c ta tl V vo (i + 1) f' n' out :=
  ⟨h.1, by have := h.2.1; omega, by rw [h.2.2.1, drop_cons hi, pcs_other hw], h.2.2.2⟩
theorem PcS.none {w : World} {b : Bool} {l : List Seg} {f n : Nat} {a : Option Addr} {L c ta tl : Nat} {V : World} {vo : Value} {i f' n' sk : Nat} {out : List (Nat × Nat)} (h : PcS w b l f n a L c ta tl V vo i f' n' out) (hi : i < l.length) (hw : (l[i]).wr = b) (h1 : sk = min f' (l[i]).l) (h2 : 0 = min n' ((l[i]).l - sk)) : PcS w b l f n a L c ta tl V vo (i + 1) (f' - sk) (n' - 0) out :=
  ⟨h.1, by have := h.2.1; omega, by rw [h.2.2.1, drop_cons hi, pcs_none hw h1 h2 rfl], by have := h.2.2.2.1; omega, by have := h.2.2.2.2.1; omega, h.2.2.2.2.2⟩
theorem PcS.some {w : World} {b : Bool} {l : List Seg} {f n : Nat} {a : Option Addr} {L c ta tl : Nat} {V : World} {vo vo2 : Value} {i f' n' sk tk : Nat} {out : List (Nat × Nat)} (h : PcS w b l f n a L c ta tl V vo i f' n' out) {V2 : World} (hi : i < l.length) (hw : (l[i]).wr = b) (h1 : sk = min f' (l[i]).l) (h2 : tk = min n' ((l[i]).l - sk)) (h0 : ¬ tk = 0) (hs : SpanIn w.heap.size V2 vo2 (out ++ [((l[i]).a + sk, tk)])) (hb : Below w.heap.size w V2) (hbx : V2.heap[w.heap.size]? = .some (.cells #[.slice a L c, .int .u64 (ta : Int), .int .u64 (tl : Int)] 50 (0, 0))) : PcS w b l f n a L c ta tl V2 vo2 (i + 1) (f' - sk) (n' - tk) (out ++ [((l[i]).a + sk, tk)]) :=
  ⟨hs, by have := h.2.1; simp; omega, by rw [h.2.2.1, drop_cons hi, pcs_some hw h1 h2 h0]; simp, by have := h.2.2.2.1; omega, by have := h.2.2.2.2.1; omega, hb, hbx⟩
theorem min_if (x y : Nat) : (if (y : Int) < (x : Int) then (y : Int) else (x : Int)) = ((min x y : Nat) : Int) := by split <;> omega
theorem min_if2 (x y : Nat) : (if y < x then (y : Int) else (x : Int)) = ((min x y : Nat) : Int) := by split <;> omega
set_option maxHeartbeats 4000000 in
theorem pieces_any {w : World} {F : Nat → Prop} {rb kk : Nat} {M : Nat → Nat} (hr : RamAt w F rb 8192 kk (.pointer none) M) {a : Option Addr} {L c : Nat} {l : List Seg} (h : SegIn 0 w (.slice a L c) l) (hl : l.length ≤ 1000) (hok : ∀ s ∈ l, SegOk s) (ta tl : Nat) (b : Bool) (f n : Nat) (hf : f < 18446744073709551616) (hn : n < 18446744073709551616) :
    Calls Try.prog 60 #[.agg #[.slice a L c, .int .u64 (ta : Int), .int .u64 (tl : Int)], .pointer (some ⟨rb, 0, none⟩), .bool b, .int .u64 (f : Int), .int .u64 (n : Int)] w fun e w' => Below w.heap.size w w' ∧ ((roomB b l f n = false ∧ e = .returned (.tuple #[.slice none 0 0, .bool false])) ∨ (roomB b l f n = true ∧ ∃ vo, e = .returned (.tuple #[vo, .bool true]) ∧ SpanIn w.heap.size w' vo (pcs b l f n).1)) := by
  obtain ⟨i0, hi0, hz0, hz1, hz2⟩ := info_parts Try.info48
  have hLl : L = l.length := by
    obtain ⟨a2, c2, h⟩ := h.form
    simp only [Value.slice.injEq] at h
    exact h.2.1
  have h2 := heap_alloc_new w (.cells #[.slice a L c, .int .u64 (ta : Int), .int .u64 (tl : Int)] 50)
  have hb : Below w.heap.size w (w.alloc (.cells #[.slice a L c, .int .u64 (ta : Int), .int .u64 (tl : Int)] 50)) := (Below.refl _ _).alloc (Nat.le_refl _) _
  have XB : Hid (PcS w b l f n a L c ta tl (w.alloc (.cells #[.slice a L c, .int .u64 (ta : Int), .int .u64 (tl : Int)] 50)) (.slice none 0 0) 0 f n []) := ⟨⟨rfl, .inl ⟨rfl, rfl⟩⟩, Nat.le_refl _, rfl, Nat.le_refl _, Nat.le_refl _, hb, h2⟩
  have HS : Hid (SegIn 0 w (.slice a L c) l ∧ L = l.length ∧ l.length ≤ 1000 ∧ ∀ s ∈ l, SegOk s) := ⟨h, hLl, hl, hok⟩
  have HR : Hid (RamAt w F rb 8192 kk (.pointer none) M) := hr
  have HFN : Hid (f < 18446744073709551616 ∧ n < 18446744073709551616) := ⟨hf, hn⟩
  clear h hLl hl hok h2 hb hr hf hn
  go_enter Try.func60, Try.ntmps60
  go_upto_region 1 with fail
  obtain ⟨p0, p1, p2⟩ := box3_facts XB.out.2.2.2.2.2.2
  generalize w.alloc (.cells #[.slice a L c, .int .u64 (ta : Int), .int .u64 (tl : Int)] 50) = v0 at *
  go_wp2_with fail
  go_loopw [3, 4, 12, 21] (fun vf vn vo x wr => ∃ (i f' n' : Nat) (out : List (Nat × Nat)), i ≤ L ∧ x = .int .i64 (i : Int) ∧ vf = .int .u64 (f' : Int) ∧ vn = .int .u64 (n' : Int) ∧ PcS w b l f n a L c ta tl wr vo i f' n' out) (fun _ _ _ x _ => L - (intOf x).toNat)
  case atStart => exact ⟨0, f, n, [], Nat.zero_le _, rfl, rfl, rfl, XB.out⟩
  case round =>
    obtain ⟨i, f', n', out, hi, rfl, rfl, rfl, hx⟩ := hrel
    obtain ⟨ao, co, hvo⟩ := hx.1.form
    subst hvo
    obtain ⟨lo, hlo⟩ : ∃ lo, out.length = lo := ⟨_, rfl⟩
    rw [hlo] at hx ⊢
    have XR : Hid (PcS w b l f n a L c ta tl wr (.slice ao lo co) i f' n' out ∧ out.length = lo) := ⟨hx, hlo⟩
    clear hx hlo XB p0 p1 p2
    obtain ⟨p0, p1, p2⟩ := box3_facts XR.out.1.2.2.2.2.2.2
    by_cases hlt : i < L
    case neg =>
      have h1 : ¬ (i : Int) < (L : Int) := by omega
      have hil : i = l.length := by have := HS.out.2.1; omega
      have hp := XR.out.1.2.2.1
      rw [hil, List.drop_length] at hp
      have hp2 : pcs b l f n = (out, f', n') := by rw [hp]; simp [pcs]
      have HP : Hid (pcs b l f n = (out, f', n')) := hp2
      clear hlt hi hp hp2 hil
      by_cases hz : f' = 0 ∧ n' = 0
      · obtain ⟨rfl, rfl⟩ := hz
        go_wp2_with fail
        refine bodyPost_ret (v := .tuple #[.slice ao lo co, .bool true]) (by simp [results, Try.results60, go_sem]) rfl ?_
        refine ⟨XR.out.1.2.2.2.2.2.1, .inr ⟨(room_iff b l f n).2 (by rw [HP.out]), _, rfl, ?_⟩⟩
        rw [HP.out]
        exact XR.out.1.1
      · have HRB : Hid (roomB b l f n = false) := by
          show roomB b l f n = false
          cases hrb : roomB b l f n with
          | false => rfl
          | true =>
            have := (room_iff b l f n).1 hrb
            rw [HP.out] at this
            simp only [Prod.mk.injEq] at this
            exact absurd this hz
        by_cases hf0 : f' = 0
        · have g1 : (0 : Int) < (n' : Int) := by omega
          subst hf0
          clear hz
          go_wp2_with fail
          refine bodyPost_ret (v := .tuple #[.slice none 0 0, .bool false]) (by simp [results, Try.results60, go_sem]) rfl ?_
          exact ⟨XR.out.1.2.2.2.2.2.1, .inl ⟨HRB.out, rfl⟩⟩
        · have g1 : (0 : Int) < (f' : Int) := by omega
          clear hz
          go_wp2_with fail
          refine bodyPost_ret (v := .tuple #[.slice none 0 0, .bool false]) (by simp [results, Try.results60, go_sem]) rfl ?_
          exact ⟨XR.out.1.2.2.2.2.2.1, .inl ⟨HRB.out, rfl⟩⟩
    case pos =>
      have h1 : (i : Int) < (L : Int) := by omega
      have hil : i < l.length := by have := HS.out.2.1; omega
      obtain ⟨g, c', hsl, hcl⟩ := HS.out.1.cells (by omega)
      simp only [Value.slice.injEq] at hsl
      obtain ⟨rfl, -, rfl⟩ := hsl
      have hgl : g < w.heap.size := (HS.out.1.lt g rfl).2
      obtain ⟨x1, y1, z1⟩ := hcl i hil
      have x2 := (XR.out.1.2.2.2.2.2.1.cell (p := ⟨g, i * 3, none⟩) hgl).trans x1
      have y2 := (XR.out.1.2.2.2.2.2.1.cell (p := ⟨g, i * 3 + 1, none⟩) hgl).trans y1
      have z2 := (XR.out.1.2.2.2.2.2.1.cell (p := ⟨g, i * 3 + 2, none⟩) hgl).trans z1
      have hso := HS.out.2.2.2 _ (List.getElem_mem hil)
      obtain ⟨sa, hsa⟩ : ∃ sa, (l[i]).a = sa := ⟨_, rfl⟩
      obtain ⟨sl, hsl⟩ : ∃ sl, (l[i]).l = sl := ⟨_, rfl⟩
      obtain ⟨sw, hsw⟩ : ∃ sw, (l[i]).wr = sw := ⟨_, rfl⟩
      rw [hsa] at x2
      rw [hsl] at y2
      rw [hsw] at z2
      have HQ : Hid (∃ hil : i < l.length, (l[i]).a = sa ∧ (l[i]).l = sl ∧ (l[i]).wr = sw) := ⟨hil, hsa, hsl, hsw⟩
      have hin := in_len hso.i
      rw [hsa, hsl] at hin
      have HIN : Hid (sl ≤ 8192 ∧ 2147483648 ≤ sa ∧ sa + sl ≤ 2147491840) := hin
      have HLT : Hid (i < L ∧ L ≤ 1000) := ⟨hlt, by have := HS.out.2; omega⟩
      have hi6 : i ≤ 1000 := by have := HLT.out; omega
      clear x1 y1 z1 hcl hso hsa hsl hsw hgl hin hlt hi hil
      go_upto_region 5 with fail
      have X1 : Hid (PcS w b l f n (some ⟨g, 0, none⟩) L c ta tl (wr.alloc (.cells #[.int .u64 (sa : Int), .int .u64 (sl : Int), .bool sw] 64)) (.slice ao lo co) i f' n' out ∧ (wr.alloc (.cells #[.int .u64 (sa : Int), .int .u64 (sl : Int), .bool sw] 64)).heap[wr.heap.size]? = some (.cells #[.int .u64 (sa : Int), .int .u64 (sl : Int), .bool sw] 64 (0, 0))) := ⟨XR.out.1.below ((Below.refl _ _).alloc (Nat.le_refl _) _), heap_alloc_new _ _⟩
      have HLO : Hid (out.length = lo) := XR.out.2
      clear XR x2 y2 z2 p0 p1 p2
      generalize wr.alloc (.cells #[.int .u64 (sa : Int), .int .u64 (sl : Int), .bool sw] 64) = w1 at *
      generalize wr.heap.size = q at *
      obtain ⟨t0, t1, t2⟩ := box3_facts X1.out.2
      by_cases hwb : sw = b
      case neg =>
        have hne : (sw == b) = false := by simp [hwb]
        go_wp2_with fail
        go_roundw
        case rel => exact ⟨i + 1, f', n', out, HLT.out.1, by go_num, rfl, rfl, X1.out.1.skip HQ.out.1 (by rw [HQ.out.2.2.2]; exact hwb)⟩
        case measure => simp [intOf]; have := HLT.out.1; omega
      have hne : (sw == b) = true := by simp [hwb]
      have HWB : Hid (sw = b) := hwb
      clear hwb
      obtain ⟨sk, hsk⟩ : ∃ sk, sk = min f' sl := ⟨_, rfl⟩
      obtain ⟨df, hdf⟩ : ∃ df, df = sl - sk := ⟨_, rfl⟩
      obtain ⟨tk, htk⟩ : ∃ tk, tk = min n' df := ⟨_, rfl⟩
      have m1 : (if (sl : Int) < (f' : Int) then (sl : Int) else (f' : Int)) = (sk : Int) := by rw [hsk]; exact min_if f' sl
      have m2 : (if sl < f' then (sl : Int) else (f' : Int)) = (sk : Int) := by rw [hsk]; exact min_if2 f' sl
      have m3 : IntKind.u64.wrap ((sl : Int) - (sk : Int)) = (df : Int) := by have := HIN.out; rw [wrap_u64]; omega
      have m4 : (if (df : Int) < (n' : Int) then (df : Int) else (n' : Int)) = (tk : Int) := by rw [htk]; exact min_if n' df
      have m5 : (if df < n' then (df : Int) else (n' : Int)) = (tk : Int) := by rw [htk]; exact min_if2 n' df
      have HF2 : Hid (f' < 18446744073709551616 ∧ n' < 18446744073709551616) := ⟨Nat.lt_of_le_of_lt X1.out.1.2.2.2.1 HFN.out.1, Nat.lt_of_le_of_lt X1.out.1.2.2.2.2.1 HFN.out.2⟩
      have m6 : IntKind.u64.wrap ((f' : Int) - (sk : Int)) = ((f' - sk : Nat) : Int) := by have := HF2.out.1; rw [wrap_u64]; omega
      have m7 : IntKind.u64.wrap ((n' : Int) - (tk : Int)) = ((n' - tk : Nat) : Int) := by have := HF2.out.2; rw [wrap_u64]; omega
      have HK : Hid (sk = min f' sl ∧ tk = min n' (sl - sk)) := ⟨hsk, hdf ▸ htk⟩
      obtain ⟨f2, hf2⟩ : ∃ f2, f' - sk = f2 := ⟨_, rfl⟩
      obtain ⟨n2, hn2⟩ : ∃ n2, n' - tk = n2 := ⟨_, rfl⟩
      rw [hf2] at m6
      rw [hn2] at m7
      obtain ⟨x, hx⟩ : ∃ x, x = sa + sk := ⟨_, rfl⟩
      have m8 : IntKind.u64.wrap ((sa : Int) + (sk : Int)) = (x : Int) := by have := HIN.out; rw [wrap_u64]; omega
      have HX : Hid (x = sa + sk ∧ f' - sk = f2 ∧ n' - tk = n2 ∧ sk + tk ≤ sl) := ⟨hx, hf2, hn2, by omega⟩
      clear hsk hdf htk hf2 hn2 hx
      by_cases htz : tk = 0
      case pos =>
        have e0 : ((tk : Int) == 0) = true := by simp [htz]
        have HZ : Hid (tk = 0) := htz
        clear htz
        go_wp2_with fail
        go_roundw
        case rel => exact ⟨i + 1, f2, n2, out, HLT.out.1, by go_num, rfl, rfl, by
          have hh := HK.out.2
          rw [HZ.out] at hh
          have := X1.out.1.none (sk := sk) HQ.out.1 (by rw [HQ.out.2.2.2]; exact HWB.out) (by rw [HQ.out.2.2.1]; exact HK.out.1) (by rw [HQ.out.2.2.1]; exact hh)
          rw [← HX.out.2.1, ← HX.out.2.2.1, HZ.out]
          exact this⟩
        case measure => simp [intOf]; have := HLT.out.1; omega
      have e0 : ((tk : Int) == 0) = false := by simp; omega
      have HZ : Hid (¬ tk = 0) := htz
      clear htz
      go_upto_region 12 with fail
      have hb2 : Below w1.heap.size w1 (w1.alloc (.cells #[.int .u64 (x : Int), .int .u64 (tk : Int)] 48)) := (Below.refl _ _).alloc (Nat.le_refl _) _
      have X2 : Hid (PcS w b l f n (some ⟨g, 0, none⟩) L c ta tl (w1.alloc (.cells #[.int .u64 (x : Int), .int .u64 (tk : Int)] 48)) (.slice ao lo co) i f' n' out ∧ (w1.alloc (.cells #[.int .u64 (x : Int), .int .u64 (tk : Int)] 48)).heap[w1.heap.size]? = some (.cells #[.int .u64 (x : Int), .int .u64 (tk : Int)] 48 (0, 0))) := ⟨X1.out.1.below hb2, heap_alloc_new _ _⟩
      clear hb2 X1 t0 t1 t2
      generalize w1.alloc (.cells #[.int .u64 (x : Int), .int .u64 (tk : Int)] 48) = w2 at *
      generalize w1.heap.size = q2 at *
      obtain ⟨t0, t1, _, _⟩ := box_facts X2.out.2
      have K55 : Hid (∀ V, Below w.heap.size w V → Calls Try.prog 33 #[.pointer (some ⟨rb, 0, none⟩), .int .u64 (x : Int), .int .u64 (tk : Int)] V fun e w' => e = .returned (.bool true) ∧ w' = V) := by
        intro V hV
        have h1 := HIN.out
        have h2 := HX.out
        have := has_any (HR.out.below hV) (by omega) x tk (by omega) (by omega)
        have hin : inB (x : Int) (tk : Int) 2147483648 ((8192 : Nat) : Int) = true := by
          simp only [inB, Bool.and_eq_true, decide_eq_true_iff]
          omega
        rw [hin] at this
        exact this
      go_upto_region 14 with (go_at_call 33; refine (K55.out _ X2.out.1.2.2.2.2.2.1).mono ?_; rintro e w3 ⟨rfl, hw⟩; rw [hw]; clear hw w3)
      clear K55 m1 m2 m3 m4 m5 m6 m7 m8
      refine wp_region_list ?_
      (refine wpList_step (fun KK hKK => ?_); go_simp; refine hKK _ _ ?_; clear hKK KK)
      (refine wpList_step (fun KK hKK => ?_); go_simp; refine hKK _ _ ?_; clear hKK KK)
      (refine wpList_step (fun KK hKK => ?_); go_simp; refine hKK _ _ ?_; clear hKK KK)
      have hb3 : Below w2.heap.size w2 (w2.alloc (.cells #[.int .u64 (x : Int), .int .u64 (tk : Int)] 48)) := (Below.refl _ _).alloc (Nat.le_refl _) _
      have X3 : Hid (PcS w b l f n (some ⟨g, 0, none⟩) L c ta tl (w2.alloc (.cells #[.int .u64 (x : Int), .int .u64 (tk : Int)] 48)) (.slice ao lo co) i f' n' out) := X2.out.1.below hb3
      have HN3 : Hid (∀ j u, [Value.int .u64 (x : Int), .int .u64 (tk : Int)][j]? = some u → (w2.alloc (.cells #[.int .u64 (x : Int), .int .u64 (tk : Int)] 48)).cell? ((⟨w2.heap.size, 0, none⟩ : Addr).add j) = some u) := two_new w2 (.int .u64 (x : Int)) (.int .u64 (tk : Int)) 48
      clear hb3 X2 t0 t1
      generalize w2.alloc (.cells #[.int .u64 (x : Int), .int .u64 (tk : Int)] 48) = w3 at *
      generalize w2.heap.size = q3 at *
      refine wpList_append_own_at w3 rfl _ _ 60 rfl w.heap.size 48 i0 (.agg #[.int .u64 0, .int .u64 0]) 2 16 Try.underlying60 hi0 hz0 hz1 hz2 rfl (by decide) (.slice ao lo co) lo (spanRow out) rfl (by have := X3.out.1; unfold SpanIn at this; rw [HLO.out] at this; exact this) ⟨q3, 0, none⟩ 1 1 [.int .u64 (x : Int), .int .u64 (tk : Int)] rfl rfl HN3.out (by intro u hu; simp at hu; rcases hu with rfl | rfl <;> rfl) (by have := X3.out.2.1; have := HLO.out; unfold maxLen; omega) (by have := X3.out.2.1; have := HLO.out; omega) X3.out.2.2.2.2.2.1.size ?_
      intro v' w4 hown hgrow hnil hat
      have hbw : Below w.heap.size w w4 := Below.grown X3.out.2.2.2.2.2.1 hgrow X3.out.2.2.2.2.2.1.size (fun g hg => (X3.out.1.lt g hg).1)
      have hbx : w4.heap[w.heap.size]? = some (.cells #[.slice (some ⟨g, 0, none⟩) L c, .int .u64 (ta : Int), .int .u64 (tl : Int)] 50 (0, 0)) := (hgrow.block _ (Array.getElem?_eq_some_iff.1 X3.out.2.2.2.2.2.2).1 (fun e => by have := (X3.out.1.row e.symm X3.out.2.2.2.2.2.2); exact this)).trans X3.out.2.2.2.2.2.2
      have hsp : SpanIn w.heap.size w4 v' (out ++ [(x, tk)]) := by
        unfold SpanIn
        rw [spanRow_snoc, List.length_append, List.length_singleton, HLO.out]
        exact hown
      have X4 : Hid (PcS w b l f n (some ⟨g, 0, none⟩) L c ta tl w4 v' (i + 1) f2 n2 (out ++ [(x, tk)])) := by
        have := X3.out.some (vo2 := v') (V2 := w4) (sk := sk) (tk := tk) HQ.out.1 (by rw [HQ.out.2.2.2]; exact HWB.out) (by rw [HQ.out.2.2.1]; exact HK.out.1) (by rw [HQ.out.2.2.1]; exact HK.out.2) HZ.out (by rw [HQ.out.2.1, ← HX.out.1]; exact hsp) hbw hbx
        rw [HQ.out.2.1, ← HX.out.1, HX.out.2.1, HX.out.2.2.1] at this
        exact this
      clear hbw hbx hsp hown hgrow hnil hat X3
      go_wp2_with fail
      go_roundw
      case rel => exact ⟨i + 1, f2, n2, out ++ [(x, tk)], HLT.out.1, by go_num, rfl, rfl, X4.out⟩
      case measure => simp [intOf]; have := HLT.out.1; omega
end Go.Proofs.Ytmjdnocilbnoaaa

/- Gather. -/
namespace Go.Proofs.Ytmjdnocilbnoaaa
open Go.RowKit Go.Maps
set_option linter.unusedVariables false
set_option linter.unusedSimpArgs false
set_option maxRecDepth 100000
theorem spanA_take (ps : List (Nat × Nat)) (i : Nat) (hi : i < ps.length) : spanA (ps.take (i + 1)) = spanA (ps.take i) ++ (List.range (ps.getD i (0, 0)).2).map ((ps.getD i (0, 0)).1 + ·) := by
  rw [List.take_add_one, List.getElem?_eq_getElem hi, spanA_append]
  simp [spanA, List.getD, hi]
theorem spanA_len_le (ps : List (Nat × Nat)) (i : Nat) : (spanA (ps.take i)).length ≤ (spanA ps).length := by
  conv => rhs; rw [← List.take_append_drop i ps, spanA_append, List.length_append]
  omega
theorem room_len {b : Bool} {l : List Seg} {f n : Nat} (h : roomB b l f n = true) : (((addrs b l).drop f).take n).length = n := by
  simp only [roomB, decide_eq_true_iff] at h
  rw [List.length_take, List.length_drop, addrs_length]
  omega
end Go.Proofs.Ytmjdnocilbnoaaa

/- Scatter. -/
namespace Go.Proofs.Ytmjdnocilbnoaaa
open Go.RowKit Go.Maps
set_option linter.unusedVariables false
set_option linter.unusedSimpArgs false
set_option maxRecDepth 100000
/-- bytes laid at addresses, one behind the other -/
def layS (g : Nat → Nat) : List Nat → Nat → (Nat → Nat) → (Nat → Nat)
  | [], _, M => M
  | a :: xs, j, M => layS g xs (j + 1) (over M a 1 (fun _ => g j))
theorem layS_append (g : Nat → Nat) : ∀ (xs bs : List Nat) (j : Nat) (M : Nat → Nat), layS g (xs ++ bs) j M = layS g bs (j + xs.length) (layS g xs j M) := by
  intro xs
  induction xs with
  | nil => intro bs j M; rfl
  | cons a xs ih =>
    intro bs j M
    simp only [List.cons_append, layS, List.length_cons]
    rw [ih, show j + 1 + xs.length = j + (xs.length + 1) from by omega]
theorem over_one (M : Nat → Nat) (x L : Nat) (f : Nat → Nat) : over (over M x L f) (x + L) 1 (fun _ => f L) = over M x (L + 1) f := by
  funext a
  unfold over
  by_cases h1 : x + L ≤ a ∧ a < x + L + 1
  · have : a - x = L := by omega
    rw [if_pos h1, if_pos (by omega), this]
  · rw [if_neg h1]
    by_cases h2 : x ≤ a ∧ a < x + L
    · rw [if_pos h2, if_pos (by omega)]
    · rw [if_neg h2, if_neg (by omega)]
theorem layS_range (g : Nat → Nat) (j x : Nat) (M : Nat → Nat) : ∀ L, layS g ((List.range L).map (x + ·)) j M = over M x L (fun i => g (j + i)) := by
  intro L
  induction L with
  | zero => rw [over_zero]; rfl
  | succ L ih =>
    rw [List.range_succ, List.map_append, layS_append, ih, ← over_one]
    simp [layS]
theorem layS_le {g : Nat → Nat} (hg : ∀ i, g i ≤ 255) : ∀ (xs : List Nat) (j : Nat) (M : Nat → Nat), (∀ a, M a ≤ 255) → ∀ a, layS g xs j M a ≤ 255 := by
  intro xs
  induction xs with
  | nil => intro j M h; exact h
  | cons a xs ih => intro j M h; exact ih _ _ (over_le a 1 h (fun i _ => hg j))
def scaL (l : List Seg) (f n : Nat) : List Nat := ((addrs true l).drop f).take n
theorem span_step {B : Nat} {w w2 : World} {F F2 : Nat → Prop} {gs K co : Nat} {l : List (Nat × Nat)} (h : SpanIn B w (.slice (some ⟨gs, 0, none⟩) K co) l) (hn : ¬ F gs) (hs : Step F w F2 w2) : SpanIn B w2 (.slice (some ⟨gs, 0, none⟩) K co) l ∧ ¬ F2 gs := by
  have hlt := (h.lt gs rfl).2
  refine ⟨h.kept (fun q hq => ?_), fun hf => ?_⟩
  · have : q = gs := by simpa [Value.ownBlock] using hq.symm
    subst this
    exact hs.block _ hlt hn
  · rcases hs.old gs hf with h1 | h1
    · exact hn h1
    · omega
theorem reads_cells {F : Nat → Prop} {w : World} {bd od cd R : Nat} {f : Nat → Nat} (h : ReadsF F w (.slice (some ⟨bd, od, none⟩) R cd) R f) : ∀ i, i < R → w.cell? ⟨bd, od + i, none⟩ = some (.int .u8 (f i : Nat)) := by
  rcases h with ⟨h0, _⟩ | ⟨b', o', c', he, _, _, _, hcl⟩
  · intro i hi; omega
  · simp only [Value.slice.injEq, Option.some.injEq, Addr.mk.injEq, and_true, true_and] at he
    obtain ⟨⟨rfl, rfl⟩, rfl⟩ := he
    exact hcl
theorem reads_not {F F2 : Nat → Prop} {w w2 : World} {bd od cd R : Nat} {f : Nat → Nat} (h : ReadsF F w (.slice (some ⟨bd, od, none⟩) R cd) R f) (hs : Step F w F2 w2) (hn : ¬ F bd) (hR : 0 < R) : ¬ F2 bd := by
  have hlt := block_lt_of_cell (reads_cells h 0 hR)
  intro hf
  rcases hs.old bd hf with h1 | h1
  · exact hn h1
  · have h2 : bd < w.heap.size := hlt
    omega
theorem step_kept2 {F F2 : Nat → Prop} {V V2 : World} {q : Nat} {o : Obj} (h : V.heap[q]? = some o) (hs : Step F V F2 V2) (hq : ¬ F q) : V2.heap[q]? = some o ∧ ¬ F2 q := by
  have hlt := (Array.getElem?_eq_some_iff.1 h).1
  refine ⟨(hs.block q hlt hq).trans h, fun hf => ?_⟩
  rcases hs.old q hf with h1 | h1
  · exact hq h1
  · omega
set_option maxHeartbeats 4000000 in
theorem scatter_any {w : World} {F : Nat → Prop} {rb kk : Nat} {M : Nat → Nat} (hr : RamAt w F rb 8192 kk (.pointer none) M) (hkk : kk ≤ 900000) {a : Option Addr} {L c : Nat} {l : List Seg} (h : SegIn 0 w (.slice a L c) l) (hl : l.length ≤ 1000) (hok : ∀ s ∈ l, SegOk s) (ta tl : Nat) (f n : Nat) (hf : f < 18446744073709551616) (hn : n ≤ 4000) (g : Nat → Nat) (hg : ∀ i, g i ≤ 255) (va : Option Addr) (vc : Nat) (hd : ReadsF F w (.slice va n vc) n g) :
    Calls Try.prog 37 #[.agg #[.slice a L c, .int .u64 (ta : Int), .int .u64 (tl : Int)], .pointer (some ⟨rb, 0, none⟩), .int .u64 (f : Int), .slice va n vc] w fun e w' => e = .returned (.bool (roomB true l f n)) ∧ ∃ F', RamAt w' F' rb 8192 (kk + n) (.pointer none) (if roomB true l f n = true then layS g (scaL l f n) 0 M else M) ∧ Step F w F' w' := by
  have h2 := heap_alloc_new w (.cells #[.slice a L c, .int .u64 (ta : Int), .int .u64 (tl : Int)] 50)
  have hb : Below w.heap.size w (w.alloc (.cells #[.slice a L c, .int .u64 (ta : Int), .int .u64 (tl : Int)] 50)) := (Below.refl _ _).alloc (Nat.le_refl _) _
  have XB : Hid (Below w.heap.size w (w.alloc (.cells #[.slice a L c, .int .u64 (ta : Int), .int .u64 (tl : Int)] 50)) ∧ (w.alloc (.cells #[.slice a L c, .int .u64 (ta : Int), .int .u64 (tl : Int)] 50)).heap[w.heap.size]? = some (.cells #[.slice a L c, .int .u64 (ta : Int), .int .u64 (tl : Int)] 50 (0, 0))) := ⟨hb, h2⟩
  have K45 : Hid (∀ V, Below w.heap.size w V → Calls Try.prog 60 #[.agg #[.slice a L c, .int .u64 (ta : Int), .int .u64 (tl : Int)], .pointer (some ⟨rb, 0, none⟩), .bool true, .int .u64 (f : Int), .int .u64 (n : Int)] V fun e w' => Below V.heap.size V w' ∧ ((roomB true l f n = false ∧ e = .returned (.tuple #[.slice none 0 0, .bool false])) ∨ (roomB true l f n = true ∧ ∃ vo, e = .returned (.tuple #[vo, .bool true]) ∧ SpanIn V.heap.size w' vo (pcs true l f n).1))) := fun V hV => pieces_any (hr.below hV) (h.kept (fun g hg => hV.block g (h.lt g hg).2)) hl hok ta tl true f n hf (by omega)
  have HR : Hid (RamAt w F rb 8192 kk (.pointer none) M ∧ ReadsF F w (.slice va n vc) n g ∧ (∀ i, g i ≤ 255) ∧ kk ≤ 900000) := ⟨hr, hd, hg, hkk⟩
  have HP : Hid ((∀ p ∈ (pcs true l f n).1, inB p.1 p.2 2147483648 8192 = true ∧ 0 < p.2 ∧ p.1 < 18446744073709551616 ∧ p.2 ≤ 8192) ∧ (pcs true l f n).1.length ≤ 1000 ∧ spanA (pcs true l f n).1 = scaL l f n) := ⟨pcs_ok hok f n, Nat.le_trans (pcs_len true l f n) hl, pcs_span true l f n⟩
  have e1 : IntKind.u64.wrap (n : Int) = (n : Int) := by rw [wrap_u64]; omega
  obtain ⟨Mx, hMx⟩ : ∃ Mx, (if roomB true l f n = true then layS g (scaL l f n) 0 M else M) = Mx := ⟨_, rfl⟩
  rw [hMx]
  obtain ⟨rm, hrm⟩ : ∃ rm, roomB true l f n = rm := ⟨_, rfl⟩
  rw [hrm]
  have HMX : Hid ((rm = true → Mx = layS g (scaL l f n) 0 M) ∧ (rm = false → Mx = M) ∧ roomB true l f n = rm) := by
    rw [hrm] at hMx
    refine ⟨fun h => ?_, fun h => ?_, hrm⟩
    · rw [← hMx, h, if_pos rfl]
    · rw [← hMx, h, if_neg (by decide)]
  rw [hrm] at K45
  clear hMx hrm
  clear h2 hb hr h hl hok hf hd hg hkk
  go_enter Try.func37, Try.ntmps37
  go_upto_region 1 with fail
  obtain ⟨p0, p1, p2⟩ := box3_facts XB.out.2
  generalize w.alloc (.cells #[.slice a L c, .int .u64 (ta : Int), .int .u64 (tl : Int)] 50) = v0 at *
  go_upto_region 2 with (go_at_call 60; refine (K45.out _ XB.out.1).mono ?_; rintro e w1 ⟨hb1, hor⟩; rcases hor with ⟨hrb, rfl⟩ | ⟨hrb, vo, rfl, hsp⟩)
  · have X1 : Hid (Below w.heap.size w w1) := below_to XB.out.1 hb1
    subst hrb
    have HMM : Hid (Mx = M) := HMX.out.2.1 rfl
    clear hb1
    go_wp2_with fail
    go_ret
    refine ⟨rfl, F, ?_, Step.of_below X1.out⟩
    rw [HMM.out]
    exact (HR.out.1.below X1.out).mono (by omega)
  · subst hrb
    have hrb := HMX.out.2.2
    have HMM : Hid (Mx = layS g (scaL l f n) 0 M) := HMX.out.1 rfl
    obtain ⟨ao, co, hvo⟩ := hsp.form
    subst hvo
    obtain ⟨ps, hps⟩ : ∃ ps, (pcs true l f n).1 = ps := ⟨_, rfl⟩
    rw [hps] at hsp HP ⊢
    obtain ⟨K, hK⟩ : ∃ K, ps.length = K := ⟨_, rfl⟩
    have hlen : (spanA ps).length = n := by rw [HP.out.2.2]; exact room_len hrb
    have X1 : Hid (Below w.heap.size w w1 ∧ roomB true l f n = true ∧ SpanIn v0.heap.size w1 (.slice ao ps.length co) ps ∧ w.heap.size ≤ v0.heap.size) := ⟨below_to XB.out.1 hb1, hrb, hsp, XB.out.1.size⟩
    rw [hK] at X1 ⊢
    have HK : Hid (ps.length = K ∧ K ≤ 1000 ∧ (spanA ps).length = n) := ⟨hK, by have := HP.out.2.1; omega, hlen⟩
    clear hb1 hrb hsp hps hK XB p0 p1 p2 hlen K45
    go_wp2_with fail
    go_loopw [3, 27] (fun d xx wr => ∃ (i j : Nat) (G : Nat → Prop), i ≤ K ∧ xx = .int .i64 (i : Int) ∧ (spanA (ps.take i)).length = j ∧ j ≤ n ∧ ReadsF G wr d (n - j) (fun z => g (j + z)) ∧ RamAt wr G rb 8192 (kk + j) (.pointer none) (layS g (spanA (ps.take i)) 0 M) ∧ Step F w G wr ∧ SpanIn v0.heap.size wr (.slice ao K co) ps ∧ (∀ q, (Value.slice ao K co).ownBlock = some q → ¬ G q)) (fun _ xx _ => K - (intOf xx).toNat)
    case atStart =>
      refine ⟨0, 0, F, Nat.zero_le _, rfl, rfl, Nat.zero_le _, ?_, HR.out.1.below X1.out.1, Step.of_below X1.out.1, X1.out.2.2.1, fun q hq hf => ?_⟩
      · have := HR.out.2.1.step (Step.of_below X1.out.1)
        simpa using this
      · have h1 := (X1.out.2.2.1.lt q hq).1
        have h2 := HR.out.1.lt q hf
        have h3 := X1.out.2.2.2
        omega
    case round =>
      obtain ⟨i, j, G, hi, rfl, hj, hjn, hrd, hrm, hst, hsp, hgq⟩ := hrel
      by_cases hlt : i < K
      case neg =>
        have h1 : ¬ (i : Int) < (K : Int) := by omega
        have hiK : i = ps.length := by have := HK.out.1; omega
        rw [hiK, List.take_length] at hj hrm
        rw [HK.out.2.2] at hj
        subst hj
        have HM : Hid (RamAt wr G rb 8192 (kk + n) (.pointer none) (layS g (scaL l f n) 0 M) ∧ Step F w G wr) := ⟨by rw [← HP.out.2.2]; exact hrm, hst⟩
        rw [Nat.sub_self] at hrd
        clear hlt hi hiK hrm hst hsp hgq
        rcases hrd with ⟨_, a0, c0, _, rfl⟩ | ⟨b0, o0, c0, rfl, _⟩
        all_goals
          go_wp2_with fail
          go_ret
          refine ⟨rfl, G, ?_, HM.out.2⟩
          rw [HMM.out]
          exact HM.out.1
      case pos =>
        have h1 : (i : Int) < (K : Int) := by omega
        have hil : i < ps.length := by have := HK.out.1; omega
        obtain ⟨gs, cg, hsl, hcl⟩ := hsp.cells (by omega)
        have hsl2 := hsl
        rw [HK.out.1] at hsl2
        simp only [Value.slice.injEq, true_and] at hsl2
        obtain ⟨rfl, rfl⟩ := hsl2
        obtain ⟨x2, y2⟩ := hcl i hil
        have hpo := HP.out.1 (ps.getD i (0, 0)) (by simp [List.getD, hil])
        have ht := spanA_take ps i hil
        have hlen := spanA_len_le ps (i + 1)
        rw [HK.out.2.2] at hlen
        obtain ⟨x, hx⟩ : ∃ x, (ps.getD i (0, 0)).1 = x := ⟨_, rfl⟩
        obtain ⟨tk, htk⟩ : ∃ tk, (ps.getD i (0, 0)).2 = tk := ⟨_, rfl⟩
        rw [hx] at x2 ht hpo
        rw [htk] at y2 ht hpo
        have hlen2 : (spanA (ps.take (i + 1))).length = j + tk := by rw [ht, List.length_append, hj]; simp
        have hjt : j + tk ≤ n := by omega
        rcases hrd with ⟨h0, _⟩ | ⟨bd, od, cd, rfl, hG, hc1, hc2, hcell⟩
        · have := hpo.2.1; omega
        obtain ⟨R, hR⟩ : ∃ R, n - j = R := ⟨_, rfl⟩
        rw [hR] at hcell hc1 ⊢
        have htR : tk ≤ R := by omega
        have htc : (tk : Int) ≤ (cd : Int) := by omega
        have htc2 : (tk : Int) ≤ (R : Int) := by omega
        have hRc : (R : Int) ≤ (cd : Int) := by omega
        have HJ : Hid (spanA (ps.take (i + 1)) = spanA (ps.take i) ++ (List.range tk).map (x + ·) ∧ (spanA (ps.take (i + 1))).length = j + tk ∧ j + tk ≤ n ∧ n - j = R ∧ tk ≤ R ∧ (spanA (ps.take i)).length = j ∧ i < K ∧ inB x tk 2147483648 8192 = true ∧ x < 18446744073709551616) := ⟨ht, hlen2, hjt, hR, htR, hj, hlt, hpo.1, hpo.2.2.1⟩
        have HJ0 : Hid (0 < tk ∧ 0 < R) := ⟨hpo.2.1, by have := hpo.2.1; omega⟩
        have hi6 : i ≤ 1000 := by have := HK.out.2.1; omega
        have htk9 : tk ≤ 4000 := by omega
        have hb2 : Below wr.heap.size wr (wr.alloc (.cells #[.int .u64 (x : Int), .int .u64 (tk : Int)] 48)) := (Below.refl _ _).alloc (Nat.le_refl _) _
        have X2 : Hid (RamAt (wr.alloc (.cells #[.int .u64 (x : Int), .int .u64 (tk : Int)] 48)) G rb 8192 (kk + j) (.pointer none) (layS g (spanA (ps.take i)) 0 M) ∧ Step F w G (wr.alloc (.cells #[.int .u64 (x : Int), .int .u64 (tk : Int)] 48)) ∧ SpanIn v0.heap.size (wr.alloc (.cells #[.int .u64 (x : Int), .int .u64 (tk : Int)] 48)) (.slice (some ⟨gs, 0, none⟩) K co) ps ∧ ¬ G gs ∧ (wr.alloc (.cells #[.int .u64 (x : Int), .int .u64 (tk : Int)] 48)).heap[wr.heap.size]? = some (.cells #[.int .u64 (x : Int), .int .u64 (tk : Int)] 48 (0, 0)) ∧ ¬ G wr.heap.size ∧ ReadsF G (wr.alloc (.cells #[.int .u64 (x : Int), .int .u64 (tk : Int)] 48)) (.slice (some ⟨bd, od, none⟩) R cd) R (fun z => g (j + z))) := ⟨hrm.below hb2, hst.trans (Step.of_below hb2), hsp.kept (fun q hq => hb2.block q (hsp.lt q hq).2), hgq gs rfl, heap_alloc_new _ _, fun hf => by have := hrm.lt _ hf; omega, ReadsF.step (F := G) (F' := G) (.inr ⟨bd, od, cd, rfl, hG, hc1, hc2, hcell⟩) (Step.of_below hb2)⟩
        have HCB : Hid (¬ G bd ∧ R ≤ cd ∧ cd ≤ 9223372036854775807) := ⟨hG, hc1, hc2⟩
        clear hrm hst hsp hgq hcl hpo ht hlen hx htk hlen2 hjt hR htR hlt hil hsl hb2 hj hG hc1 hc2 hcell hjn hi
        go_upto_region 7 with fail
        clear x2 y2
        generalize wr.alloc (.cells #[.int .u64 (x : Int), .int .u64 (tk : Int)] 48) = w2 at *
        generalize wr.heap.size = q2 at *
        have Xd : Hid (RamAt w2.drew G rb 8192 (kk + j) (.pointer none) (layS g (spanA (ps.take i)) 0 M) ∧ Step F w G w2.drew ∧ SpanIn v0.heap.size w2.drew (.slice (some ⟨gs, 0, none⟩) K co) ps ∧ ¬ G gs ∧ w2.drew.heap[q2]? = some (.cells #[.int .u64 (x : Int), .int .u64 (tk : Int)] 48 (0, 0)) ∧ ¬ G q2 ∧ ReadsF G w2.drew (.slice (some ⟨bd, od, none⟩) R cd) R (fun z => g (j + z))) := ⟨X2.out.1.below (Below.refl _ _).drew, X2.out.2.1.trans (Step.of_below (Below.refl _ _).drew), X2.out.2.2.1, X2.out.2.2.2.1, X2.out.2.2.2.2.1, X2.out.2.2.2.2.2.1, ReadsF.step X2.out.2.2.2.2.2.2 (Step.of_below (Below.refl _ _).drew)⟩
        clear X2
        have K32 : Hid (Calls Try.prog 23 #[.pointer (some ⟨rb, 0, none⟩), .int .u64 (x : Int), .slice (some ⟨bd, od, none⟩) tk cd] w2.drew fun e w' => e = .returned (.bool true) ∧ ∃ F', RamAt w' F' rb 8192 (kk + j + tk) (.pointer none) (over (layS g (spanA (ps.take i)) 0 M) x tk (fun z => g (j + z))) ∧ Step G w2.drew F' w') := by
          have hrd2 : ReadsF G w2.drew (.slice (some ⟨bd, od, none⟩) tk cd) tk (fun z => g (j + z)) := by
            rcases Xd.out.2.2.2.2.2.2 with ⟨h0, _⟩ | ⟨b', o', c', he, hb', _, hc', hcl⟩
            · refine .inl ⟨by have := HJ.out.2.2.2.2.1; omega, ?_⟩
              have : tk = 0 := by have := HJ.out.2.2.2.2.1; omega
              subst this
              exact ⟨_, cd, HCB.out.2.2, rfl⟩
            · simp only [Value.slice.injEq, Option.some.injEq, Addr.mk.injEq, and_true, true_and] at he
              obtain ⟨⟨rfl, rfl⟩, rfl⟩ := he
              exact .inr ⟨_, _, _, rfl, hb', by have := HJ.out.2.2.2.2.1; have := HCB.out.2.1; omega, hc', fun z hz => hcl z (by have := HJ.out.2.2.2.2.1; omega)⟩
          have := write_any Xd.out.1 (by omega) x tk (fun z => g (j + z)) _ HJ.out.2.2.2.2.2.2.2.2 hrd2 (fun z _ => HR.out.2.2.1 _) (by have := HR.out.2.2.2; have := HJ.out.2.2.1; omega)
          have hin : inB (x : Int) (tk : Int) 2147483648 ((8192 : Nat) : Int) = true := HJ.out.2.2.2.2.2.2.2.1
          rw [hin, if_pos rfl] at this
          exact this
        obtain ⟨t0, t1, _, _⟩ := box_facts Xd.out.2.2.2.2.1
        go_region_held3 (fun Z => Z.cell? ⟨q2, 0, none⟩ = some (.int .u64 (x : Int)) ∧ Z.cell? ⟨q2, 1, none⟩ = some (.int .u64 (tk : Int))) (go_keep) (first | (go_at_call 23; refine (K32.out).mono ?_; rintro e w3 ⟨rfl, G3, hr3, hs3⟩; have X3 : Hid (RamAt w3 G3 rb 8192 (kk + j + tk) (.pointer none) (over (layS g (spanA (ps.take i)) 0 M) x tk (fun z => g (j + z))) ∧ Step F w G3 w3 ∧ (SpanIn v0.heap.size w3 (.slice (some ⟨gs, 0, none⟩) K co) ps ∧ ¬ G3 gs) ∧ w3.heap[q2]? = some (.cells #[.int .u64 (x : Int), .int .u64 (tk : Int)] 48 (0, 0)) ∧ ReadsF G3 w3 (.slice (some ⟨bd, od, none⟩) R cd) R (fun z => g (j + z)) ∧ ¬ G3 bd) := ⟨hr3, Xd.out.2.1.trans hs3, span_step Xd.out.2.2.1 Xd.out.2.2.2.1 hs3, (step_kept2 Xd.out.2.2.2.2.1 hs3 Xd.out.2.2.2.2.2.1).1, ReadsF.step Xd.out.2.2.2.2.2.2 hs3, reads_not Xd.out.2.2.2.2.2.2 hs3 HCB.out.1 HJ0.out.2⟩; clear hr3 hs3; obtain ⟨t2, t3, _, _⟩ := box_facts X3.out.2.2.2.1))
        clear Xd K32 t0 t1
        go_wp2_with fail
        go_roundw
        case rel =>
          refine ⟨i + 1, j + tk, G3, HJ.out.2.2.2.2.2.2.1, by go_num, HJ.out.2.1, HJ.out.2.2.1, ?_, ?_, X3.out.2.1, X3.out.2.2.1.1, fun q hq => ?_⟩
          · have hcut := ReadsF.cut (F := G3) (w := w3) (b := bd) (off := od) (cap := cd) (n := R) (m := tk) (f := fun z => g (j + z)) X3.out.2.2.2.2.2 HCB.out.2.1 HCB.out.2.2 HJ.out.2.2.2.2.1 (reads_cells X3.out.2.2.2.2.1)
            rw [show n - (j + tk) = R - tk from by have := HJ.out; omega]
            simpa [Nat.add_assoc] using hcut
          · rw [HJ.out.1, layS_append, HJ.out.2.2.2.2.2.1, Nat.zero_add, layS_range]
            rw [← Nat.add_assoc]
            exact X3.out.1
          · have : q = gs := by simpa [Value.ownBlock] using hq.symm
            subst this
            exact X3.out.2.2.1.2
        case measure => simp [intOf]; have := HJ.out.2.2.2.2.2.2.1; omega
end Go.Proofs.Ytmjdnocilbnoaaa

/- What the driver offers, on both sides. -/
namespace Go.Proofs.Ytmjdnocilbnoaaa
open Go.RowKit Go.Maps
set_option linter.unusedVariables false
set_option linter.unusedSimpArgs false
set_option maxRecDepth 100000
/-- a layout that Check lets be, in a memory of 8192 bytes -/
structure Gd (n D A U : Nat) : Prop where
  chk : chkN (n : Int) D A U 8192 = 0
  n1 : 1 ≤ n
  n2 : n ≤ 256
  pw : powB (n : Int) = true
  a1 : 2147483648 ≤ A
  a2 : A + 6 + 2 * n ≤ 2147491840
  u1 : 2147483648 ≤ U
  u2 : U + 6 + 8 * n ≤ 2147491840
  d1 : D < 18446744073709551616
theorem gd_of {s : Int} {D A U : Nat} (h : chkN s D A U 8192 = 0) (hD : D < 18446744073709551616) : ∃ n : Nat, s = n ∧ Gd n D A U := by
  obtain ⟨n, rfl, h1, h2, h3, _, _, _, _, h4, h5⟩ := chk_zero h
  exact ⟨n, rfl, ⟨h, h1, h2, h3, h4.1, by omega, h5.1, by omega, hD⟩⟩
theorem pow_two {n : Nat} (h : powB (n : Int) = true) : ∃ k, k < 9 ∧ n = 2 ^ k := by
  have key : (List.range 257).all (fun n => !powB (n : Int) || (List.range 9).any (fun k => n == 2 ^ k)) = true := by decide +kernel
  obtain ⟨m, hm, _, h2⟩ := pow_in h
  have hm' : n = m := by omega
  subst hm'
  have h1 := List.all_eq_true.1 key n (List.mem_range.2 (by omega))
  rw [h] at h1
  simp only [Bool.not_true, Bool.false_or] at h1
  obtain ⟨k, hk, he⟩ := List.any_eq_true.1 h1
  exact ⟨k, List.mem_range.1 hk, by simpa using he⟩
theorem and_pow {n m : Nat} (h : powB (n : Int) = true) : m &&& (n - 1) = m % n := by
  obtain ⟨k, _, rfl⟩ := pow_two h
  exact Nat.and_two_pow_sub_one_eq_mod m k
theorem wrapRl (y : Nat) (h : y < 9223372036854775808) : IntKind.i64.wrap (y : Int) = (y : Int) := by
  simp [IntKind.wrap, IntKind.signed, IntKind.bits]
  omega
theorem one_box (w : World) (o : Obj) : Below w.heap.size w (w.alloc o) := (Below.refl _ _).alloc (Nat.le_refl _) _
theorem slot_any {n D A U : Nat} (h : Gd n D A U) (m r : Nat) (hm : m ≤ 65535) (hr : r = m % n) (w : World) : Calls Try.prog 81 #[.agg #[.int .i64 (n : Int), .int .u64 (D : Int), .int .u64 (A : Int), .int .u64 (U : Int)], .int .u16 (m : Int)] w fun e w' => e = .returned (.int .u64 (r : Int)) ∧ Below w.heap.size w w' := by
  have h1 := h.n1
  have h2 := h.n2
  obtain ⟨p, hp⟩ : ∃ p, p = n - 1 := ⟨_, rfl⟩
  have e1 : IntKind.u64.wrap (m : Int) = (m : Int) := by rw [wrap_u64]; omega
  have e2 : wrap64 (p : Int) = (p : Int) := by unfold wrap64; omega
  have e2' : (n : Int) - 1 = (p : Int) := by omega
  have e3 : IntKind.u64.wrap (p : Int) = (p : Int) := by rw [wrap_u64]; omega
  have e4 : bits .and .u64 (m : Int) (p : Int) = (r : Int) := by rw [u64_and_nat m p (by omega) (by omega), hp, and_pow h.pw, hr]
  clear h hp hr h1 h2
  go_enter Try.func81, Try.ntmps81
  go_wp2_with fail
  go_ret
  exact ⟨rfl, one_box _ _⟩
theorem rd_lt {M : Nat → Nat} (hM : ∀ a, M a ≤ 255) (x : Nat) : wordN M x 2 8192 ≤ 65535 := by
  have := wordN_lt hM x 2 8192
  omega
theorem half_any {w : World} {F : Nat → Prop} {rb k : Nat} {M : Nat → Nat} (h : RamAt w F rb 8192 k (.pointer none) M) {n D A U : Nat} (hg : Gd n D A U) (x : Nat) (hx : x < 18446744073709551616) : Calls Try.prog 74 #[.pointer (some ⟨rb, 0, none⟩), .agg #[.int .i64 (n : Int), .int .u64 (D : Int), .int .u64 (A : Int), .int .u64 (U : Int)], .int .u64 (x : Int)] w fun e w' => e = .returned (.int .u16 (wordN M x 2 8192 : Nat)) ∧ Below w.heap.size w w' := by
  have HR : Hid (RamAt (w.alloc (.cells #[.int .i64 (n : Int), .int .u64 (D : Int), .int .u64 (A : Int), .int .u64 (U : Int)] 25)) F rb 8192 k (.pointer none) M ∧ Below w.heap.size w (w.alloc (.cells #[.int .i64 (n : Int), .int .u64 (D : Int), .int .u64 (A : Int), .int .u64 (U : Int)] 25))) := ⟨h.below (one_box _ _), one_box _ _⟩
  have hlt := rd_lt h.le x
  have HM : Hid (∀ a, M a ≤ 255) := h.le
  have HG : Hid (Gd n D A U ∧ A < 18446744073709551616 ∧ U < 18446744073709551616 ∧ x < 18446744073709551616) := ⟨hg, by have := hg.a2; omega, by have := hg.u2; omega, hx⟩
  obtain ⟨y, hy⟩ : ∃ y, wordN M x 2 8192 = y := ⟨_, rfl⟩
  rw [hy] at hlt ⊢
  have ey : IntKind.u16.wrap (y : Int) = (y : Int) := by rw [wrap16]; omega
  have HY : Hid (wordN M x 2 8192 = y) := hy
  clear h hg hx hlt hy
  cases hin : inB x 2 2147483648 8192 with
  | false =>
    have HI : Hid (inB x 2 2147483648 8192 = false) := hin
    clear hin
    obtain rfl : y = 0 := by rw [← HY.out, wordN, if_neg (by rw [show inB (x : Int) ((2 : Nat) : Int) 2147483648 ((8192 : Nat) : Int) = false from HI.out]; decide)]
    go_enter Try.func74, Try.ntmps74
    go_wp2_with fail
    refine (check_any HG.out.1.d1 HG.out.2.1 HG.out.2.2.1 HR.out.1 (by omega)).mono ?_
    rintro e w1 ⟨rfl, hb1⟩
    rw [HG.out.1.chk]
    have X1 : Hid (RamAt w1 F rb 8192 k (.pointer none) M ∧ Below w.heap.size w w1) := ⟨HR.out.1.below hb1, below_to HR.out.2 hb1⟩
    clear hb1 HR
    go_wp2_with fail
    refine (read_out X1.out.1 (by omega) x 2 HG.out.2.2.2 (by omega) HI.out).mono ?_
    rintro e w2 ⟨rfl, hw⟩
    rw [hw]
    clear hw w2
    go_wp2_with fail
    refine (of_any (fun _ => 0) 0 0 _ (by decide) (by decide) (fun i hi => by omega) _ (.inl ⟨rfl, _, _, rfl⟩)).mono ?_
    rintro e w2 ⟨rfl, hw⟩
    rw [hw]
    clear hw w2
    have e00 : ((h256 (fun _ => 0) 0 0 : Nat) : Int) = 0 := rfl
    rw [e00]
    go_wp2_with fail
    go_ret
    exact ⟨rfl, X1.out.2⟩
  | true =>
    have HI : Hid (inB x 2 2147483648 8192 = true) := hin
    clear hin
    have HV : Hid (h256 (fun i => M (x + i)) 2 0 = y) := by
      show _ = _
      rw [← HY.out, wordN, if_pos (show inB (x : Int) ((2 : Nat) : Int) 2147483648 ((8192 : Nat) : Int) = true from HI.out)]
    go_enter Try.func74, Try.ntmps74
    go_wp2_with fail
    refine (check_any HG.out.1.d1 HG.out.2.1 HG.out.2.2.1 HR.out.1 (by omega)).mono ?_
    rintro e w1 ⟨rfl, hb1⟩
    rw [HG.out.1.chk]
    have X1 : Hid (RamAt w1 F rb 8192 k (.pointer none) M ∧ Below w.heap.size w w1) := ⟨HR.out.1.below hb1, below_to HR.out.2 hb1⟩
    clear hb1 HR
    go_wp2_with fail
    refine (read_in X1.out.1 (by omega) x 2 HG.out.2.2.2 (by omega) HI.out).mono ?_
    rintro e w2 ⟨rfl, ho, hb2⟩
    have X2 : Hid (Below w.heap.size w w2 ∧ Reads .u8 w2 (.slice (some ⟨w1.heap.size, 0, none⟩) 2 2) 2 (fun i => M (x + i))) := ⟨below_to X1.out.2 hb2, reads_own ho⟩
    clear ho hb2 X1
    go_wp2_with fail
    refine (of_any (fun i => M (x + i)) 2 2 _ (by decide) (by decide) (fun i _ => HM.out _) _ X2.out.2).mono ?_
    rintro e w3 ⟨rfl, hw⟩
    rw [hw, HV.out]
    clear hw w3
    go_wp2_with fail
    go_ret
    exact ⟨rfl, X2.out.1⟩
theorem flags_any {w : World} {F : Nat → Prop} {rb k : Nat} {M : Nat → Nat} (h : RamAt w F rb 8192 k (.pointer none) M) {n D A U : Nat} (hg : Gd n D A U) : Calls Try.prog 55 #[.pointer (some ⟨rb, 0, none⟩), .agg #[.int .i64 (n : Int), .int .u64 (D : Int), .int .u64 (A : Int), .int .u64 (U : Int)]] w fun e w' => e = .returned (.int .u16 (wordN M (A) 2 8192 : Nat)) ∧ Below w.heap.size w w' := by
  have B0 : Hid ((w.alloc (.cells #[.int .i64 (n : Int), .int .u64 (D : Int), .int .u64 (A : Int), .int .u64 (U : Int)] 25)).heap[w.heap.size]? = some (.cells #[.int .i64 (n : Int), .int .u64 (D : Int), .int .u64 (A : Int), .int .u64 (U : Int)] 25 (0, 0)) ∧ RamAt (w.alloc (.cells #[.int .i64 (n : Int), .int .u64 (D : Int), .int .u64 (A : Int), .int .u64 (U : Int)] 25)) F rb 8192 k (.pointer none) M ∧ Below w.heap.size w (w.alloc (.cells #[.int .i64 (n : Int), .int .u64 (D : Int), .int .u64 (A : Int), .int .u64 (U : Int)] 25))) := ⟨heap_alloc_new _ _, h.below (one_box _ _), one_box _ _⟩
  have g1 := hg.a1
  have g2 := hg.a2
  have g3 := hg.n2
  have g4 := hg.n1
  have HX : Hid (A = A ∧ A < 18446744073709551616) := ⟨by omega, by omega⟩
  have HG : Hid (Gd n D A U) := hg
  clear g1 g2 g3 g4 hg h  
  rw [HX.out.1]
  go_enter Try.func55, Try.ntmps55
  go_upto_region 1 with fail
  generalize (w.alloc (.cells #[.int .i64 (n : Int), .int .u64 (D : Int), .int .u64 (A : Int), .int .u64 (U : Int)] 25)) = w0 at *
  obtain ⟨c0, c1, c2, c3⟩ := box4_facts B0.out.1
  go_wp2_with fail
  refine (half_any B0.out.2.1 HG.out A HX.out.2).mono ?_
  rintro e w1 ⟨rfl, hb1⟩
  have X1 : Hid (Below w.heap.size w w1) := below_to B0.out.2.2 hb1
  clear hb1
  go_wp2_with fail
  go_ret
  exact ⟨rfl, X1.out⟩
theorem offered_any {w : World} {F : Nat → Prop} {rb k : Nat} {M : Nat → Nat} (h : RamAt w F rb 8192 k (.pointer none) M) {n D A U : Nat} (hg : Gd n D A U) : Calls Try.prog 67 #[.pointer (some ⟨rb, 0, none⟩), .agg #[.int .i64 (n : Int), .int .u64 (D : Int), .int .u64 (A : Int), .int .u64 (U : Int)]] w fun e w' => e = .returned (.int .u16 (wordN M (A + 2) 2 8192 : Nat)) ∧ Below w.heap.size w w' := by
  have B0 : Hid ((w.alloc (.cells #[.int .i64 (n : Int), .int .u64 (D : Int), .int .u64 (A : Int), .int .u64 (U : Int)] 25)).heap[w.heap.size]? = some (.cells #[.int .i64 (n : Int), .int .u64 (D : Int), .int .u64 (A : Int), .int .u64 (U : Int)] 25 (0, 0)) ∧ RamAt (w.alloc (.cells #[.int .i64 (n : Int), .int .u64 (D : Int), .int .u64 (A : Int), .int .u64 (U : Int)] 25)) F rb 8192 k (.pointer none) M ∧ Below w.heap.size w (w.alloc (.cells #[.int .i64 (n : Int), .int .u64 (D : Int), .int .u64 (A : Int), .int .u64 (U : Int)] 25))) := ⟨heap_alloc_new _ _, h.below (one_box _ _), one_box _ _⟩
  have g1 := hg.a1
  have g2 := hg.a2
  have g3 := hg.n2
  have g4 := hg.n1
  obtain ⟨A2, qA2⟩ : ∃ y : Nat, y = A + 2 := ⟨_, rfl⟩
  have wA2 : IntKind.u64.wrap ((A : Int) + 2) = (A2 : Int) := by rw [wrap_u64]; omega
  have HX : Hid (A + 2 = A2 ∧ A2 < 18446744073709551616) := ⟨by omega, by omega⟩
  have HG : Hid (Gd n D A U) := hg
  clear g1 g2 g3 g4 hg h  qA2
  rw [HX.out.1]
  go_enter Try.func67, Try.ntmps67
  go_upto_region 1 with fail
  generalize (w.alloc (.cells #[.int .i64 (n : Int), .int .u64 (D : Int), .int .u64 (A : Int), .int .u64 (U : Int)] 25)) = w0 at *
  obtain ⟨c0, c1, c2, c3⟩ := box4_facts B0.out.1
  go_wp2_with fail
  refine (half_any B0.out.2.1 HG.out A2 HX.out.2).mono ?_
  rintro e w1 ⟨rfl, hb1⟩
  have X1 : Hid (Below w.heap.size w w1) := below_to B0.out.2.2 hb1
  clear hb1
  go_wp2_with fail
  go_ret
  exact ⟨rfl, X1.out⟩
theorem head_any {w : World} {F : Nat → Prop} {rb k : Nat} {M : Nat → Nat} (h : RamAt w F rb 8192 k (.pointer none) M) {n D A U : Nat} (hg : Gd n D A U) (m r : Nat) (hm : m ≤ 65535) (hr : r = m % n) : Calls Try.prog 68 #[.pointer (some ⟨rb, 0, none⟩), .agg #[.int .i64 (n : Int), .int .u64 (D : Int), .int .u64 (A : Int), .int .u64 (U : Int)], .int .u16 (m : Int)] w fun e w' => e = .returned (.int .u16 (wordN M (A + 4 + 2 * r) 2 8192 : Nat)) ∧ Below w.heap.size w w' := by
  have B0 : Hid ((w.alloc (.cells #[.int .i64 (n : Int), .int .u64 (D : Int), .int .u64 (A : Int), .int .u64 (U : Int)] 25)).heap[w.heap.size]? = some (.cells #[.int .i64 (n : Int), .int .u64 (D : Int), .int .u64 (A : Int), .int .u64 (U : Int)] 25 (0, 0)) ∧ RamAt (w.alloc (.cells #[.int .i64 (n : Int), .int .u64 (D : Int), .int .u64 (A : Int), .int .u64 (U : Int)] 25)) F rb 8192 k (.pointer none) M ∧ Below w.heap.size w (w.alloc (.cells #[.int .i64 (n : Int), .int .u64 (D : Int), .int .u64 (A : Int), .int .u64 (U : Int)] 25))) := ⟨heap_alloc_new _ _, h.below (one_box _ _), one_box _ _⟩
  have g1 := hg.a1
  have g2 := hg.a2
  have g3 := hg.n2
  have g4 := hg.n1
  have g5 : r < n := by rw [hr]; exact Nat.mod_lt _ (by omega)
  have er : IntKind.u64.wrap (r : Int) = (r : Int) := by rw [wrap_u64]; omega
  obtain ⟨A4, qA4⟩ : ∃ y : Nat, y = A + 4 := ⟨_, rfl⟩
  have wA4 : IntKind.u64.wrap ((A : Int) + 4) = (A4 : Int) := by rw [wrap_u64]; omega
  obtain ⟨r2, qr2⟩ : ∃ y : Nat, y = 2 * r := ⟨_, rfl⟩
  have wr2 : IntKind.u64.wrap (2 * (r : Int)) = (r2 : Int) := by rw [wrap_u64]; omega
  obtain ⟨x, qx⟩ : ∃ y : Nat, y = A4 + r2 := ⟨_, rfl⟩
  have wx : IntKind.u64.wrap ((A4 : Int) + (r2 : Int)) = (x : Int) := by rw [wrap_u64]; omega
  have HX : Hid (A + 4 + 2 * r = x ∧ x < 18446744073709551616) := ⟨by omega, by omega⟩
  have HG : Hid (Gd n D A U) := hg
  have HS : Hid (∀ V, Calls Try.prog 81 #[.agg #[.int .i64 (n : Int), .int .u64 (D : Int), .int .u64 (A : Int), .int .u64 (U : Int)], .int .u16 (m : Int)] V fun e w' => e = .returned (.int .u64 (r : Int)) ∧ Below V.heap.size V w') := fun V => slot_any hg m r hm hr V
  clear g1 g2 g3 g4 hg h g5 hm hr qA4 qr2 qx
  rw [HX.out.1]
  go_enter Try.func68, Try.ntmps68
  go_upto_region 1 with fail
  generalize (w.alloc (.cells #[.int .i64 (n : Int), .int .u64 (D : Int), .int .u64 (A : Int), .int .u64 (U : Int)] 25)) = w0 at *
  obtain ⟨c0, c1, c2, c3⟩ := box4_facts B0.out.1
  have Bd : Hid (w0.drew.heap[w.heap.size]? = some (.cells #[.int .i64 (n : Int), .int .u64 (D : Int), .int .u64 (A : Int), .int .u64 (U : Int)] 25 (0, 0)) ∧ RamAt w0.drew F rb 8192 k (.pointer none) M ∧ Below w.heap.size w w0.drew) := ⟨B0.out.1, B0.out.2.1.below (Below.drew (Below.refl _ _)), B0.out.2.2.drew⟩
  go_region_held3 (fun Z => Z.cell? ⟨w.heap.size, 0, none⟩ = some (.int .i64 (n : Int)) ∧ Z.cell? ⟨w.heap.size, 1, none⟩ = some (.int .u64 (D : Int)) ∧ Z.cell? ⟨w.heap.size, 2, none⟩ = some (.int .u64 (A : Int)) ∧ Z.cell? ⟨w.heap.size, 3, none⟩ = some (.int .u64 (U : Int))) (go_keep) (first | (go_at_call 81; refine (HS.out _).mono ?_; rintro e w1 ⟨rfl, hb1⟩; have X1 : Hid (w1.heap[w.heap.size]? = some (.cells #[.int .i64 (n : Int), .int .u64 (D : Int), .int .u64 (A : Int), .int .u64 (U : Int)] 25 (0, 0)) ∧ RamAt w1 F rb 8192 k (.pointer none) M ∧ Below w.heap.size w w1) := ⟨below_box Bd.out.1 hb1, Bd.out.2.1.below hb1, below_to Bd.out.2.2 hb1⟩; clear hb1; obtain ⟨d0, d1, d2, d3⟩ := box4_facts X1.out.1) | (go_at_call 74; refine (half_any X1.out.2.1 HG.out x HX.out.2).mono ?_; rintro e w2 ⟨rfl, hb2⟩; have X2 : Hid (w2.heap[w.heap.size]? = some (.cells #[.int .i64 (n : Int), .int .u64 (D : Int), .int .u64 (A : Int), .int .u64 (U : Int)] 25 (0, 0)) ∧ Below w.heap.size w w2) := ⟨below_box X1.out.1 hb2, below_to X1.out.2.2 hb2⟩; clear hb2; obtain ⟨e0, e1, e2, e3⟩ := box4_facts X2.out.1))
  go_wp2_with fail
  go_ret
  exact ⟨rfl, X2.out.2⟩
theorem wanted_any {w : World} {F : Nat → Prop} {rb k : Nat} {M : Nat → Nat} (h : RamAt w F rb 8192 k (.pointer none) M) {n D A U : Nat} (hg : Gd n D A U) : Calls Try.prog 54 #[.pointer (some ⟨rb, 0, none⟩), .agg #[.int .i64 (n : Int), .int .u64 (D : Int), .int .u64 (A : Int), .int .u64 (U : Int)]] w fun e w' => e = .returned (.int .u16 (wordN M (A + 4 + 2 * n) 2 8192 : Nat)) ∧ Below w.heap.size w w' := by
  have B0 : Hid ((w.alloc (.cells #[.int .i64 (n : Int), .int .u64 (D : Int), .int .u64 (A : Int), .int .u64 (U : Int)] 25)).heap[w.heap.size]? = some (.cells #[.int .i64 (n : Int), .int .u64 (D : Int), .int .u64 (A : Int), .int .u64 (U : Int)] 25 (0, 0)) ∧ RamAt (w.alloc (.cells #[.int .i64 (n : Int), .int .u64 (D : Int), .int .u64 (A : Int), .int .u64 (U : Int)] 25)) F rb 8192 k (.pointer none) M ∧ Below w.heap.size w (w.alloc (.cells #[.int .i64 (n : Int), .int .u64 (D : Int), .int .u64 (A : Int), .int .u64 (U : Int)] 25))) := ⟨heap_alloc_new _ _, h.below (one_box _ _), one_box _ _⟩
  have g1 := hg.a1
  have g2 := hg.a2
  have g3 := hg.n2
  have g4 := hg.n1
  have en : IntKind.u64.wrap (n : Int) = (n : Int) := by rw [wrap_u64]; omega
  obtain ⟨A4, qA4⟩ : ∃ y : Nat, y = A + 4 := ⟨_, rfl⟩
  have wA4 : IntKind.u64.wrap ((A : Int) + 4) = (A4 : Int) := by rw [wrap_u64]; omega
  obtain ⟨n2, qn2⟩ : ∃ y : Nat, y = 2 * n := ⟨_, rfl⟩
  have wn2 : IntKind.u64.wrap (2 * (n : Int)) = (n2 : Int) := by rw [wrap_u64]; omega
  obtain ⟨x, qx⟩ : ∃ y : Nat, y = A4 + n2 := ⟨_, rfl⟩
  have wx : IntKind.u64.wrap ((A4 : Int) + (n2 : Int)) = (x : Int) := by rw [wrap_u64]; omega
  have HX : Hid (A + 4 + 2 * n = x ∧ x < 18446744073709551616) := ⟨by omega, by omega⟩
  have HG : Hid (Gd n D A U) := hg
  clear g1 g2 g3 g4 hg h  qA4 qn2 qx
  rw [HX.out.1]
  go_enter Try.func54, Try.ntmps54
  go_upto_region 1 with fail
  generalize (w.alloc (.cells #[.int .i64 (n : Int), .int .u64 (D : Int), .int .u64 (A : Int), .int .u64 (U : Int)] 25)) = w0 at *
  obtain ⟨c0, c1, c2, c3⟩ := box4_facts B0.out.1
  go_wp2_with fail
  refine (half_any B0.out.2.1 HG.out x HX.out.2).mono ?_
  rintro e w1 ⟨rfl, hb1⟩
  have X1 : Hid (Below w.heap.size w w1) := below_to B0.out.2.2 hb1
  clear hb1
  go_wp2_with fail
  go_ret
  exact ⟨rfl, X1.out⟩
end Go.Proofs.Ytmjdnocilbnoaaa

/- Put, Publish and Want of the program. -/
namespace Go.Proofs.Ytmjdnocilbnoaaa
open Go.RowKit Go.Maps
set_option linter.unusedVariables false
set_option linter.unusedSimpArgs false
set_option maxRecDepth 100000
theorem place32 (w : World) : Calls Try.prog 100 #[.int .i64 32] w fun e w' => e = .returned (.bool true) ∧ w' = w := by
  go_enter Try.func100, Try.ntmps100
  go_wp2_with fail
  go_ret
  exact ⟨rfl, rfl⟩
theorem mask32 (w : World) : Calls Try.prog 101 #[.int .i64 32] w fun e w' => e = .returned (.int .u64 4294967295) ∧ w' = w := by
  go_enter Try.func101, Try.ntmps101
  go_wp2_with fail
  go_ret
  exact ⟨rfl, rfl⟩
theorem put_num (d c : Nat) (hd : d ≤ 65535) (hc : c ≤ 4294967295) : bits BinOp.or IntKind.u64 (bits BinOp.andNot IntKind.u64 (d : Int) 18446744069414584320) (bits BinOp.and IntKind.u64 (IntKind.u64.wrap ((c : Int) * 4294967296)) 18446744069414584320) = ((d + c * 4294967296 : Nat) : Int) := by
  obtain ⟨q, hq⟩ : ∃ q : Nat, q = c * 4294967296 := ⟨_, rfl⟩
  have e0 : IntKind.u64.wrap ((c : Int) * 4294967296) = (q : Int) := by rw [wrap_u64]; omega
  have e1 : bits BinOp.andNot IntKind.u64 (d : Int) 18446744069414584320 = (d : Int) := by
    rw [u64_andNot (d : Int) 18446744069414584320 (by omega) (by omega) (by decide) (by decide)]
    show ((d &&& (2 ^ 32 - 1) : Nat) : Int) = _
    rw [Nat.and_two_pow_sub_one_eq_mod, Nat.mod_eq_of_lt (by omega)]
  have e2 : bits BinOp.and IntKind.u64 (q : Int) 18446744069414584320 = (q : Int) := by
    rw [u64_and (q : Int) 18446744069414584320 (by omega) (by omega) (by decide) (by decide)]
    show ((q &&& 4294967295 <<< 32 : Nat) : Int) = _
    have : q = c <<< 32 := by rw [Nat.shiftLeft_eq]; exact hq
    rw [this, ← Nat.shiftLeft_and_distrib]
    rw [show c &&& 4294967295 = c &&& (2 ^ 32 - 1) from rfl, Nat.and_two_pow_sub_one_eq_mod, Nat.mod_eq_of_lt (by omega)]
  rw [e0, e1, e2, bits_or_u64_nat _ _ (by omega) (by omega)]
  have h := Nat.two_pow_add_eq_or_of_lt (i := 32) (b := d) (by omega) c
  rw [Nat.or_comm, hq, Nat.mul_comm c 4294967296, show (4294967296 : Nat) = 2 ^ 32 from rfl, ← h, Nat.add_comm]
theorem wput_any (d c e : Nat) (hd : d ≤ 65535) (hc : c ≤ 4294967295) (he : e = d + c * 4294967296) (w : World) : Calls Try.prog 85 #[.int .u64 (d : Int), .int .i64 32, .int .i64 32, .int .u64 (c : Int)] w fun r w' => r = .returned (.int .u64 (e : Int)) ∧ w' = w := by
  have E : Hid (bits BinOp.or IntKind.u64 (bits BinOp.andNot IntKind.u64 (d : Int) 18446744069414584320) (bits BinOp.and IntKind.u64 (IntKind.u64.wrap ((c : Int) * 4294967296)) 18446744069414584320) = (e : Int)) := by rw [he]; exact put_num d c hd hc
  clear hd hc he
  go_enter Try.func85, Try.ntmps85
  go_wp2_with fail
  refine (place32 _).mono ?_
  rintro e w2 ⟨rfl, hw⟩
  rw [hw]
  clear hw w2
  go_wp2_with fail
  refine (mask32 _).mono ?_
  rintro e w2 ⟨rfl, hw⟩
  rw [hw]
  clear hw w2
  go_wp2_with fail
  go_ret
  exact ⟨ret_int E.out, rfl⟩
/-- an entry's bytes -/
def eB (d c : Nat) : Nat → Nat := catF (byteAt d) 4 (byteAt c)
theorem entry_bytes (d c : Nat) (hd : d ≤ 65535) : ∀ i, i < 8 → byteAt (d + c * 4294967296) i = eB d c i := by
  intro i hi
  unfold eB catF byteAt
  rcases (by omega : i = 0 ∨ i = 1 ∨ i = 2 ∨ i = 3 ∨ i = 4 ∨ i = 5 ∨ i = 6 ∨ i = 7) with rfl | rfl | rfl | rfl | rfl | rfl | rfl | rfl
  all_goals simp
  all_goals omega
theorem ReadsF.below {F : Nat → Prop} {w w' : World} {v : Value} {n : Nat} {f : Nat → Nat} (h : ReadsF F w v n f) (hb : Below w.heap.size w w') : ReadsF F w' v n f := h.step (Step.of_below hb)
theorem lay_any {w : World} {F : Nat → Prop} {rb k : Nat} {M : Nat → Nat} (h : RamAt w F rb 8192 k (.pointer none) M) {n D A U : Nat} (hg : Gd n D A U) (x : Nat) (va : Option Addr) (vc Lb : Nat) (f : Nat → Nat) (hr : ReadsF F w (.slice va Lb vc) Lb f) (hf : ∀ i, i < Lb → f i ≤ 255) (hx : 2147483648 ≤ x ∧ x + Lb ≤ 2147491840) (hk : k + Lb ≤ 1000000) : Calls Try.prog 73 #[.pointer (some ⟨rb, 0, none⟩), .agg #[.int .i64 (n : Int), .int .u64 (D : Int), .int .u64 (A : Int), .int .u64 (U : Int)], .int .u64 (x : Int), .slice va Lb vc] w fun e w' => e = .returned (.bool true) ∧ ∃ F', RamAt w' F' rb 8192 (k + Lb) (.pointer none) (over M x Lb f) ∧ Step F w F' w' := by
  have HR : Hid (RamAt (w.alloc (.cells #[.int .i64 (n : Int), .int .u64 (D : Int), .int .u64 (A : Int), .int .u64 (U : Int)] 25)) F rb 8192 k (.pointer none) M ∧ ReadsF F (w.alloc (.cells #[.int .i64 (n : Int), .int .u64 (D : Int), .int .u64 (A : Int), .int .u64 (U : Int)] 25)) (.slice va Lb vc) Lb f ∧ Below w.heap.size w (w.alloc (.cells #[.int .i64 (n : Int), .int .u64 (D : Int), .int .u64 (A : Int), .int .u64 (U : Int)] 25))) := ⟨h.below (one_box _ _), hr.below (one_box _ _), one_box _ _⟩
  have HG : Hid (Gd n D A U ∧ A < 18446744073709551616 ∧ U < 18446744073709551616 ∧ x < 18446744073709551616 ∧ inB x Lb 2147483648 8192 = true ∧ (∀ i, i < Lb → f i ≤ 255) ∧ k + Lb ≤ 1000000) := ⟨hg, by have := hg.a2; omega, by have := hg.u2; omega, by omega, by simp only [inB, decide_eq_true_iff]; omega, hf, hk⟩
  clear h hr hg hf hx hk
  go_enter Try.func73, Try.ntmps73
  go_wp2_with fail
  refine (check_any HG.out.1.d1 HG.out.2.1 HG.out.2.2.1 HR.out.1 (by omega)).mono ?_
  rintro e w1 ⟨rfl, hb1⟩
  rw [HG.out.1.chk]
  have X1 : Hid (RamAt w1 F rb 8192 k (.pointer none) M ∧ ReadsF F w1 (.slice va Lb vc) Lb f ∧ Below w.heap.size w w1) := ⟨HR.out.1.below hb1, HR.out.2.1.below hb1, below_to HR.out.2.2 hb1⟩
  clear hb1 HR
  go_wp2_with fail
  refine (write_any X1.out.1 (by omega) x Lb f _ HG.out.2.2.2.1 X1.out.2.1 HG.out.2.2.2.2.2.1 HG.out.2.2.2.2.2.2).mono ?_
  rintro e w2 ⟨rfl, F2, h2, hs2⟩
  have hin : inB (x : Int) (Lb : Int) 2147483648 ((8192 : Nat) : Int) = true := HG.out.2.2.2.2.1
  rw [hin] at h2 ⊢
  rw [if_pos rfl] at h2
  have X2 : Hid (RamAt w2 F2 rb 8192 (k + Lb) (.pointer none) (over M x Lb f) ∧ Step F w F2 w2) := ⟨h2, (Step.of_below X1.out.2.2).trans hs2⟩
  clear h2 hs2 hin
  go_wp2_with fail
  go_ret
  exact ⟨rfl, F2, X2.out.1, X2.out.2⟩
theorem bytes_F {F : Nat → Prop} (x : Nat) (n : Int) (Lb : Nat) (hx : x < 18446744073709551616) (hL : Lb = (min n 4096).toNat) (w : World) (hF : ∀ k, F k → k < w.heap.size) : Calls Try.prog 43 #[.int .u64 (x : Int), .int .i64 n] w fun e w' => ∃ a c, e = .returned (.slice a Lb c) ∧ ReadsF F w' (.slice a Lb c) Lb (byteAt x) ∧ Below w.heap.size w w' :=
  (bytes_any x n Lb hx hL w).mono fun e w' ⟨v, he, ho, hb⟩ => by
    obtain ⟨a, c, rfl⟩ := own_form ho
    exact ⟨a, c, he, reads_ownF ho hF, hb⟩
theorem publish_any {w : World} {F : Nat → Prop} {rb k : Nat} {M : Nat → Nat} (h : RamAt w F rb 8192 k (.pointer none) M) {n D A U : Nat} (hg : Gd n D A U) (m : Nat) (hm : m ≤ 65535) (hk : k + 2 ≤ 1000000) : Calls Try.prog 72 #[.pointer (some ⟨rb, 0, none⟩), .agg #[.int .i64 (n : Int), .int .u64 (D : Int), .int .u64 (A : Int), .int .u64 (U : Int)], .int .u16 (m : Int)] w fun e w' => e = .returned (.bool true) ∧ ∃ F', RamAt w' F' rb 8192 (k + 2) (.pointer none) (over M (U + 2) 2 (byteAt m)) ∧ Step F w F' w' := by
  have B0 : Hid ((w.alloc (.cells #[.int .i64 (n : Int), .int .u64 (D : Int), .int .u64 (A : Int), .int .u64 (U : Int)] 25)).heap[w.heap.size]? = some (.cells #[.int .i64 (n : Int), .int .u64 (D : Int), .int .u64 (A : Int), .int .u64 (U : Int)] 25 (0, 0)) ∧ RamAt (w.alloc (.cells #[.int .i64 (n : Int), .int .u64 (D : Int), .int .u64 (A : Int), .int .u64 (U : Int)] 25)) F rb 8192 k (.pointer none) M ∧ Below w.heap.size w (w.alloc (.cells #[.int .i64 (n : Int), .int .u64 (D : Int), .int .u64 (A : Int), .int .u64 (U : Int)] 25))) := ⟨heap_alloc_new _ _, h.below (one_box _ _), one_box _ _⟩
  have g1 := hg.u1
  have g2 := hg.u2
  have g3 := hg.n2
  have g4 := hg.n1
  have em : IntKind.u64.wrap (m : Int) = (m : Int) := by rw [wrap_u64]; omega
  obtain ⟨x, qx⟩ : ∃ y : Nat, y = U + 2 := ⟨_, rfl⟩
  have wx : IntKind.u64.wrap ((U : Int) + 2) = (x : Int) := by rw [wrap_u64]; omega
  have HX : Hid (U + 2 = x ∧ (2147483648 ≤ x ∧ x + 2 ≤ 2147491840) ∧ m < 18446744073709551616 ∧ k + 2 ≤ 1000000) := ⟨by omega, ⟨by omega, by omega⟩, by omega, hk⟩
  have HG : Hid (Gd n D A U) := hg
  have HN : Hid (¬ F w.heap.size) := fun hf => by have := h.lt _ hf; omega
  clear g1 g2 g3 g4 hg h hm hk qx
  rw [HX.out.1]
  go_enter Try.func72, Try.ntmps72
  go_upto_region 1 with fail
  generalize (w.alloc (.cells #[.int .i64 (n : Int), .int .u64 (D : Int), .int .u64 (A : Int), .int .u64 (U : Int)] 25)) = w0 at *
  obtain ⟨c0, c1, c2, c3⟩ := box4_facts B0.out.1
  have X0 : Hid (w0.drew.heap[w.heap.size]? = some (.cells #[.int .i64 (n : Int), .int .u64 (D : Int), .int .u64 (A : Int), .int .u64 (U : Int)] 25 (0, 0)) ∧ RamAt w0.drew F rb 8192 k (.pointer none) M ∧ Below w.heap.size w w0.drew) := ⟨B0.out.1, B0.out.2.1.below (Below.drew (Below.refl _ _)), B0.out.2.2.drew⟩
  go_region_held3 (fun Z => Z.cell? ⟨w.heap.size, 0, none⟩ = some (.int .i64 (n : Int)) ∧ Z.cell? ⟨w.heap.size, 1, none⟩ = some (.int .u64 (D : Int)) ∧ Z.cell? ⟨w.heap.size, 2, none⟩ = some (.int .u64 (A : Int)) ∧ Z.cell? ⟨w.heap.size, 3, none⟩ = some (.int .u64 (U : Int))) (go_keep) (first | (go_at_call 43; refine (bytes_F (F := F) m 2 2 HX.out.2.2.1 (by decide) _ (fun q hq => X0.out.2.1.lt q hq)).mono ?_; rintro e w2 ⟨ba, bc, rfl, hr, hb⟩; have X2 : Hid ((w2.heap[w.heap.size]? = some (.cells #[.int .i64 (n : Int), .int .u64 (D : Int), .int .u64 (A : Int), .int .u64 (U : Int)] 25 (0, 0)) ∧ RamAt w2 F rb 8192 k (.pointer none) M ∧ Below w.heap.size w w2) ∧ ReadsF F w2 (.slice ba 2 bc) 2 (byteAt m)) := ⟨⟨below_box X0.out.1 hb, X0.out.2.1.below hb, below_to X0.out.2.2 hb⟩, hr⟩; clear hb hr; obtain ⟨e0, e1, e2, e3⟩ := box4_facts X2.out.1.1) | (go_at_call 73; refine (lay_any X2.out.1.2.1 HG.out x ba bc 2 (byteAt m) X2.out.2 (fun i _ => byteAt_le _ _) HX.out.2.1 HX.out.2.2.2).mono ?_; rintro e w3 ⟨rfl, F3, hr, hs⟩; have X3 : Hid (RamAt w3 F3 rb 8192 (k + 2) (.pointer none) (over M x 2 (byteAt m)) ∧ Step F w F3 w3 ∧ w3.heap[w.heap.size]? = some (.cells #[.int .i64 (n : Int), .int .u64 (D : Int), .int .u64 (A : Int), .int .u64 (U : Int)] 25 (0, 0))) := ⟨hr, (Step.of_below X2.out.1.2.2).trans hs, step_box hs X2.out.1.1 (fun hf => HN.out hf)⟩; clear hr hs; obtain ⟨f0, f1, f2, f3⟩ := box4_facts X3.out.2.2))
  go_wp2_with fail
  go_ret
  exact ⟨rfl, F3, X3.out.1, X3.out.2.1⟩
theorem want_any {w : World} {F : Nat → Prop} {rb k : Nat} {M : Nat → Nat} (h : RamAt w F rb 8192 k (.pointer none) M) {n D A U : Nat} (hg : Gd n D A U) (m : Nat) (hm : m ≤ 65535) (hk : k + 2 ≤ 1000000) : Calls Try.prog 52 #[.pointer (some ⟨rb, 0, none⟩), .agg #[.int .i64 (n : Int), .int .u64 (D : Int), .int .u64 (A : Int), .int .u64 (U : Int)], .int .u16 (m : Int)] w fun e w' => e = .returned (.bool true) ∧ ∃ F', RamAt w' F' rb 8192 (k + 2) (.pointer none) (over M (U + 4 + 8 * n) 2 (byteAt m)) ∧ Step F w F' w' := by
  have B0 : Hid ((w.alloc (.cells #[.int .i64 (n : Int), .int .u64 (D : Int), .int .u64 (A : Int), .int .u64 (U : Int)] 25)).heap[w.heap.size]? = some (.cells #[.int .i64 (n : Int), .int .u64 (D : Int), .int .u64 (A : Int), .int .u64 (U : Int)] 25 (0, 0)) ∧ RamAt (w.alloc (.cells #[.int .i64 (n : Int), .int .u64 (D : Int), .int .u64 (A : Int), .int .u64 (U : Int)] 25)) F rb 8192 k (.pointer none) M ∧ Below w.heap.size w (w.alloc (.cells #[.int .i64 (n : Int), .int .u64 (D : Int), .int .u64 (A : Int), .int .u64 (U : Int)] 25))) := ⟨heap_alloc_new _ _, h.below (one_box _ _), one_box _ _⟩
  have g1 := hg.u1
  have g2 := hg.u2
  have g3 := hg.n2
  have g4 := hg.n1
  have em : IntKind.u64.wrap (m : Int) = (m : Int) := by rw [wrap_u64]; omega
  have en : IntKind.u64.wrap (n : Int) = (n : Int) := by rw [wrap_u64]; omega
  obtain ⟨U4, qU4⟩ : ∃ y : Nat, y = U + 4 := ⟨_, rfl⟩
  have wU4 : IntKind.u64.wrap ((U : Int) + 4) = (U4 : Int) := by rw [wrap_u64]; omega
  obtain ⟨n8, qn8⟩ : ∃ y : Nat, y = 8 * n := ⟨_, rfl⟩
  have wn8 : IntKind.u64.wrap (8 * (n : Int)) = (n8 : Int) := by rw [wrap_u64]; omega
  obtain ⟨x, qx⟩ : ∃ y : Nat, y = U4 + n8 := ⟨_, rfl⟩
  have wx : IntKind.u64.wrap ((U4 : Int) + (n8 : Int)) = (x : Int) := by rw [wrap_u64]; omega
  have HX : Hid (U + 4 + 8 * n = x ∧ (2147483648 ≤ x ∧ x + 2 ≤ 2147491840) ∧ m < 18446744073709551616 ∧ k + 2 ≤ 1000000) := ⟨by omega, ⟨by omega, by omega⟩, by omega, hk⟩
  have HG : Hid (Gd n D A U) := hg
  have HN : Hid (¬ F w.heap.size) := fun hf => by have := h.lt _ hf; omega
  clear g1 g2 g3 g4 hg h hm hk qU4 qn8 qx
  rw [HX.out.1]
  go_enter Try.func52, Try.ntmps52
  go_upto_region 1 with fail
  generalize (w.alloc (.cells #[.int .i64 (n : Int), .int .u64 (D : Int), .int .u64 (A : Int), .int .u64 (U : Int)] 25)) = w0 at *
  obtain ⟨c0, c1, c2, c3⟩ := box4_facts B0.out.1
  have X0 : Hid (w0.drew.heap[w.heap.size]? = some (.cells #[.int .i64 (n : Int), .int .u64 (D : Int), .int .u64 (A : Int), .int .u64 (U : Int)] 25 (0, 0)) ∧ RamAt w0.drew F rb 8192 k (.pointer none) M ∧ Below w.heap.size w w0.drew) := ⟨B0.out.1, B0.out.2.1.below (Below.drew (Below.refl _ _)), B0.out.2.2.drew⟩
  go_region_held3 (fun Z => Z.cell? ⟨w.heap.size, 0, none⟩ = some (.int .i64 (n : Int)) ∧ Z.cell? ⟨w.heap.size, 1, none⟩ = some (.int .u64 (D : Int)) ∧ Z.cell? ⟨w.heap.size, 2, none⟩ = some (.int .u64 (A : Int)) ∧ Z.cell? ⟨w.heap.size, 3, none⟩ = some (.int .u64 (U : Int))) (go_keep) (first | (go_at_call 43; refine (bytes_F (F := F) m 2 2 HX.out.2.2.1 (by decide) _ (fun q hq => X0.out.2.1.lt q hq)).mono ?_; rintro e w2 ⟨ba, bc, rfl, hr, hb⟩; have X2 : Hid ((w2.heap[w.heap.size]? = some (.cells #[.int .i64 (n : Int), .int .u64 (D : Int), .int .u64 (A : Int), .int .u64 (U : Int)] 25 (0, 0)) ∧ RamAt w2 F rb 8192 k (.pointer none) M ∧ Below w.heap.size w w2) ∧ ReadsF F w2 (.slice ba 2 bc) 2 (byteAt m)) := ⟨⟨below_box X0.out.1 hb, X0.out.2.1.below hb, below_to X0.out.2.2 hb⟩, hr⟩; clear hb hr; obtain ⟨e0, e1, e2, e3⟩ := box4_facts X2.out.1.1) | (go_at_call 73; refine (lay_any X2.out.1.2.1 HG.out x ba bc 2 (byteAt m) X2.out.2 (fun i _ => byteAt_le _ _) HX.out.2.1 HX.out.2.2.2).mono ?_; rintro e w3 ⟨rfl, F3, hr, hs⟩; have X3 : Hid (RamAt w3 F3 rb 8192 (k + 2) (.pointer none) (over M x 2 (byteAt m)) ∧ Step F w F3 w3 ∧ w3.heap[w.heap.size]? = some (.cells #[.int .i64 (n : Int), .int .u64 (D : Int), .int .u64 (A : Int), .int .u64 (U : Int)] 25 (0, 0))) := ⟨hr, (Step.of_below X2.out.1.2.2).trans hs, step_box hs X2.out.1.1 (fun hf => HN.out hf)⟩; clear hr hs; obtain ⟨f0, f1, f2, f3⟩ := box4_facts X3.out.2.2))
  go_wp2_with fail
  go_ret
  exact ⟨rfl, F3, X3.out.1, X3.out.2.1⟩
theorem over_same {M : Nat → Nat} (x L : Nat) {f g : Nat → Nat} (h : ∀ i, i < L → f i = g i) (a : Nat) : over M x L f a = over M x L g a := by
  unfold over
  split
  · exact h _ (by omega)
  · rfl
theorem put15_any {w : World} {F : Nat → Prop} {rb k : Nat} {M : Nat → Nat} (h : RamAt w F rb 8192 k (.pointer none) M) {n D A U : Nat} (hg : Gd n D A U) (m r d c : Nat) (hm : m ≤ 65535) (hr : r = m % n) (hd : d ≤ 65535) (hc : c ≤ 4294967295) (hk : k + 8 ≤ 1000000) : Calls Try.prog 71 #[.pointer (some ⟨rb, 0, none⟩), .agg #[.int .i64 (n : Int), .int .u64 (D : Int), .int .u64 (A : Int), .int .u64 (U : Int)], .int .u16 (m : Int), .int .u16 (d : Int), .int .u32 (c : Int)] w fun e w' => e = .returned (.bool true) ∧ ∃ F', RamAt w' F' rb 8192 (k + 8) (.pointer none) (over M (U + 4 + 8 * r) 8 (eB d c)) ∧ Step F w F' w' := by
  have B0 : Hid ((w.alloc (.cells #[.int .i64 (n : Int), .int .u64 (D : Int), .int .u64 (A : Int), .int .u64 (U : Int)] 25)).heap[w.heap.size]? = some (.cells #[.int .i64 (n : Int), .int .u64 (D : Int), .int .u64 (A : Int), .int .u64 (U : Int)] 25 (0, 0)) ∧ RamAt (w.alloc (.cells #[.int .i64 (n : Int), .int .u64 (D : Int), .int .u64 (A : Int), .int .u64 (U : Int)] 25)) F rb 8192 k (.pointer none) M ∧ Below w.heap.size w (w.alloc (.cells #[.int .i64 (n : Int), .int .u64 (D : Int), .int .u64 (A : Int), .int .u64 (U : Int)] 25))) := ⟨heap_alloc_new _ _, h.below (one_box _ _), one_box _ _⟩
  have g1 := hg.u1
  have g2 := hg.u2
  have g3 := hg.n2
  have g4 := hg.n1
  have g5 : r < n := by rw [hr]; exact Nat.mod_lt _ (by omega)
  have ed : IntKind.u64.wrap (d : Int) = (d : Int) := by rw [wrap_u64]; omega
  have ec : IntKind.u64.wrap (c : Int) = (c : Int) := by rw [wrap_u64]; omega
  obtain ⟨v, hv⟩ : ∃ v, v = d + c * 4294967296 := ⟨_, rfl⟩
  obtain ⟨U4, qU4⟩ : ∃ y : Nat, y = U + 4 := ⟨_, rfl⟩
  have wU4 : IntKind.u64.wrap ((U : Int) + 4) = (U4 : Int) := by rw [wrap_u64]; omega
  obtain ⟨r8, qr8⟩ : ∃ y : Nat, y = 8 * r := ⟨_, rfl⟩
  have wr8 : IntKind.u64.wrap (8 * (r : Int)) = (r8 : Int) := by rw [wrap_u64]; omega
  obtain ⟨x, qx⟩ : ∃ y : Nat, y = U4 + r8 := ⟨_, rfl⟩
  have wx : IntKind.u64.wrap ((U4 : Int) + (r8 : Int)) = (x : Int) := by rw [wrap_u64]; omega
  have HX : Hid (U + 4 + 8 * r = x ∧ (2147483648 ≤ x ∧ x + 8 ≤ 2147491840) ∧ v < 18446744073709551616 ∧ k + 8 ≤ 1000000) := ⟨by omega, ⟨by omega, by omega⟩, by omega, hk⟩
  have HG : Hid (Gd n D A U) := hg
  have HS : Hid (∀ V, Calls Try.prog 81 #[.agg #[.int .i64 (n : Int), .int .u64 (D : Int), .int .u64 (A : Int), .int .u64 (U : Int)], .int .u16 (m : Int)] V fun e w' => e = .returned (.int .u64 (r : Int)) ∧ Below V.heap.size V w') := fun V => slot_any hg m r hm hr V
  have HP : Hid (∀ V, Calls Try.prog 85 #[.int .u64 (d : Int), .int .i64 32, .int .i64 32, .int .u64 (c : Int)] V fun r w' => r = .returned (.int .u64 (v : Int)) ∧ w' = V) := fun V => wput_any d c v hd hc hv V
  have HE : Hid (∀ i, i < 8 → byteAt v i = eB d c i) := by rw [hv]; exact entry_bytes d c hd
  have HN : Hid (¬ F w.heap.size) := fun hf => by have := h.lt _ hf; omega
  clear g1 g2 g3 g4 g5 hg h hm hk hr hd hc hv qU4 qr8 qx
  rw [HX.out.1]
  go_enter Try.func71, Try.ntmps71
  go_upto_region 1 with fail
  generalize (w.alloc (.cells #[.int .i64 (n : Int), .int .u64 (D : Int), .int .u64 (A : Int), .int .u64 (U : Int)] 25)) = w0 at *
  obtain ⟨c0, c1, c2, c3⟩ := box4_facts B0.out.1
  go_wp2_with fail
  refine (HP.out _).mono ?_
  rintro e w5 ⟨rfl, hw⟩
  rw [hw]
  clear hw w5
  go_upto_region 2 with fail
  have X0 : Hid (w0.drew.heap[w.heap.size]? = some (.cells #[.int .i64 (n : Int), .int .u64 (D : Int), .int .u64 (A : Int), .int .u64 (U : Int)] 25 (0, 0)) ∧ RamAt w0.drew F rb 8192 k (.pointer none) M ∧ Below w.heap.size w w0.drew) := ⟨B0.out.1, B0.out.2.1.below (Below.drew (Below.refl _ _)), B0.out.2.2.drew⟩
  go_region_held3 (fun Z => Z.cell? ⟨w.heap.size, 0, none⟩ = some (.int .i64 (n : Int)) ∧ Z.cell? ⟨w.heap.size, 1, none⟩ = some (.int .u64 (D : Int)) ∧ Z.cell? ⟨w.heap.size, 2, none⟩ = some (.int .u64 (A : Int)) ∧ Z.cell? ⟨w.heap.size, 3, none⟩ = some (.int .u64 (U : Int))) (go_keep) (first | (go_at_call 81; refine (HS.out _).mono ?_; rintro e w1 ⟨rfl, hb⟩; have X1 : Hid (w1.heap[w.heap.size]? = some (.cells #[.int .i64 (n : Int), .int .u64 (D : Int), .int .u64 (A : Int), .int .u64 (U : Int)] 25 (0, 0)) ∧ RamAt w1 F rb 8192 k (.pointer none) M ∧ Below w.heap.size w w1) := ⟨below_box X0.out.1 hb, X0.out.2.1.below hb, below_to X0.out.2.2 hb⟩; clear hb; obtain ⟨d0, d1, d2, d3⟩ := box4_facts X1.out.1) | (go_at_call 43; refine (bytes_F (F := F) v 8 8 HX.out.2.2.1 (by decide) _ (fun q hq => X1.out.2.1.lt q hq)).mono ?_; rintro e w2 ⟨ba, bc, rfl, hr, hb⟩; have X2 : Hid ((w2.heap[w.heap.size]? = some (.cells #[.int .i64 (n : Int), .int .u64 (D : Int), .int .u64 (A : Int), .int .u64 (U : Int)] 25 (0, 0)) ∧ RamAt w2 F rb 8192 k (.pointer none) M ∧ Below w.heap.size w w2) ∧ ReadsF F w2 (.slice ba 8 bc) 8 (byteAt v)) := ⟨⟨below_box X1.out.1 hb, X1.out.2.1.below hb, below_to X1.out.2.2 hb⟩, hr⟩; clear hb hr; obtain ⟨e0, e1, e2, e3⟩ := box4_facts X2.out.1.1) | (go_at_call 73; refine (lay_any X2.out.1.2.1 HG.out x ba bc 8 (byteAt v) X2.out.2 (fun i _ => byteAt_le _ _) HX.out.2.1 HX.out.2.2.2).mono ?_; rintro e w3 ⟨rfl, F3, hr, hs⟩; have X3 : Hid (RamAt w3 F3 rb 8192 (k + 8) (.pointer none) (over M x 8 (byteAt v)) ∧ Step F w F3 w3 ∧ w3.heap[w.heap.size]? = some (.cells #[.int .i64 (n : Int), .int .u64 (D : Int), .int .u64 (A : Int), .int .u64 (U : Int)] 25 (0, 0))) := ⟨hr, (Step.of_below X2.out.1.2.2).trans hs, step_box hs X2.out.1.1 (fun hf => HN.out hf)⟩; clear hr hs; obtain ⟨f0, f1, f2, f3⟩ := box4_facts X3.out.2.2))
  go_wp2_with fail
  go_ret
  exact ⟨rfl, F3, X3.out.1.congr (fun a => over_same _ _ HE.out a), X3.out.2.1⟩
end Go.Proofs.Ytmjdnocilbnoaaa

/- A queue, plain: what is fetched, returned, asked, told, served. -/
namespace Go.Proofs.Ytmjdnocilbnoaaa
open Go.RowKit Go.Maps
set_option linter.unusedVariables false
set_option linter.unusedSimpArgs false
set_option maxRecDepth 100000
theorem box9_facts {w : World} {b : Nat} {x0 x1 x2 x3 x4 x5 x6 x7 x8 : Value} {t : TypeId} (h : w.heap[b]? = some (.cells #[x0, x1, x2, x3, x4, x5, x6, x7, x8] t (0, 0))) : w.cell? ⟨b, 0, none⟩ = some x0 ∧ w.cell? ⟨b, 1, none⟩ = some x1 ∧ w.cell? ⟨b, 2, none⟩ = some x2 ∧ w.cell? ⟨b, 3, none⟩ = some x3 ∧ w.cell? ⟨b, 4, none⟩ = some x4 ∧ w.cell? ⟨b, 5, none⟩ = some x5 ∧ w.cell? ⟨b, 6, none⟩ = some x6 ∧ w.cell? ⟨b, 7, none⟩ = some x7 ∧ w.cell? ⟨b, 8, none⟩ = some x8 := ⟨cellOf h 0 _ rfl, cellOf h 1 _ rfl, cellOf h 2 _ rfl, cellOf h 3 _ rfl, cellOf h 4 _ rfl, cellOf h 5 _ rfl, cellOf h 6 _ rfl, cellOf h 7 _ rfl, cellOf h 8 _ rfl⟩
/-- a fetch: nothing or an error ahead of any head; or a head and what its chain is -/
inductive Ft where
  | non (e : Int)
  | got (h : Nat) (c : Cn)
/-- how many wait -/
def waitN (M : Nat → Nat) (A fe : Nat) : Nat := (wordN M (A + 2) 2 8192 + 65536 - fe) % 65536
def headN (M : Nat → Nat) (n A fe : Nat) : Nat := wordN M (A + 4 + 2 * (fe % n)) 2 8192
def fetchR (M : Nat → Nat) (s : Int) (D A U : Nat) (rd : Bool) (fe : Nat) (al : Bool) : Ft :=
  if rd = false then .non 0 else if chkN s D A U 8192 ≠ 0 then .non (chkN s D A U 8192) else if waitN M A fe = 0 then .non 0 else if s.toNat < waitN M A fe then .non 156 else .got (headN M s.toNat A fe) (walkR M D s.toNat (headN M s.toNat A fe : Nat) al)
section
variable {M : Nat → Nat} {s : Int} {n D A U fe : Nat} {rd al : Bool}
theorem fetch_idle : fetchR M s D A U false fe al = .non 0 := by simp [fetchR]
theorem fetch_bad (h : chkN s D A U 8192 ≠ 0) : fetchR M s D A U true fe al = .non (chkN s D A U 8192) := by simp [fetchR, h]
theorem fetch_none (h : chkN (n : Int) D A U 8192 = 0) (h1 : waitN M A fe = 0) : fetchR M (n : Int) D A U true fe al = .non 0 := by simp [fetchR, h, h1]
theorem fetch_jump (h : chkN (n : Int) D A U 8192 = 0) (h1 : waitN M A fe ≠ 0) (h2 : n < waitN M A fe) : fetchR M (n : Int) D A U true fe al = .non 156 := by simp [fetchR, h, h1, h2]
theorem fetch_got (h : chkN (n : Int) D A U 8192 = 0) (h1 : waitN M A fe ≠ 0) (h2 : ¬ n < waitN M A fe) : fetchR M (n : Int) D A U true fe al = .got (headN M n A fe) (walkR M D n (headN M n A fe : Nat) al) := by simp [fetchR, h, h1, h2]
end
/-- one more, modulo 65536 -/
def upN (m : Nat) : Nat := (m + 1) % 65536
theorem up_le (m : Nat) : upN m ≤ 65535 := by unfold upN; omega
/-- the memory behind a Return -/
def retM (M : Nat → Nat) (n U us h c : Nat) : Nat → Nat := over (over M (U + 4 + 8 * (us % n)) 8 (eB h c)) (U + 2) 2 (byteAt (upN us))
def askM (M : Nat → Nat) (n U fe : Nat) (ev : Bool) : Nat → Nat := if ev = true then over M (U + 4 + 8 * n) 2 (byteAt fe) else M
def tellB (M : Nat → Nat) (n A us fr : Nat) (ev : Bool) : Bool := if fr = us then false else if ev = true then pastB (wordN M (A + 4 + 2 * n) 2 8192) fr us else decide (wordN M A 2 8192 % 2 = 0)
/-- what a service comes to -/
structure Gv (σ : Type) where
  s : σ
  M : Nat → Nat
  fe : Nat
  us : Nat
  e : Int
def giveR {σ : Type} (dev : σ → (Nat → Nat) → Nat → Cn → Option (σ × (Nat → Nat) × Nat)) (s : Int) (D A U : Nat) (rd al : Bool) : Nat → σ → (Nat → Nat) → Nat → Nat → Gv σ
  | 0, t, M, fe, us => ⟨t, M, fe, us, 0⟩
  | k + 1, t, M, fe, us => match fetchR M s D A U rd fe al with
    | .non e => ⟨t, M, fe, us, e⟩
    | .got h c => if c.e ≠ 0 then ⟨t, M, upN fe, us, (c.e : Int)⟩ else match dev t M h c with
      | none => ⟨t, M, fe, us, 0⟩
      | some (t', M', cnt) => giveR dev s D A U rd al k t' (retM M' s.toNat U us h cnt) (upN fe) (upN us)
section
variable {σ : Type} {dev : σ → (Nat → Nat) → Nat → Cn → Option (σ × (Nat → Nat) × Nat)} {M : Nat → Nat} {s : Int} {D A U fe us k : Nat} {rd al : Bool} {t : σ}
theorem give_zero : giveR dev s D A U rd al 0 t M fe us = ⟨t, M, fe, us, 0⟩ := rfl
theorem give_non {e : Int} (h : fetchR M s D A U rd fe al = .non e) : giveR dev s D A U rd al (k + 1) t M fe us = ⟨t, M, fe, us, e⟩ := by simp [giveR, h]
theorem give_err {h : Nat} {c : Cn} (h1 : fetchR M s D A U rd fe al = .got h c) (h2 : c.e ≠ 0) : giveR dev s D A U rd al (k + 1) t M fe us = ⟨t, M, upN fe, us, (c.e : Int)⟩ := by simp [giveR, h1, h2]
theorem give_stay {h : Nat} {c : Cn} (h1 : fetchR M s D A U rd fe al = .got h c) (h2 : c.e = 0) (h3 : dev t M h c = none) : giveR dev s D A U rd al (k + 1) t M fe us = ⟨t, M, fe, us, 0⟩ := by simp [giveR, h1, h2, h3]
theorem give_more {h : Nat} {c : Cn} {t' : σ} {M' : Nat → Nat} {cnt : Nat} (h1 : fetchR M s D A U rd fe al = .got h c) (h2 : c.e = 0) (h3 : dev t M h c = some (t', M', cnt)) : giveR dev s D A U rd al (k + 1) t M fe us = giveR dev s D A U rd al k t' (retM M' s.toNat U us h cnt) (upN fe) (upN us) := by simp [giveR, h1, h2, h3]
end
/-- the device of the statements: it writes a byte to all that is to be written -/
def cntN (l : List Seg) : Nat := if 4000 < sizeN true l then 0 else sizeN true l
def fillM (b : Nat) (l : List Seg) (M : Nat → Nat) : Nat → Nat := if 4000 < sizeN true l then M else layS (fun _ => b) (scaL l 0 (sizeN true l)) 0 M
def devF (b : Nat) (room : Nat) (M : Nat → Nat) (h : Nat) (c : Cn) : Option (Nat × (Nat → Nat) × Nat) := if room = 0 then none else some (room - 1, fillM b c.l M, cntN c.l)
end Go.Proofs.Ytmjdnocilbnoaaa

/- The queue: is it ready, does it lie in a memory. -/
namespace Go.Proofs.Ytmjdnocilbnoaaa
open Go.RowKit Go.Maps
set_option linter.unusedVariables false
set_option linter.unusedSimpArgs false
set_option maxRecDepth 100000
/-- a block's cell set -/
theorem set_box {w : World} {b : Nat} {c : Array Value} {t : TypeId} {f : Nat × Nat} (h : w.heap[b]? = some (.cells c t f)) (i : Nat) (u : Value) : (w.setCell ⟨b, i, none⟩ u).heap[b]? = some (.cells (c.setIfInBounds i u) t f) := by
  simp only [World.setCell]
  rw [Array.getElem?_modify, if_pos rfl, h]
  simp
theorem step_set (w : World) (b i : Nat) (u : Value) : Step (fun k => k = b) w (fun k => k = b) (w.setCell ⟨b, i, none⟩ u) :=
  ⟨rfl, rfl, rfl, by simp [World.setCell], fun k _ hk => heap_setCell w b i u k hk, fun _ h => .inl h, fun _ h => h⟩
theorem ready_any {w : World} {qb : Nat} {s : Int} {D A U : Nat} {rd ev al : Bool} {fe us : Nat} (hq : w.heap[qb]? = some (.cells #[.int .i64 s, .int .u64 (D : Int), .int .u64 (A : Int), .int .u64 (U : Int), .bool rd, .int .u16 (fe : Int), .int .u16 (us : Int), .bool ev, .bool al] 40 (0, 0))) : Calls Try.prog 27 #[.pointer (some ⟨qb, 0, none⟩)] w fun e w' => e = .returned (.bool rd) ∧ w' = w := by
  obtain ⟨c0, c1, c2, c3, c4, c5, c6, c7, c8⟩ := box9_facts hq
  clear hq
  go_enter Try.func27, Try.ntmps27
  go_wp2_with fail
  go_ret
  exact ⟨rfl, rfl⟩
theorem lies_any {w : World} {F : Nat → Prop} {rb k : Nat} {M : Nat → Nat} (hr : RamAt w F rb 8192 k (.pointer none) M) {qb : Nat} {s : Int} {D A U : Nat} {rd ev al : Bool} {fe us : Nat} (hq : w.heap[qb]? = some (.cells #[.int .i64 s, .int .u64 (D : Int), .int .u64 (A : Int), .int .u64 (U : Int), .bool rd, .int .u16 (fe : Int), .int .u16 (us : Int), .bool ev, .bool al] 40 (0, 0))) (hD : D < 18446744073709551616) (hA : A < 18446744073709551616) (hU : U < 18446744073709551616) : Calls Try.prog 51 #[.pointer (some ⟨qb, 0, none⟩), .pointer (some ⟨rb, 0, none⟩)] w fun e w' => e = .returned (.bool (chkN s D A U 8192 == 0)) ∧ Below w.heap.size w w' := by
  obtain ⟨c0, c1, c2, c3, c4, c5, c6, c7, c8⟩ := box9_facts hq
  have HR : Hid (RamAt w F rb 8192 k (.pointer none) M ∧ D < 18446744073709551616 ∧ A < 18446744073709551616 ∧ U < 18446744073709551616) := ⟨hr, hD, hA, hU⟩
  clear hq hr hD hA hU
  go_enter Try.func51, Try.ntmps51
  go_wp2_with (go_at_call 66; refine (check_any HR.out.2.1 HR.out.2.2.1 HR.out.2.2.2 HR.out.1 (by omega)).mono ?_; rintro e w1 ⟨rfl, hb1⟩; have X1 : Hid (Below w.heap.size w w1) := hb1; clear hb1)
  go_ret
  exact ⟨rfl, X1.out⟩
theorem good_lies {n D A U : Nat} (hg : Gd n D A U) : (chkN (n : Int) D A U 8192 == 0) = true := by rw [hg.chk]; rfl
theorem gd_bounds {n D A U : Nat} (hg : Gd n D A U) : D < 18446744073709551616 ∧ A < 18446744073709551616 ∧ U < 18446744073709551616 := ⟨hg.d1, by have := hg.a2; omega, by have := hg.u2; omega⟩
theorem lies_good {w : World} {F : Nat → Prop} {rb k : Nat} {M : Nat → Nat} (hr : RamAt w F rb 8192 k (.pointer none) M) {qb : Nat} {n D A U : Nat} {rd ev al : Bool} {fe us : Nat} (hq : w.heap[qb]? = some (.cells #[.int .i64 (n : Int), .int .u64 (D : Int), .int .u64 (A : Int), .int .u64 (U : Int), .bool rd, .int .u16 (fe : Int), .int .u16 (us : Int), .bool ev, .bool al] 40 (0, 0))) (hg : Gd n D A U) : Calls Try.prog 51 #[.pointer (some ⟨qb, 0, none⟩), .pointer (some ⟨rb, 0, none⟩)] w fun e w' => e = .returned (.bool true) ∧ Below w.heap.size w w' := by
  have := lies_any hr hq (gd_bounds hg).1 (gd_bounds hg).2.1 (gd_bounds hg).2.2
  rw [good_lies hg] at this
  exact this
end Go.Proofs.Ytmjdnocilbnoaaa

/- The statements' device: fill. -/
namespace Go.Proofs.Ytmjdnocilbnoaaa
open Go.RowKit Go.Maps
set_option linter.unusedVariables false
set_option linter.unusedSimpArgs false
set_option maxRecDepth 100000
theorem wrap_u32_small (n : Nat) (h : n ≤ 4000) : IntKind.u32.wrap (n : Int) = (n : Int) := by
  simp only [IntKind.wrap, IntKind.signed, IntKind.bits]
  simp
  try omega
theorem room_all (l : List Seg) : roomB true l 0 (sizeN true l) = true := by simp [roomB]
set_option maxHeartbeats 2000000 in
theorem fill_any {w : World} {F : Nat → Prop} {rb κ : Nat} {M : Nat → Nat} (hr : RamAt w F rb 8192 κ (.pointer none) M) (hκ : κ ≤ 900000) {a : Option Addr} {L c : Nat} {l : List Seg} (h : SegIn 0 w (.slice a L c) l) (hl : l.length ≤ 1000) (hok : ∀ s ∈ l, SegOk s) (ta tl b : Nat) (hb : b ≤ 255) :
    Calls Try.prog 17 #[.pointer (some ⟨rb, 0, none⟩), .agg #[.slice a L c, .int .u64 (ta : Int), .int .u64 (tl : Int)], .int .u8 (b : Int)] w fun e w' => e = .returned (.int .u32 (cntN l : Int)) ∧ ∃ F', RamAt w' F' rb 8192 (κ + 4000) (.pointer none) (fillM b l M) ∧ Step F w F' w' := by
  obtain ⟨i0, hi, hz0, hz1, hz2⟩ := info_parts Try.info5
  have XB : Hid (Below w.heap.size w (w.alloc (.cells #[.slice a L c, .int .u64 (ta : Int), .int .u64 (tl : Int)] 50)) ∧ (w.alloc (.cells #[.slice a L c, .int .u64 (ta : Int), .int .u64 (tl : Int)] 50)).heap[w.heap.size]? = some (.cells #[.slice a L c, .int .u64 (ta : Int), .int .u64 (tl : Int)] 50 (0, 0))) := ⟨one_box _ _, heap_alloc_new _ _⟩
  have KS : Hid (∀ V, Below w.heap.size w V → Calls Try.prog 36 #[.agg #[.slice a L c, .int .u64 (ta : Int), .int .u64 (tl : Int)]] V fun e w' => e = .returned (.tuple #[.int .u64 (sizeN false l : Int), .int .u64 (sizeN true l : Int)]) ∧ Below V.heap.size V w') := fun V hV => psizes_any (h.kept (fun g hg => hV.block g (h.lt g hg).2)) hl hok ta tl
  have HR : Hid (RamAt w F rb 8192 κ (.pointer none) M ∧ SegIn 0 w (.slice a L c) l ∧ l.length ≤ 1000 ∧ (∀ s ∈ l, SegOk s) ∧ b ≤ 255 ∧ κ ≤ 900000) := ⟨hr, h, hl, hok, hb, hκ⟩
  obtain ⟨sz, hsz⟩ : ∃ sz, sizeN true l = sz := ⟨_, rfl⟩
  have HS : Hid (sizeN true l = sz) := hsz
  rw [hsz] at KS
  generalize sizeN false l = sz1 at KS
  by_cases hbig : 4000 < sz
  case pos =>
    have g1 : (4000 : Int) < (sz : Int) := by omega
    have HC : Hid (cntN l = 0 ∧ fillM b l M = M) := ⟨by unfold cntN; rw [hsz, if_pos hbig], by unfold fillM; rw [hsz, if_pos hbig]⟩
    clear hbig hsz hr hκ h hl hok hb
    go_enter Try.func17, Try.ntmps17
    go_upto_region 1 with fail
    generalize w.alloc (.cells #[.slice a L c, .int .u64 (ta : Int), .int .u64 (tl : Int)] 50) = v0 at *
    obtain ⟨p0, p1, p2⟩ := box3_facts XB.out.2
    go_wp2_with (go_at_call 36; refine (KS.out _ XB.out.1).mono ?_; rintro e w1 ⟨rfl, hb1⟩; have X1 : Hid (Below w.heap.size w w1) := below_to XB.out.1 hb1; clear hb1)
    go_ret
    refine ⟨by rw [HC.out.1]; rfl, F, ?_, Step.of_below X1.out⟩
    rw [HC.out.2]
    exact (HR.out.1.below X1.out).mono (by omega)
  have g1 : ¬ (4000 : Int) < (sz : Int) := by omega
  have hs4 : sz ≤ 4000 := by omega
  have e1 : IntKind.u32.wrap (sz : Int) = (sz : Int) := wrap_u32_small sz hs4
  have HC : Hid (cntN l = sz ∧ fillM b l M = layS (fun _ => b) (scaL l 0 sz) 0 M ∧ roomB true l 0 sz = true ∧ sz ≤ 4000) := ⟨by unfold cntN; rw [hsz, if_neg hbig], by unfold fillM; rw [hsz, if_neg hbig], by rw [← hsz]; exact room_all l, hs4⟩
  clear hbig hsz hr hκ h hl hok hb
  go_enter Try.func17, Try.ntmps17
  go_upto_region 1 with fail
  generalize w.alloc (.cells #[.slice a L c, .int .u64 (ta : Int), .int .u64 (tl : Int)] 50) = v0 at *
  obtain ⟨p0, p1, p2⟩ := box3_facts XB.out.2
  go_wp2_with (first | (go_at_call 36; refine (KS.out _ XB.out.1).mono ?_; rintro e w1 ⟨rfl, hb1⟩; have X1 : Hid (Below w.heap.size w w1 ∧ w1.heap[w.heap.size]? = some (.cells #[.slice a L c, .int .u64 (ta : Int), .int .u64 (tl : Int)] 50 (0, 0))) := ⟨below_to XB.out.1 hb1, below_box XB.out.2 hb1⟩; clear hb1 p0 p1 p2) | (at_make; refine wpList_make_full _ rfl _ _ 71 rfl (w.heap.size + 1) 5 i0 (.int .u8 0) 1 Try.underlying71 hi hz0 hz1 _ _ _ _ sz rfl rfl ?m1 ?m2 ?m3 ?m4 ?m5 ?_))
  case m1 => rfl
  case m2 => rfl
  case m3 => rw [hz2]; omega
  case m4 => unfold maxLen; omega
  case m5 => have := (Array.getElem?_eq_some_iff.1 X1.out.2).1; omega
  intro w2 hown0 hgrow0
  have hb02 : Below w.heap.size w w2 := Below.grown X1.out.1 hgrow0 X1.out.1.size (by simp)
  have hbox : w2.heap[w.heap.size]? = some (.cells #[.slice a L c, .int .u64 (ta : Int), .int .u64 (tl : Int)] 50 (0, 0)) := (hgrow0.block _ (Array.getElem?_eq_some_iff.1 X1.out.2).1 (by simp)).trans X1.out.2
  rw [toList_madeCells_one, rowK_zero] at hown0
  have hgl := hown0.lt w1.heap.size rfl
  generalize w1.heap.size = g at *
  have X2 : Hid (w2.ownsRow (w.heap.size + 1) 5 1 (.slice (some ⟨g, 0, none⟩) sz sz) sz (rowK .u8 (fun _ => 0) sz) ∧ Below w.heap.size w w2 ∧ w2.heap[w.heap.size]? = some (.cells #[.slice a L c, .int .u64 (ta : Int), .int .u64 (tl : Int)] 50 (0, 0))) := ⟨hown0, hb02, hbox⟩
  have HG : Hid (w.heap.size + 1 ≤ g) := hgl.1
  clear hown0 hgrow0 hb02 hbox hgl X1 XB KS
  go_wp2_with fail
  go_loopw [10] (fun i wr => ∃ k : Nat, k ≤ sz ∧ i = .int .i64 (k : Int) ∧ wr.ownsRow (w.heap.size + 1) 5 1 (.slice (some ⟨g, 0, none⟩) sz sz) sz (rowK .u8 (fun i => if i < k then b else 0) sz) ∧ Below w.heap.size w wr ∧ wr.heap[w.heap.size]? = some (.cells #[.slice a L c, .int .u64 (ta : Int), .int .u64 (tl : Int)] 50 (0, 0))) (fun i _ => sz - (intOf i).toNat)
  case atStart => exact ⟨0, by omega, rfl, by rw [← fill_zero (fun _ => b)]; exact X2.out.1, X2.out.2.1, X2.out.2.2⟩
  case round =>
    obtain ⟨k, hk, rfl, hown, hbw, hbox⟩ := hrel
    clear X2
    by_cases hlt : k < sz
    · have hkL : (k : Int) < (sz : Int) := by omega
      have hc3 : wr.cell? ⟨g, k, none⟩ = some (.int .u8 ((if k < k then b else 0 : Nat) : Nat)) := by rw [hown.cellAt k (by omega)]; exact rowK_get _ _ _ _ hlt
      have hf3 := hown.frozenAt k
      have Y : Hid (wr.ownsRow (w.heap.size + 1) 5 1 (.slice (some ⟨g, 0, none⟩) sz sz) sz (rowK .u8 (fun i => if i < k then b else 0) sz) ∧ Below w.heap.size w wr ∧ wr.heap[w.heap.size]? = some (.cells #[.slice a L c, .int .u64 (ta : Int), .int .u64 (tl : Int)] 50 (0, 0))) := ⟨hown, hbw, hbox⟩
      clear hown hbw hbox
      go_wp2_with fail
      go_roundw
      case rel =>
        have hown4 := Y.out.1.stored k (.int .u8 (b : Nat))
        rw [fill_step (fun _ => b)] at hown4
        exact ⟨k + 1, by omega, by go_num, hown4.1, Y.out.2.1.setCell (p := ⟨g, k, none⟩) (by have := HG.out; show w.heap.size ≤ g; omega) _, (heap_setCell _ _ _ _ _ (by have := HG.out; omega)).trans Y.out.2.2⟩
      case measure => simp [intOf]; omega
    · obtain rfl : k = sz := by omega
      rw [fill_done (fun _ => b)] at hown
      have KC : Hid (Calls Try.prog 37 #[.agg #[.slice a L c, .int .u64 (ta : Int), .int .u64 (tl : Int)], .pointer (some ⟨rb, 0, none⟩), .int .u64 0, .slice (some ⟨g, 0, none⟩) k k] wr fun e w' => e = .returned (.bool true) ∧ ∃ F', RamAt w' F' rb 8192 (κ + k) (.pointer none) (fillM b l M) ∧ Step F w F' w') := by
        have hrd : ReadsF F wr (.slice (some ⟨g, 0, none⟩) k k) k (fun _ => b) := reads_ownF hown (fun z hz => by have := HR.out.1.lt z hz; omega)
        have := scatter_any (HR.out.1.below hbw) HR.out.2.2.2.2.2 (HR.out.2.1.kept (fun g hg => hbw.block g (HR.out.2.1.lt g hg).2)) HR.out.2.2.1 HR.out.2.2.2.1 ta tl 0 k (by decide) HC.out.2.2.2 (fun _ => b) (fun _ => HR.out.2.2.2.2.1) _ _ hrd
        rw [HC.out.2.2.1, if_pos rfl, ← HC.out.2.1] at this
        refine this.mono ?_
        rintro e w' ⟨rfl, F', hr, hs⟩
        exact ⟨rfl, F', hr, (Step.of_below hbw).trans hs⟩
      obtain ⟨p0, p1, p2⟩ := box3_facts hbox
      clear hown hbw hbox
      go_wp2_with (go_at_call 37; refine (KC.out).mono ?_; rintro e w5 ⟨rfl, F5, hr5, hs5⟩; have X5 : Hid (RamAt w5 F5 rb 8192 (κ + k) (.pointer none) (fillM b l M) ∧ Step F w F5 w5) := ⟨hr5, hs5⟩; clear hr5 hs5)
      go_ret
      exact ⟨by rw [HC.out.1]; rfl, F5, X5.out.1.mono (by have := HC.out.2.2.2; omega), X5.out.2⟩
end Go.Proofs.Ytmjdnocilbnoaaa

/- The queue: Tells, Ask. -/
namespace Go.Proofs.Ytmjdnocilbnoaaa
open Go.RowKit Go.Maps
set_option linter.unusedVariables false
set_option linter.unusedSimpArgs false
set_option maxRecDepth 100000
theorem tells_any {w : World} {F : Nat → Prop} {rb k : Nat} {M : Nat → Nat} (hr : RamAt w F rb 8192 k (.pointer none) M) {qb : Nat} {n D A U : Nat} {rd ev al : Bool} {fe us : Nat} (hq : w.heap[qb]? = some (.cells #[.int .i64 (n : Int), .int .u64 (D : Int), .int .u64 (A : Int), .int .u64 (U : Int), .bool rd, .int .u16 (fe : Int), .int .u16 (us : Int), .bool ev, .bool al] 40 (0, 0))) (hg : Gd n D A U) (fr : Nat) (hfr : fr ≤ 65535) (hus : us ≤ 65535) : Calls Try.prog 30 #[.pointer (some ⟨qb, 0, none⟩), .pointer (some ⟨rb, 0, none⟩), .int .u16 (fr : Int)] w fun e w' => e = .returned (.bool (tellB M n A us fr ev)) ∧ Below w.heap.size w w' := by
  have HL : Hid (Calls Try.prog 51 #[.pointer (some ⟨qb, 0, none⟩), .pointer (some ⟨rb, 0, none⟩)] w fun e w' => e = .returned (.bool true) ∧ Below w.heap.size w w') := lies_good hr hq hg
  have HR : Hid (RamAt w F rb 8192 k (.pointer none) M ∧ w.heap[qb]? = some (.cells #[.int .i64 (n : Int), .int .u64 (D : Int), .int .u64 (A : Int), .int .u64 (U : Int), .bool rd, .int .u16 (fe : Int), .int .u16 (us : Int), .bool ev, .bool al] 40 (0, 0)) ∧ Gd n D A U ∧ fr ≤ 65535 ∧ us ≤ 65535) := ⟨hr, hq, hg, hfr, hus⟩
  obtain ⟨r, hrr⟩ : ∃ r, tellB M n A us fr ev = r := ⟨_, rfl⟩
  rw [hrr]
  by_cases h1 : fr = us
  · have e1 : ((fr : Int) == (us : Int)) = true := by simp; omega
    have e2 : r = false := by rw [← hrr]; simp [tellB, h1]
    subst e2
    clear hq hr hg hfr hus hrr h1
    go_enter Try.func30, Try.ntmps30
    go_wp2_with (go_at_call 51; refine (HL.out).mono ?_; rintro e w1 ⟨rfl, hb1⟩; have X1 : Hid (w1.heap[qb]? = some (.cells #[.int .i64 (n : Int), .int .u64 (D : Int), .int .u64 (A : Int), .int .u64 (U : Int), .bool rd, .int .u16 (fe : Int), .int .u16 (us : Int), .bool ev, .bool al] 40 (0, 0)) ∧ Below w.heap.size w w1) := ⟨below_box HR.out.2.1 hb1, hb1⟩; clear hb1; obtain ⟨c0, c1, c2, c3, c4, c5, c6, c7, c8⟩ := box9_facts X1.out.1)
    go_ret
    exact ⟨rfl, X1.out.2⟩
  have e1 : ((fr : Int) == (us : Int)) = false := by simp; omega
  have HM : Hid (∀ a, M a ≤ 255) := hr.le
  cases ev with
  | true =>
    have HT0 : pastB (wordN M (A + 4 + 2 * n) 2 8192) fr us = r := by rw [← hrr]; simp [tellB, h1]
    have HT : Hid (pastB (wordN M (A + 4 + 2 * n) 2 8192) fr us = r) := HT0
    clear HT0
    clear hq hr hg hfr hus hrr h1
    go_enter Try.func30, Try.ntmps30
    go_upto_region 4 with (go_at_call 51; refine (HL.out).mono ?_; rintro e w1 ⟨rfl, hb1⟩; have X1 : Hid (RamAt w1 F rb 8192 k (.pointer none) M ∧ w1.heap[qb]? = some (.cells #[.int .i64 (n : Int), .int .u64 (D : Int), .int .u64 (A : Int), .int .u64 (U : Int), .bool rd, .int .u16 (fe : Int), .int .u16 (us : Int), .bool true, .bool al] 40 (0, 0)) ∧ Below w.heap.size w w1) := ⟨HR.out.1.below hb1, below_box HR.out.2.1 hb1, hb1⟩; clear hb1; obtain ⟨c0, c1, c2, c3, c4, c5, c6, c7, c8⟩ := box9_facts X1.out.2.1)
    have X2 : Hid (RamAt w1.drew F rb 8192 k (.pointer none) M ∧ w1.drew.heap[qb]? = some (.cells #[.int .i64 (n : Int), .int .u64 (D : Int), .int .u64 (A : Int), .int .u64 (U : Int), .bool rd, .int .u16 (fe : Int), .int .u16 (us : Int), .bool true, .bool al] 40 (0, 0)) ∧ Below w.heap.size w w1.drew) := ⟨X1.out.1.below (Below.drew (Below.refl _ _)), X1.out.2.1, X1.out.2.2.drew⟩
    go_region_held3 (fun Z => Z.cell? ⟨qb, 0, none⟩ = some (.int .i64 (n : Int)) ∧ Z.cell? ⟨qb, 1, none⟩ = some (.int .u64 (D : Int)) ∧ Z.cell? ⟨qb, 2, none⟩ = some (.int .u64 (A : Int)) ∧ Z.cell? ⟨qb, 3, none⟩ = some (.int .u64 (U : Int)) ∧ Z.cell? ⟨qb, 4, none⟩ = some (.bool rd) ∧ Z.cell? ⟨qb, 5, none⟩ = some (.int .u16 (fe : Int)) ∧ Z.cell? ⟨qb, 6, none⟩ = some (.int .u16 (us : Int)) ∧ Z.cell? ⟨qb, 7, none⟩ = some (.bool true) ∧ Z.cell? ⟨qb, 8, none⟩ = some (.bool al)) (go_keep) (first | (go_at_call 54; refine (wanted_any X2.out.1 HR.out.2.2.1).mono ?_; rintro e w2 ⟨rfl, hb2⟩; have X3 : Hid (w2.heap[qb]? = some (.cells #[.int .i64 (n : Int), .int .u64 (D : Int), .int .u64 (A : Int), .int .u64 (U : Int), .bool rd, .int .u16 (fe : Int), .int .u16 (us : Int), .bool true, .bool al] 40 (0, 0)) ∧ Below w.heap.size w w2) := ⟨below_box X2.out.2.1 hb2, below_to X2.out.2.2 hb2⟩; clear hb2; obtain ⟨d0, d1, d2, d3, d4, d5, d6, d7, d8⟩ := box9_facts X3.out.1) | (go_at_call 53; refine (passed_any _ _ _ (rd_lt HM.out _) HR.out.2.2.2.1 HR.out.2.2.2.2 _).mono ?_; rintro e w3 ⟨rfl, rfl⟩; rw [HT.out]))
    go_wp2_with fail
    go_ret
    exact ⟨rfl, X3.out.2⟩
  | false =>
    obtain ⟨f, hf⟩ : ∃ f, wordN M A 2 8192 = f := ⟨_, rfl⟩
    have hf2 : f ≤ 65535 := by rw [← hf]; exact rd_lt HM.out _
    have e2 : bits .and .u16 (f : Int) 1 = ((f % 2 : Nat) : Int) := by
      have : bits .and .u16 ((f : Nat) : Int) ((1 : Nat) : Int) = ((f &&& 1 : Nat) : Int) := u16_and_nat f 1 (by omega) (by omega)
      rw [Nat.and_one_is_mod] at this
      exact this
    have e3 : (((f % 2 : Nat) : Int) == 0) = r := by
      rw [← hrr]; unfold tellB; rw [if_neg h1, if_neg (by decide), hf]
      rcases Nat.mod_two_eq_zero_or_one f with h | h <;> rw [h] <;> rfl
    obtain ⟨p, hp⟩ : ∃ p, f % 2 = p := ⟨_, rfl⟩
    rw [hp] at e2 e3
    have HF : Hid (wordN M A 2 8192 = f) := hf
    clear hq hr hg hfr hus hrr h1 hf hp
    go_enter Try.func30, Try.ntmps30
    go_wp2_with (first | (go_at_call 51; refine (HL.out).mono ?_; rintro e w1 ⟨rfl, hb1⟩; have X1 : Hid (RamAt w1 F rb 8192 k (.pointer none) M ∧ w1.heap[qb]? = some (.cells #[.int .i64 (n : Int), .int .u64 (D : Int), .int .u64 (A : Int), .int .u64 (U : Int), .bool rd, .int .u16 (fe : Int), .int .u16 (us : Int), .bool false, .bool al] 40 (0, 0)) ∧ Below w.heap.size w w1) := ⟨HR.out.1.below hb1, below_box HR.out.2.1 hb1, hb1⟩; clear hb1; obtain ⟨c0, c1, c2, c3, c4, c5, c6, c7, c8⟩ := box9_facts X1.out.2.1) | (go_at_call 55; refine (flags_any X1.out.1 HR.out.2.2.1).mono ?_; rintro e w2 ⟨rfl, hb2⟩; rw [HF.out]; have X3 : Hid (Below w.heap.size w w2) := below_to X1.out.2.2 hb2; clear hb2))
    go_ret
    exact ⟨rfl, X3.out⟩
theorem ask_any {w : World} {F : Nat → Prop} {rb k : Nat} {M : Nat → Nat} (hr : RamAt w F rb 8192 k (.pointer none) M) {qb : Nat} {n D A U : Nat} {rd ev al : Bool} {fe us : Nat} (hq : w.heap[qb]? = some (.cells #[.int .i64 (n : Int), .int .u64 (D : Int), .int .u64 (A : Int), .int .u64 (U : Int), .bool rd, .int .u16 (fe : Int), .int .u16 (us : Int), .bool ev, .bool al] 40 (0, 0))) (hg : Gd n D A U) (hF : ¬ F qb) (hfe : fe ≤ 65535) (hk : k + 2 ≤ 1000000) : Calls Try.prog 29 #[.pointer (some ⟨qb, 0, none⟩), .pointer (some ⟨rb, 0, none⟩)] w fun e w' => e = .returned (.tuple #[]) ∧ ∃ F', RamAt w' F' rb 8192 (k + 2) (.pointer none) (askM M n U fe ev) ∧ Step F w F' w' := by
  have HL : Hid (Calls Try.prog 51 #[.pointer (some ⟨qb, 0, none⟩), .pointer (some ⟨rb, 0, none⟩)] w fun e w' => e = .returned (.bool true) ∧ Below w.heap.size w w') := lies_good hr hq hg
  have HR : Hid (RamAt w F rb 8192 k (.pointer none) M ∧ w.heap[qb]? = some (.cells #[.int .i64 (n : Int), .int .u64 (D : Int), .int .u64 (A : Int), .int .u64 (U : Int), .bool rd, .int .u16 (fe : Int), .int .u16 (us : Int), .bool ev, .bool al] 40 (0, 0)) ∧ Gd n D A U ∧ fe ≤ 65535 ∧ k + 2 ≤ 1000000 ∧ ¬ F qb) := ⟨hr, hq, hg, hfe, hk, hF⟩
  clear hq hr hg hfe hk hF
  cases ev with
  | true =>
    go_enter Try.func29, Try.ntmps29
    go_upto_region 1 with (go_at_call 51; refine (HL.out).mono ?_; rintro e w1 ⟨rfl, hb1⟩; have X1 : Hid (RamAt w1 F rb 8192 k (.pointer none) M ∧ w1.heap[qb]? = some (.cells #[.int .i64 (n : Int), .int .u64 (D : Int), .int .u64 (A : Int), .int .u64 (U : Int), .bool rd, .int .u16 (fe : Int), .int .u16 (us : Int), .bool true, .bool al] 40 (0, 0)) ∧ Below w.heap.size w w1) := ⟨HR.out.1.below hb1, below_box HR.out.2.1 hb1, hb1⟩; clear hb1; obtain ⟨c0, c1, c2, c3, c4, c5, c6, c7, c8⟩ := box9_facts X1.out.2.1)
    have X2 : Hid (RamAt w1.drew F rb 8192 k (.pointer none) M ∧ w1.drew.heap[qb]? = some (.cells #[.int .i64 (n : Int), .int .u64 (D : Int), .int .u64 (A : Int), .int .u64 (U : Int), .bool rd, .int .u16 (fe : Int), .int .u16 (us : Int), .bool true, .bool al] 40 (0, 0)) ∧ Below w.heap.size w w1.drew) := ⟨X1.out.1.below (Below.drew (Below.refl _ _)), X1.out.2.1, X1.out.2.2.drew⟩
    go_region_held3 (fun Z => Z.cell? ⟨qb, 0, none⟩ = some (.int .i64 (n : Int)) ∧ Z.cell? ⟨qb, 1, none⟩ = some (.int .u64 (D : Int)) ∧ Z.cell? ⟨qb, 2, none⟩ = some (.int .u64 (A : Int)) ∧ Z.cell? ⟨qb, 3, none⟩ = some (.int .u64 (U : Int)) ∧ Z.cell? ⟨qb, 4, none⟩ = some (.bool rd) ∧ Z.cell? ⟨qb, 5, none⟩ = some (.int .u16 (fe : Int)) ∧ Z.cell? ⟨qb, 6, none⟩ = some (.int .u16 (us : Int)) ∧ Z.cell? ⟨qb, 7, none⟩ = some (.bool true) ∧ Z.cell? ⟨qb, 8, none⟩ = some (.bool al)) (go_keep) (first | (go_at_call 52; refine (want_any X2.out.1 HR.out.2.2.1 fe HR.out.2.2.2.1 HR.out.2.2.2.2.1).mono ?_; rintro e w2 ⟨rfl, F2, hr2, hs2⟩; have X3 : Hid (RamAt w2 F2 rb 8192 (k + 2) (.pointer none) (over M (U + 4 + 8 * n) 2 (byteAt fe)) ∧ Step F w F2 w2 ∧ w2.heap[qb]? = some (.cells #[.int .i64 (n : Int), .int .u64 (D : Int), .int .u64 (A : Int), .int .u64 (U : Int), .bool rd, .int .u16 (fe : Int), .int .u16 (us : Int), .bool true, .bool al] 40 (0, 0))) := ⟨hr2, (Step.of_below X2.out.2.2).trans hs2, step_box hs2 X2.out.2.1 HR.out.2.2.2.2.2⟩; clear hr2 hs2; obtain ⟨d0, d1, d2, d3, d4, d5, d6, d7, d8⟩ := box9_facts X3.out.2.2))
    go_wp2_with fail
    first | go_end0 | skip
    all_goals exact ⟨rfl, F2, X3.out.1, X3.out.2.1⟩
  | false =>
    go_enter Try.func29, Try.ntmps29
    go_wp2_with (go_at_call 51; refine (HL.out).mono ?_; rintro e w1 ⟨rfl, hb1⟩; have X1 : Hid (RamAt w1 F rb 8192 k (.pointer none) M ∧ w1.heap[qb]? = some (.cells #[.int .i64 (n : Int), .int .u64 (D : Int), .int .u64 (A : Int), .int .u64 (U : Int), .bool rd, .int .u16 (fe : Int), .int .u16 (us : Int), .bool false, .bool al] 40 (0, 0)) ∧ Below w.heap.size w w1) := ⟨HR.out.1.below hb1, below_box HR.out.2.1 hb1, hb1⟩; clear hb1; obtain ⟨c0, c1, c2, c3, c4, c5, c6, c7, c8⟩ := box9_facts X1.out.2.1)
    first | go_end0 | skip
    all_goals exact ⟨rfl, F, X1.out.1.mono (by omega), Step.of_below X1.out.2.2⟩
end Go.Proofs.Ytmjdnocilbnoaaa

/- The queue: Return. -/
namespace Go.Proofs.Ytmjdnocilbnoaaa
open Go.RowKit Go.Maps
set_option linter.unusedVariables false
set_option linter.unusedSimpArgs false
set_option maxRecDepth 100000
theorem step_or {F G F' : Nat → Prop} {w w' : World} (h : Step F w F' w') (hG : ∀ k, G k → k < w.heap.size) : Step (fun k => F k ∨ G k) w (fun k => F' k ∨ G k) w' :=
  ⟨h.os, h.tape, h.output, h.size, fun k hk hn => h.block k hk (fun hf => hn (.inl hf)), fun k hk => by
    rcases hk with hk | hk
    · exact (h.old k hk).imp .inl id
    · exact .inl (.inr hk), fun k hk => hk.imp (h.keep k) id⟩
theorem step_orR {F G G' : Nat → Prop} {w w' : World} (h : Step G w G' w') : Step (fun k => F k ∨ G k) w (fun k => F k ∨ G' k) w' :=
  ⟨h.os, h.tape, h.output, h.size, fun k hk hn => h.block k hk (fun hf => hn (.inr hf)), fun k hk => by
    rcases hk with hk | hk
    · exact .inl (.inl hk)
    · exact (h.old k hk).imp .inr id, fun k hk => hk.imp id (h.keep k)⟩
/-- a queue's block beside a memory's -/
theorem step_q {F F' : Nat → Prop} {w w' : World} {qb : Nat} (h : Step F w F' w') (hq : qb < w.heap.size) : Step (fun k => F k ∨ k = qb) w (fun k => F' k ∨ k = qb) w' := step_or h (fun k hk => by omega)
theorem not_later {F F' : Nat → Prop} {w w' : World} {q : Nat} (h : Step F w F' w') (hq : q < w.heap.size) (hn : ¬ F q) : ¬ F' q := fun hf => by
  rcases h.old q hf with h1 | h1
  · exact hn h1
  · omega
theorem up_wrap {m : Nat} (h : m ≤ 65535) : IntKind.u16.wrap ((m : Int) + 1) = (upN m : Int) := by
  unfold upN
  simp only [IntKind.wrap, IntKind.signed, IntKind.bits]
  simp
  try omega
set_option maxHeartbeats 2000000 in
theorem return_any {w : World} {F : Nat → Prop} {rb k : Nat} {M : Nat → Nat} (hr : RamAt w F rb 8192 k (.pointer none) M) {qb : Nat} {n D A U : Nat} {rd ev al : Bool} {fe us : Nat} (hq : w.heap[qb]? = some (.cells #[.int .i64 (n : Int), .int .u64 (D : Int), .int .u64 (A : Int), .int .u64 (U : Int), .bool rd, .int .u16 (fe : Int), .int .u16 (us : Int), .bool ev, .bool al] 40 (0, 0))) (hg : Gd n D A U) (hF : ¬ F qb) (hd cn : Nat) (hus : us ≤ 65535) (hhd : hd ≤ 65535) (hcn : cn ≤ 4294967295) (hk : k + 10 ≤ 1000000) : Calls Try.prog 50 #[.pointer (some ⟨qb, 0, none⟩), .pointer (some ⟨rb, 0, none⟩), .int .u16 (hd : Int), .int .u32 (cn : Int)] w fun e w' => e = .returned (.tuple #[]) ∧ w'.heap[qb]? = some (.cells #[.int .i64 (n : Int), .int .u64 (D : Int), .int .u64 (A : Int), .int .u64 (U : Int), .bool rd, .int .u16 (fe : Int), .int .u16 (upN us : Int), .bool ev, .bool al] 40 (0, 0)) ∧ ∃ F', RamAt w' F' rb 8192 (k + 10) (.pointer none) (retM M n U us hd cn) ∧ Step (fun k => F k ∨ k = qb) w (fun k => F' k ∨ k = qb) w' ∧ ¬ F' qb := by
  have HL : Hid (Calls Try.prog 51 #[.pointer (some ⟨qb, 0, none⟩), .pointer (some ⟨rb, 0, none⟩)] w fun e w' => e = .returned (.bool true) ∧ Below w.heap.size w w') := lies_good hr hq hg
  have HR : Hid (RamAt w F rb 8192 k (.pointer none) M ∧ w.heap[qb]? = some (.cells #[.int .i64 (n : Int), .int .u64 (D : Int), .int .u64 (A : Int), .int .u64 (U : Int), .bool rd, .int .u16 (fe : Int), .int .u16 (us : Int), .bool ev, .bool al] 40 (0, 0)) ∧ Gd n D A U ∧ us ≤ 65535 ∧ hd ≤ 65535 ∧ cn ≤ 4294967295 ∧ k + 10 ≤ 1000000 ∧ ¬ F qb) := ⟨hr, hq, hg, hus, hhd, hcn, hk, hF⟩
  have hup := up_wrap hus
  obtain ⟨u1, hu1⟩ : ∃ u1, upN us = u1 := ⟨_, rfl⟩
  have HU : Hid (upN us = u1 ∧ u1 ≤ 65535) := ⟨hu1, by rw [← hu1]; exact up_le us⟩
  rw [hu1] at hup ⊢
  clear hq hr hg hus hhd hcn hk hF hu1
  go_enter Try.func50, Try.ntmps50
  go_upto_region 1 with (go_at_call 51; refine (HL.out).mono ?_; rintro e w1 ⟨rfl, hb1⟩; have X1 : Hid (RamAt w1 F rb 8192 k (.pointer none) M ∧ w1.heap[qb]? = some (.cells #[.int .i64 (n : Int), .int .u64 (D : Int), .int .u64 (A : Int), .int .u64 (U : Int), .bool rd, .int .u16 (fe : Int), .int .u16 (us : Int), .bool ev, .bool al] 40 (0, 0)) ∧ Below w.heap.size w w1) := ⟨HR.out.1.below hb1, below_box HR.out.2.1 hb1, hb1⟩; clear hb1)
  obtain ⟨c0, c1, c2, c3, c4, c5, c6, c7, c8⟩ := box9_facts X1.out.2.1
  have X2 : Hid (RamAt w1.drew F rb 8192 k (.pointer none) M ∧ w1.drew.heap[qb]? = some (.cells #[.int .i64 (n : Int), .int .u64 (D : Int), .int .u64 (A : Int), .int .u64 (U : Int), .bool rd, .int .u16 (fe : Int), .int .u16 (us : Int), .bool ev, .bool al] 40 (0, 0)) ∧ Below w.heap.size w w1.drew) := ⟨X1.out.1.below (Below.drew (Below.refl _ _)), X1.out.2.1, X1.out.2.2.drew⟩
  clear X1 HL
  go_region_held3 (fun Z => Z.cell? ⟨qb, 0, none⟩ = some (.int .i64 (n : Int)) ∧ Z.cell? ⟨qb, 1, none⟩ = some (.int .u64 (D : Int)) ∧ Z.cell? ⟨qb, 2, none⟩ = some (.int .u64 (A : Int)) ∧ Z.cell? ⟨qb, 3, none⟩ = some (.int .u64 (U : Int)) ∧ Z.cell? ⟨qb, 4, none⟩ = some (.bool rd) ∧ Z.cell? ⟨qb, 5, none⟩ = some (.int .u16 (fe : Int)) ∧ Z.cell? ⟨qb, 6, none⟩ = some (.int .u16 (us : Int)) ∧ Z.cell? ⟨qb, 7, none⟩ = some (.bool ev) ∧ Z.cell? ⟨qb, 8, none⟩ = some (.bool al)) (go_keep) (first | (go_at_call 71; refine (put15_any X2.out.1 HR.out.2.2.1 us (us % n) hd cn HR.out.2.2.2.1 rfl HR.out.2.2.2.2.1 HR.out.2.2.2.2.2.1 (by have := HR.out.2.2.2.2.2.2.1; omega)).mono ?_; rintro e w2 ⟨rfl, F2, hr2, hs2⟩; have X3 : Hid (RamAt w2 F2 rb 8192 (k + 8) (.pointer none) (over M (U + 4 + 8 * (us % n)) 8 (eB hd cn)) ∧ w2.heap[qb]? = some (.cells #[.int .i64 (n : Int), .int .u64 (D : Int), .int .u64 (A : Int), .int .u64 (U : Int), .bool rd, .int .u16 (fe : Int), .int .u16 (us : Int), .bool ev, .bool al] 40 (0, 0)) ∧ ¬ F2 qb ∧ Step F w F2 w2) := ⟨hr2, step_box hs2 X2.out.2.1 HR.out.2.2.2.2.2.2.2, not_later hs2 (Array.getElem?_eq_some_iff.1 X2.out.2.1).1 HR.out.2.2.2.2.2.2.2, (Step.of_below X2.out.2.2).trans hs2⟩; clear hr2 hs2; obtain ⟨d0, d1, d2, d3, d4, d5, d6, d7, d8⟩ := box9_facts X3.out.2.1))
  clear X2 c0 c1 c2 c3 c4 c5 c6 c7 c8
  have c6f := frozenOf X3.out.2.1 6
  go_upto_region 3 with fail
  have X4 : Hid (RamAt (w2.setCell ⟨qb, 6, none⟩ (.int .u16 (u1 : Int))) F2 rb 8192 (k + 8) (.pointer none) (over M (U + 4 + 8 * (us % n)) 8 (eB hd cn)) ∧ (w2.setCell ⟨qb, 6, none⟩ (.int .u16 (u1 : Int))).heap[qb]? = some (.cells #[.int .i64 (n : Int), .int .u64 (D : Int), .int .u64 (A : Int), .int .u64 (U : Int), .bool rd, .int .u16 (fe : Int), .int .u16 (u1 : Int), .bool ev, .bool al] 40 (0, 0)) ∧ ¬ F2 qb ∧ Step (fun k => F k ∨ k = qb) w (fun k => F2 k ∨ k = qb) (w2.setCell ⟨qb, 6, none⟩ (.int .u16 (u1 : Int)))) := ⟨X3.out.1.setCell X3.out.2.2.1 6 _, set_box X3.out.2.1 6 _, X3.out.2.2.1, (step_q X3.out.2.2.2 (Array.getElem?_eq_some_iff.1 HR.out.2.1).1).trans (step_orR (step_set _ _ _ _))⟩
  clear X3 d0 d1 d2 d3 d4 d5 d6 d7 d8 c6f
  generalize w2.setCell ⟨qb, 6, none⟩ (.int .u16 (u1 : Int)) = w3 at *
  obtain ⟨c0, c1, c2, c3, c4, c5, c6, c7, c8⟩ := box9_facts X4.out.2.1
  have X5 : Hid (RamAt w3.drew F2 rb 8192 (k + 8) (.pointer none) (over M (U + 4 + 8 * (us % n)) 8 (eB hd cn)) ∧ w3.drew.heap[qb]? = some (.cells #[.int .i64 (n : Int), .int .u64 (D : Int), .int .u64 (A : Int), .int .u64 (U : Int), .bool rd, .int .u16 (fe : Int), .int .u16 (u1 : Int), .bool ev, .bool al] 40 (0, 0)) ∧ ¬ F2 qb ∧ Step (fun k => F k ∨ k = qb) w (fun k => F2 k ∨ k = qb) w3.drew) := ⟨X4.out.1.below (Below.drew (Below.refl _ _)), X4.out.2.1, X4.out.2.2.1, X4.out.2.2.2.trans (Step.of_below (Below.drew (Below.refl _ _)))⟩
  clear X4
  go_region_held3 (fun Z => Z.cell? ⟨qb, 0, none⟩ = some (.int .i64 (n : Int)) ∧ Z.cell? ⟨qb, 1, none⟩ = some (.int .u64 (D : Int)) ∧ Z.cell? ⟨qb, 2, none⟩ = some (.int .u64 (A : Int)) ∧ Z.cell? ⟨qb, 3, none⟩ = some (.int .u64 (U : Int)) ∧ Z.cell? ⟨qb, 4, none⟩ = some (.bool rd) ∧ Z.cell? ⟨qb, 5, none⟩ = some (.int .u16 (fe : Int)) ∧ Z.cell? ⟨qb, 6, none⟩ = some (.int .u16 (u1 : Int)) ∧ Z.cell? ⟨qb, 7, none⟩ = some (.bool ev) ∧ Z.cell? ⟨qb, 8, none⟩ = some (.bool al)) (go_keep) (first | (go_at_call 72; refine (publish_any X5.out.1 HR.out.2.2.1 u1 HU.out.2 (by have := HR.out.2.2.2.2.2.2.1; omega)).mono ?_; rintro e w4 ⟨rfl, F4, hr4, hs4⟩; have X6 : Hid (RamAt w4 F4 rb 8192 (k + 8 + 2) (.pointer none) (over (over M (U + 4 + 8 * (us % n)) 8 (eB hd cn)) (U + 2) 2 (byteAt u1)) ∧ w4.heap[qb]? = some (.cells #[.int .i64 (n : Int), .int .u64 (D : Int), .int .u64 (A : Int), .int .u64 (U : Int), .bool rd, .int .u16 (fe : Int), .int .u16 (u1 : Int), .bool ev, .bool al] 40 (0, 0)) ∧ Step (fun k => F k ∨ k = qb) w (fun k => F4 k ∨ k = qb) w4 ∧ ¬ F4 qb) := ⟨hr4, step_box hs4 X5.out.2.1 X5.out.2.2.1, X5.out.2.2.2.trans (step_q hs4 (Array.getElem?_eq_some_iff.1 X5.out.2.1).1), not_later hs4 (Array.getElem?_eq_some_iff.1 X5.out.2.1).1 X5.out.2.2.1⟩; clear hr4 hs4; obtain ⟨d0, d1, d2, d3, d4, d5, d6, d7, d8⟩ := box9_facts X6.out.2.1))
  go_wp2_with fail
  first | go_end0 | skip
  all_goals
    refine ⟨rfl, X6.out.2.1, F4, ?_, X6.out.2.2⟩
    unfold retM
    rw [HU.out.1]
    exact X6.out.1
end Go.Proofs.Ytmjdnocilbnoaaa

/- A memory that isn't watched. -/
namespace Go.Proofs.Ytmjdnocilbnoaaa
open Go.RowKit Go.Maps
set_option linter.unusedVariables false
set_option linter.unusedSimpArgs false
set_option maxRecDepth 100000
/-- a memory that isn't watched, all of its blocks as they were in w0 -/
def NilI (w0 : World) (G : Nat → Prop) (rb k : Nat) (M : Nat → Nat) (F : Nat → Prop) (w : World) : Prop := F = G ∧ RamAt w G rb 8192 k (.pointer none) M ∧ ∀ z, G z → w.heap[z]? = w0.heap[z]?
theorem NilI.below {w0 : World} {G : Nat → Prop} {rb k : Nat} {M : Nat → Nat} {F : Nat → Prop} {w w' : World} (h : NilI w0 G rb k M F w) (hb : Below w.heap.size w w') : NilI w0 G rb k M F w' := ⟨h.1, h.2.1.below hb, fun z hz => (hb.block z (h.2.1.lt z hz)).trans (h.2.2 z hz)⟩
theorem nil_mem (w0 : World) (G : Nat → Prop) (rb k : Nat) (M : Nat → Nat) : Wm rb M (NilI w0 G rb k M) :=
  ⟨fun F w h => ⟨G, k, _, h.2.1⟩, fun F w h => by rw [h.1]; exact h.2.1.lt, fun F w G2 G' w' h hs hd => by
    obtain ⟨rfl, h1, h2⟩ := h
    exact ⟨rfl, h1.step hs hd, fun z hz => (hs.block z (h1.lt z hz) (hd z hz)).trans (h2 z hz)⟩⟩
theorem nil_desc (w0 : World) (G : Nat → Prop) (rb k : Nat) (M : Nat → Nat) (t n : Nat) : DescOk rb M (NilI w0 G rb k M) t n := by
  intro F w i hi h
  cases hb : deB t i with
  | false =>
    rw [deN_no hb]
    by_cases h5 : i ≤ 255
    · have hin : inB (deX t i) 16 2147483648 8192 = false := by simpa [deB, h5] using hb
      exact (desc_out h.2.1 t (deX t i) i h5 rfl hin).mono fun e w' ⟨he, hw⟩ => ⟨he, F, h.below hw, Step.of_below hw⟩
    · exact (desc_no _ t (i : Int) (.inr (by omega)) w).mono fun e w' ⟨he, hw⟩ => ⟨he, F, h.below hw, Step.of_below hw⟩
  | true =>
    have h5 : i ≤ 255 := by simp only [deB, Bool.and_eq_true, decide_eq_true_iff] at hb; exact hb.1
    have hin : inB (deX t i) 16 2147483648 8192 = true := by simp only [deB, Bool.and_eq_true, decide_eq_true_iff] at hb; exact hb.2
    exact (desc_in h.2.1 t (deX t i) i h5 rfl hin _ _ _ _ (deN_at hb)).mono fun e w' ⟨he, hw⟩ => ⟨he, F, h.below hw, Step.of_below hw⟩
/-- Walk of a memory that isn't watched -/
theorem walk_nil {rb k : Nat} {M : Nat → Nat} {F : Nat → Prop} {w : World} (h : RamAt w F rb 8192 k (.pointer none) M) (n D A Uu : Nat) (hn : n ≤ 256) (hd : Int) (al : Bool) :
    Calls Try.prog 69 #[.pointer (some ⟨rb, 0, none⟩), .agg #[.int .i64 (n : Int), .int .u64 (D : Int), .int .u64 (A : Int), .int .u64 (Uu : Int)], .int .i64 hd, .bool al] w fun e w' => ∃ v, e = .returned (.tuple #[.agg #[v, .int .u64 ((walkR M D n hd al).ta : Int), .int .u64 ((walkR M D n hd al).tl : Int)], .int .i64 ((walkR M D n hd al).e : Int)]) ∧ SegIn w.heap.size w' v (walkR M D n hd al).l ∧ Below w.heap.size w w' := by
  refine (walk_any (F := F) (nil_mem w F rb k M) h.le n D A Uu hn hd al ⟨rfl, h, fun _ _ => rfl⟩ (nil_desc w F rb k M D n) (fun r _ _ _ _ => nil_desc w F rb k M _ _)).mono ?_
  rintro e w' ⟨v, he, F', ⟨rfl, hr, hk⟩, hs, hsg, hg⟩
  refine ⟨v, he, hsg, ⟨hs.os, hs.tape, hs.output, hs.size, fun z hz => ?_⟩⟩
  by_cases hf : F' z
  · exact hk z hf
  · exact hs.block z hz hf
end Go.Proofs.Ytmjdnocilbnoaaa

/- The queue: Fetch. -/
namespace Go.Proofs.Ytmjdnocilbnoaaa
open Go.RowKit Go.Maps
set_option linter.unusedVariables false
set_option linter.unusedSimpArgs false
set_option maxRecDepth 100000
theorem ram_q {F : Nat → Prop} {w w' : World} {rb size k qb : Nat} {lg : Value} {M : Nat → Nat} (h : RamAt w F rb size k lg M) (hs : Step (fun k => k = qb) w (fun k => k = qb) w') (hn : ¬ F qb) : RamAt w' F rb size k lg M := h.kept hs.size (fun z hz => hs.block z (h.lt z hz) (fun e => hn (e ▸ hz)))
theorem infoI : (Try.prog.info? 108).map (·.size) = some 4 := by kernel_rfl
theorem infoC : (Try.prog.info? 50).map (·.size) = some 3 := by kernel_rfl
/-- while Fetch runs: the item in its block c, the queue fetched so far -/
def Fx (w V : World) (F : Nat → Prop) (rb k : Nat) (M : Nat → Nat) (qb : Nat) (s : Int) (D A U : Nat) (rd : Bool) (fe us : Nat) (ev al : Bool) (c : Array Value) : Prop :=
  Step (fun k => k = qb) w (fun k => k = qb) V ∧ V.heap[w.heap.size]? = some (.cells c 108 (0, 0)) ∧ RamAt V F rb 8192 k (.pointer none) M ∧ V.heap[qb]? = some (.cells #[.int .i64 s, .int .u64 (D : Int), .int .u64 (A : Int), .int .u64 (U : Int), .bool rd, .int .u16 (fe : Int), .int .u16 (us : Int), .bool ev, .bool al] 40 (0, 0)) ∧ ¬ F qb ∧ qb < w.heap.size ∧ ∀ z, F z → z < w.heap.size
section
variable {w V V2 : World} {F : Nat → Prop} {rb k : Nat} {M : Nat → Nat} {qb : Nat} {s : Int} {D A U : Nat} {rd ev al : Bool} {fe us : Nat} {c : Array Value}
theorem Fx.below (h : Fx w V F rb k M qb s D A U rd fe us ev al c) (hb : Below V.heap.size V V2) : Fx w V2 F rb k M qb s D A U rd fe us ev al c := ⟨h.1.trans (Step.of_below hb), below_box h.2.1 hb, h.2.2.1.below hb, below_box h.2.2.2.1 hb, h.2.2.2.2⟩
theorem Fx.set (h : Fx w V F rb k M qb s D A U rd fe us ev al c) (c' : Array Value) : Fx w (V.setRow w.heap.size c') F rb k M qb s D A U rd fe us ev al c' := by
  obtain ⟨h1, h2, h3, h4, h5, h6, h7⟩ := h
  refine ⟨⟨h1.os, h1.tape, h1.output, by simpa [World.setRow] using h1.size, fun z hz hn => (setRow_other _ _ _ _ (by omega)).trans (h1.block z hz hn), h1.old, h1.keep⟩, setRow_heap _ _ _ _ _ _ h2, h3.kept (by simp [World.setRow]) (fun z hz => setRow_other _ _ _ _ (fun e => ?_)), (setRow_other _ _ _ _ (by omega)).trans h4, h5, h6, h7⟩
  subst e
  exact absurd (h7 _ hz) (by omega)
theorem Fx.other {p : Nat} (h : Fx w V F rb k M qb s D A U rd fe us ev al c) (hp : w.heap.size < p) (c' : Array Value) : Fx w (V.setRow p c') F rb k M qb s D A U rd fe us ev al c := by
  obtain ⟨h1, h2, h3, h4, h5, h6, h7⟩ := h
  exact ⟨⟨h1.os, h1.tape, h1.output, by simpa [World.setRow] using h1.size, fun z hz hn => (setRow_other _ _ _ _ (by omega)).trans (h1.block z hz hn), h1.old, h1.keep⟩, (setRow_other _ _ _ _ (by omega)).trans h2, h3.kept (by simp [World.setRow]) (fun z hz => setRow_other _ _ _ _ (by have := h7 z hz; omega)), (setRow_other _ _ _ _ (by omega)).trans h4, h5, h6, h7⟩
theorem Fx.one (h : Fx w V F rb k M qb s D A U rd fe us ev al c) (fe' : Nat) : Fx w (V.setCell ⟨qb, 5, none⟩ (.int .u16 (fe' : Int))) F rb k M qb s D A U rd fe' us ev al c :=
  ⟨h.1.trans (step_set _ _ _ _), (heap_setCell _ _ _ _ _ (by have := h.2.2.2.2.2.1; omega)).trans h.2.1, h.2.2.1.setCell h.2.2.2.2.1 _ _, set_box h.2.2.2.1 5 _, h.2.2.2.2⟩
end

theorem fetch_off {w : World} {F : Nat → Prop} {rb k : Nat} {M : Nat → Nat} (hr : RamAt w F rb 8192 k (.pointer none) M) {qb : Nat} {s : Int} {D A U : Nat} {ev al : Bool} {fe us : Nat} (hq : w.heap[qb]? = some (.cells #[.int .i64 s, .int .u64 (D : Int), .int .u64 (A : Int), .int .u64 (U : Int), .bool false, .int .u16 (fe : Int), .int .u16 (us : Int), .bool ev, .bool al] 40 (0, 0))) (hF : ¬ F qb) : Calls Try.prog 48 #[.pointer (some ⟨qb, 0, none⟩), .pointer (some ⟨rb, 0, none⟩)] w fun e w' => e = .returned (.tuple #[.agg #[.int .u16 0, .slice none 0 0, .int .u64 0, .int .u64 0], .bool false, .int .i64 0]) ∧ w'.heap[qb]? = some (.cells #[.int .i64 s, .int .u64 (D : Int), .int .u64 (A : Int), .int .u64 (U : Int), .bool false, .int .u16 (fe : Int), .int .u16 (us : Int), .bool ev, .bool al] 40 (0, 0)) ∧ Step (fun k => k = qb) w (fun k => k = qb) w' := by
  have XB : Hid (Fx w (w.alloc (.cells #[.int .u16 0, .slice none 0 0, .int .u64 0, .int .u64 0] 108)) F rb k M qb s D A U false fe us ev al #[.int .u16 0, .slice none 0 0, .int .u64 0, .int .u64 0]) := ⟨Step.of_below (one_box _ _), heap_alloc_new _ _, hr.below (one_box _ _), below_box hq (one_box _ _), hF, (Array.getElem?_eq_some_iff.1 hq).1, hr.lt⟩
  clear hq hr hF
  go_enter Try.func48, Try.ntmps48
  go_upto_region 1 with fail
  generalize w.alloc (.cells #[.int .u16 0, .slice none 0 0, .int .u64 0, .int .u64 0] 108) = v0 at *
  go_upto_region 2 with (go_at_call 27; refine (ready_any XB.out.2.2.2.1).mono ?_; rintro e w0 ⟨rfl, rfl⟩)
  refine wp_region_list ?_
  (refine wpList_step (fun KK hKK => ?_); go_simp; refine hKK _ _ ?_; clear hKK KK)
  refine wpList_store_row rfl 108 _ _ rfl w.heap.size #[.int .u16 0, .slice none 0 0, .int .u64 0, .int .u64 0] rfl rfl 108 #[.int .u16 0, .slice none 0 0, .int .u64 0, .int .u64 0] XB.out.2.1 infoI rfl (by simp [Value.oneCell']) ?_
  have Y : Hid (Fx w (w0.setRow w.heap.size #[.int .u16 0, .slice none 0 0, .int .u64 0, .int .u64 0]) F rb k M qb s D A U false fe us ev al #[.int .u16 0, .slice none 0 0, .int .u64 0, .int .u64 0]) := XB.out.set _
  clear XB
  generalize w0.setRow w.heap.size #[.int .u16 0, .slice none 0 0, .int .u64 0, .int .u64 0] = w9 at *
  obtain ⟨k0, k1, k2, k3⟩ := box4_facts Y.out.2.1
  go_wp2_with fail
  refine bodyPost_ret (v := .tuple #[.agg #[.int .u16 0, .slice none 0 0, .int .u64 0, .int .u64 0], .bool false, .int .i64 0]) (by simp [results, Try.results48, go_sem, k0, k1, k2, k3]) rfl ?_
  exact ⟨rfl, Y.out.2.2.2.1, Y.out.1⟩

theorem fetch_chk {w : World} {F : Nat → Prop} {rb k : Nat} {M : Nat → Nat} (hr : RamAt w F rb 8192 k (.pointer none) M) {qb : Nat} {s : Int} {D A U : Nat} {ev al : Bool} {fe us : Nat} (hq : w.heap[qb]? = some (.cells #[.int .i64 s, .int .u64 (D : Int), .int .u64 (A : Int), .int .u64 (U : Int), .bool true, .int .u16 (fe : Int), .int .u16 (us : Int), .bool ev, .bool al] 40 (0, 0))) (hF : ¬ F qb) (hD : D < 18446744073709551616) (hA : A < 18446744073709551616) (hU : U < 18446744073709551616) (hc : chkN s D A U 8192 ≠ 0) : Calls Try.prog 48 #[.pointer (some ⟨qb, 0, none⟩), .pointer (some ⟨rb, 0, none⟩)] w fun e w' => e = .returned (.tuple #[.agg #[.int .u16 0, .slice none 0 0, .int .u64 0, .int .u64 0], .bool false, .int .i64 (chkN s D A U 8192)]) ∧ w'.heap[qb]? = some (.cells #[.int .i64 s, .int .u64 (D : Int), .int .u64 (A : Int), .int .u64 (U : Int), .bool true, .int .u16 (fe : Int), .int .u16 (us : Int), .bool ev, .bool al] 40 (0, 0)) ∧ Step (fun k => k = qb) w (fun k => k = qb) w' := by
  have XB : Hid (Fx w (w.alloc (.cells #[.int .u16 0, .slice none 0 0, .int .u64 0, .int .u64 0] 108)) F rb k M qb s D A U true fe us ev al #[.int .u16 0, .slice none 0 0, .int .u64 0, .int .u64 0]) := ⟨Step.of_below (one_box _ _), heap_alloc_new _ _, hr.below (one_box _ _), below_box hq (one_box _ _), hF, (Array.getElem?_eq_some_iff.1 hq).1, hr.lt⟩
  have HC : Hid (D < 18446744073709551616 ∧ A < 18446744073709551616 ∧ U < 18446744073709551616 ∧ RamAt (w.alloc (.cells #[.int .u16 0, .slice none 0 0, .int .u64 0, .int .u64 0] 108)) F rb 8192 k (.pointer none) M) := ⟨hD, hA, hU, XB.out.2.2.1⟩
  obtain ⟨ce, hce⟩ : ∃ ce, chkN s D A U 8192 = ce := ⟨_, rfl⟩
  have HE : Hid (chkN s D A U 8192 = ce) := hce
  rw [hce] at hc ⊢
  have q1 : (ce != 0) = true := by simp [hc]
  clear hq hr hF hD hA hU hce hc
  go_enter Try.func48, Try.ntmps48
  go_upto_region 1 with fail
  generalize w.alloc (.cells #[.int .u16 0, .slice none 0 0, .int .u64 0, .int .u64 0] 108) = v0 at *
  obtain ⟨c0, c1, c2, c3, c4, c5, c6, c7, c8⟩ := box9_facts XB.out.2.2.2.1
  go_upto_region 5 with (first | (go_at_call 27; refine (ready_any XB.out.2.2.2.1).mono ?_; rintro e w0 ⟨rfl, rfl⟩) | (go_at_call 66; refine (check_any HC.out.1 HC.out.2.1 HC.out.2.2.1 HC.out.2.2.2 (by omega)).mono ?_; rintro e w1 ⟨rfl, hb1⟩; rw [HE.out]; have X1 : Hid (Fx w w1 F rb k M qb s D A U true fe us ev al #[.int .u16 0, .slice none 0 0, .int .u64 0, .int .u64 0]) := XB.out.below hb1; clear hb1))
  clear XB c0 c1 c2 c3 c4 c5 c6 c7 c8
  refine wp_region_list ?_
  (refine wpList_step (fun KK hKK => ?_); go_simp; refine hKK _ _ ?_; clear hKK KK)
  (refine wpList_step (fun KK hKK => ?_); go_simp; refine hKK _ _ ?_; clear hKK KK)
  refine wpList_store_row rfl 108 _ _ rfl w.heap.size #[.int .u16 0, .slice none 0 0, .int .u64 0, .int .u64 0] rfl rfl 108 #[.int .u16 0, .slice none 0 0, .int .u64 0, .int .u64 0] X1.out.2.1 infoI rfl (by simp [Value.oneCell']) ?_
  have Y : Hid (Fx w (w1.setRow w.heap.size #[.int .u16 0, .slice none 0 0, .int .u64 0, .int .u64 0]) F rb k M qb s D A U true fe us ev al #[.int .u16 0, .slice none 0 0, .int .u64 0, .int .u64 0]) := X1.out.set _
  clear X1
  generalize w1.setRow w.heap.size #[.int .u16 0, .slice none 0 0, .int .u64 0, .int .u64 0] = w9 at *
  obtain ⟨k0, k1, k2, k3⟩ := box4_facts Y.out.2.1
  go_wp2_with fail
  refine bodyPost_ret (v := .tuple #[.agg #[.int .u16 0, .slice none 0 0, .int .u64 0, .int .u64 0], .bool false, .int .i64 ce]) (by simp [results, Try.results48, go_sem, k0, k1, k2, k3]) rfl ?_
  exact ⟨rfl, Y.out.2.2.2.1, Y.out.1⟩
end Go.Proofs.Ytmjdnocilbnoaaa
