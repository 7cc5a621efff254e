/- The pieces of a chain. -/
import Derived.Test.YtcgjfklglckjcaaPa
namespace Go.Proofs.Ytcgjfklglckjcaa
open Go.RowKit Go.Maps
set_option linter.unusedVariables false
set_option linter.unusedSimpArgs false
set_option maxRecDepth 100000
def PcS (w : World) (b : Bool) (l : List Seg) (f n : Nat) (a : Option Addr) (L c ta tl : Nat) (V : World) (vo : Value) (i f' n' : Nat) (out : List (Nat × Nat)) : Prop := SpanIn w.heap.size V vo out ∧ out.length ≤ i ∧ pcs b l f n = (out ++ (pcs b (l.drop i) f' n').1, (pcs b (l.drop i) f' n').2) ∧ f' ≤ f ∧ n' ≤ n ∧ Below w.heap.size w V ∧ V.heap[w.heap.size]? = some (.cells #[.slice a L c, .int .u64 (ta : Int), .int .u64 (tl : Int)] 40 (0, 0))
theorem PcS.below {w : World} {b : Bool} {l : List Seg} {f n : Nat} {a : Option Addr} {L c ta tl : Nat} {V V2 : World} {vo : Value} {i f' n' : Nat} {out : List (Nat × Nat)} (h : PcS w b l f n a L c ta tl V vo i f' n' out) (hb : Below V.heap.size V V2) : PcS w b l f n a L c ta tl V2 vo i f' n' out := ⟨h.1.kept (fun g hg => hb.block g (h.1.lt g hg).2), h.2.1, h.2.2.1, h.2.2.2.1, h.2.2.2.2.1, below_to h.2.2.2.2.2.1 hb, below_box h.2.2.2.2.2.2 hb⟩
theorem SpanIn.row {B : Nat} {w : World} {v : Value} {l : List (Nat × Nat)} {q : Nat} {cc : Array Value} (h : SpanIn B w v l) (hq : v.ownBlock = some q) (hb : w.heap[q]? = some (.cells cc 40 (0, 0))) : False := by
  rcases h.2 with ⟨rfl, _⟩ | ⟨g, cap, cur, rfl, _, hg, _⟩
  · cases hq
  · have : g = q := by simpa [Value.ownBlock] using hq
    subst this
    rw [hb] at hg
    simp at hg
theorem drop_cons {l : List Seg} {i : Nat} (h : i < l.length) : l.drop i = l[i] :: l.drop (i + 1) := List.drop_eq_getElem_cons h
theorem PcS.skip {w : World} {b : Bool} {l : List Seg} {f n : Nat} {a : Option Addr} {L c ta tl : Nat} {V : World} {vo : Value} {i f' n' : Nat} {out : List (Nat × Nat)} (h : PcS w b l f n a L c ta tl V vo i f' n' out) (hi : i < l.length) (hw : ¬ (l[i]).wr = b) : PcS w b l f n a L c ta tl V vo (i + 1) f' n' out :=
  ⟨h.1, by have := h.2.1; omega, by rw [h.2.2.1, drop_cons hi, pcs_other hw], h.2.2.2⟩
theorem PcS.none {w : World} {b : Bool} {l : List Seg} {f n : Nat} {a : Option Addr} {L c ta tl : Nat} {V : World} {vo : Value} {i f' n' sk : Nat} {out : List (Nat × Nat)} (h : PcS w b l f n a L c ta tl V vo i f' n' out) (hi : i < l.length) (hw : (l[i]).wr = b) (h1 : sk = min f' (l[i]).l) (h2 : 0 = min n' ((l[i]).l - sk)) : PcS w b l f n a L c ta tl V vo (i + 1) (f' - sk) (n' - 0) out :=
  ⟨h.1, by have := h.2.1; omega, by rw [h.2.2.1, drop_cons hi, pcs_none hw h1 h2 rfl], by have := h.2.2.2.1; omega, by have := h.2.2.2.2.1; omega, h.2.2.2.2.2⟩
theorem PcS.some {w : World} {b : Bool} {l : List Seg} {f n : Nat} {a : Option Addr} {L c ta tl : Nat} {V : World} {vo vo2 : Value} {i f' n' sk tk : Nat} {out : List (Nat × Nat)} (h : PcS w b l f n a L c ta tl V vo i f' n' out) {V2 : World} (hi : i < l.length) (hw : (l[i]).wr = b) (h1 : sk = min f' (l[i]).l) (h2 : tk = min n' ((l[i]).l - sk)) (h0 : ¬ tk = 0) (hs : SpanIn w.heap.size V2 vo2 (out ++ [((l[i]).a + sk, tk)])) (hb : Below w.heap.size w V2) (hbx : V2.heap[w.heap.size]? = .some (.cells #[.slice a L c, .int .u64 (ta : Int), .int .u64 (tl : Int)] 40 (0, 0))) : PcS w b l f n a L c ta tl V2 vo2 (i + 1) (f' - sk) (n' - tk) (out ++ [((l[i]).a + sk, tk)]) :=
  ⟨hs, by have := h.2.1; simp; omega, by rw [h.2.2.1, drop_cons hi, pcs_some hw h1 h2 h0]; simp, by have := h.2.2.2.1; omega, by have := h.2.2.2.2.1; omega, hb, hbx⟩
theorem min_if (x y : Nat) : (if (y : Int) < (x : Int) then (y : Int) else (x : Int)) = ((min x y : Nat) : Int) := by split <;> omega
theorem min_if2 (x y : Nat) : (if y < x then (y : Int) else (x : Int)) = ((min x y : Nat) : Int) := by split <;> omega
set_option maxHeartbeats 4000000 in
theorem pieces_any {w : World} {F : Nat → Prop} {rb kk : Nat} {M : Nat → Nat} (hr : RamAt w F rb 8192 kk (.pointer none) M) {a : Option Addr} {L c : Nat} {l : List Seg} (h : SegIn 0 w (.slice a L c) l) (hl : l.length ≤ 1000) (hok : ∀ s ∈ l, SegOk s) (ta tl : Nat) (b : Bool) (f n : Nat) (hf : f < 18446744073709551616) (hn : n < 18446744073709551616) :
    Calls Try.prog 45 #[.agg #[.slice a L c, .int .u64 (ta : Int), .int .u64 (tl : Int)], .pointer (some ⟨rb, 0, none⟩), .bool b, .int .u64 (f : Int), .int .u64 (n : Int)] w fun e w' => Below w.heap.size w w' ∧ ((roomB b l f n = false ∧ e = .returned (.tuple #[.slice none 0 0, .bool false])) ∨ (roomB b l f n = true ∧ ∃ vo, e = .returned (.tuple #[vo, .bool true]) ∧ SpanIn w.heap.size w' vo (pcs b l f n).1)) := by
  obtain ⟨i0, hi0, hz0, hz1, hz2⟩ := info_parts Try.info38
  have hLl : L = l.length := by
    obtain ⟨a2, c2, h⟩ := h.form
    simp only [Value.slice.injEq] at h
    exact h.2.1
  have h2 := heap_alloc_new w (.cells #[.slice a L c, .int .u64 (ta : Int), .int .u64 (tl : Int)] 40)
  have hb : Below w.heap.size w (w.alloc (.cells #[.slice a L c, .int .u64 (ta : Int), .int .u64 (tl : Int)] 40)) := (Below.refl _ _).alloc (Nat.le_refl _) _
  have XB : Hid (PcS w b l f n a L c ta tl (w.alloc (.cells #[.slice a L c, .int .u64 (ta : Int), .int .u64 (tl : Int)] 40)) (.slice none 0 0) 0 f n []) := ⟨⟨rfl, .inl ⟨rfl, rfl⟩⟩, Nat.le_refl _, rfl, Nat.le_refl _, Nat.le_refl _, hb, h2⟩
  have HS : Hid (SegIn 0 w (.slice a L c) l ∧ L = l.length ∧ l.length ≤ 1000 ∧ ∀ s ∈ l, SegOk s) := ⟨h, hLl, hl, hok⟩
  have HR : Hid (RamAt w F rb 8192 kk (.pointer none) M) := hr
  have HFN : Hid (f < 18446744073709551616 ∧ n < 18446744073709551616) := ⟨hf, hn⟩
  clear h hLl hl hok h2 hb hr hf hn
  go_enter Try.func45, Try.ntmps45
  go_upto_region 1 with fail
  obtain ⟨p0, p1, p2⟩ := box3_facts XB.out.2.2.2.2.2.2
  generalize w.alloc (.cells #[.slice a L c, .int .u64 (ta : Int), .int .u64 (tl : Int)] 40) = v0 at *
  go_wp2_with fail
  go_loopw [3, 4, 12, 21] (fun vf vn vo x wr => ∃ (i f' n' : Nat) (out : List (Nat × Nat)), i ≤ L ∧ x = .int .i64 (i : Int) ∧ vf = .int .u64 (f' : Int) ∧ vn = .int .u64 (n' : Int) ∧ PcS w b l f n a L c ta tl wr vo i f' n' out) (fun _ _ _ x _ => L - (intOf x).toNat)
  case atStart => exact ⟨0, f, n, [], Nat.zero_le _, rfl, rfl, rfl, XB.out⟩
  case round =>
    obtain ⟨i, f', n', out, hi, rfl, rfl, rfl, hx⟩ := hrel
    obtain ⟨ao, co, hvo⟩ := hx.1.form
    subst hvo
    obtain ⟨lo, hlo⟩ : ∃ lo, out.length = lo := ⟨_, rfl⟩
    rw [hlo] at hx ⊢
    have XR : Hid (PcS w b l f n a L c ta tl wr (.slice ao lo co) i f' n' out ∧ out.length = lo) := ⟨hx, hlo⟩
    clear hx hlo XB p0 p1 p2
    obtain ⟨p0, p1, p2⟩ := box3_facts XR.out.1.2.2.2.2.2.2
    by_cases hlt : i < L
    case neg =>
      have h1 : ¬ (i : Int) < (L : Int) := by omega
      have hil : i = l.length := by have := HS.out.2.1; omega
      have hp := XR.out.1.2.2.1
      rw [hil, List.drop_length] at hp
      have hp2 : pcs b l f n = (out, f', n') := by rw [hp]; simp [pcs]
      have HP : Hid (pcs b l f n = (out, f', n')) := hp2
      clear hlt hi hp hp2 hil
      by_cases hz : f' = 0 ∧ n' = 0
      · obtain ⟨rfl, rfl⟩ := hz
        go_wp2_with fail
        refine bodyPost_ret (v := .tuple #[.slice ao lo co, .bool true]) (by simp [results, Try.results45, go_sem]) rfl ?_
        refine ⟨XR.out.1.2.2.2.2.2.1, .inr ⟨(room_iff b l f n).2 (by rw [HP.out]), _, rfl, ?_⟩⟩
        rw [HP.out]
        exact XR.out.1.1
      · have HRB : Hid (roomB b l f n = false) := by
          show roomB b l f n = false
          cases hrb : roomB b l f n with
          | false => rfl
          | true =>
            have := (room_iff b l f n).1 hrb
            rw [HP.out] at this
            simp only [Prod.mk.injEq] at this
            exact absurd this hz
        by_cases hf0 : f' = 0
        · have g1 : (0 : Int) < (n' : Int) := by omega
          subst hf0
          clear hz
          go_wp2_with fail
          refine bodyPost_ret (v := .tuple #[.slice none 0 0, .bool false]) (by simp [results, Try.results45, go_sem]) rfl ?_
          exact ⟨XR.out.1.2.2.2.2.2.1, .inl ⟨HRB.out, rfl⟩⟩
        · have g1 : (0 : Int) < (f' : Int) := by omega
          clear hz
          go_wp2_with fail
          refine bodyPost_ret (v := .tuple #[.slice none 0 0, .bool false]) (by simp [results, Try.results45, go_sem]) rfl ?_
          exact ⟨XR.out.1.2.2.2.2.2.1, .inl ⟨HRB.out, rfl⟩⟩
    case pos =>
      have h1 : (i : Int) < (L : Int) := by omega
      have hil : i < l.length := by have := HS.out.2.1; omega
      obtain ⟨g, c', hsl, hcl⟩ := HS.out.1.cells (by omega)
      simp only [Value.slice.injEq] at hsl
      obtain ⟨rfl, -, rfl⟩ := hsl
      have hgl : g < w.heap.size := (HS.out.1.lt g rfl).2
      obtain ⟨x1, y1, z1⟩ := hcl i hil
      have x2 := (XR.out.1.2.2.2.2.2.1.cell (p := ⟨g, i * 3, none⟩) hgl).trans x1
      have y2 := (XR.out.1.2.2.2.2.2.1.cell (p := ⟨g, i * 3 + 1, none⟩) hgl).trans y1
      have z2 := (XR.out.1.2.2.2.2.2.1.cell (p := ⟨g, i * 3 + 2, none⟩) hgl).trans z1
      have hso := HS.out.2.2.2 _ (List.getElem_mem hil)
      obtain ⟨sa, hsa⟩ : ∃ sa, (l[i]).a = sa := ⟨_, rfl⟩
      obtain ⟨sl, hsl⟩ : ∃ sl, (l[i]).l = sl := ⟨_, rfl⟩
      obtain ⟨sw, hsw⟩ : ∃ sw, (l[i]).wr = sw := ⟨_, rfl⟩
      rw [hsa] at x2
      rw [hsl] at y2
      rw [hsw] at z2
      have HQ : Hid (∃ hil : i < l.length, (l[i]).a = sa ∧ (l[i]).l = sl ∧ (l[i]).wr = sw) := ⟨hil, hsa, hsl, hsw⟩
      have hin := in_len hso.i
      rw [hsa, hsl] at hin
      have HIN : Hid (sl ≤ 8192 ∧ 2147483648 ≤ sa ∧ sa + sl ≤ 2147491840) := hin
      have HLT : Hid (i < L ∧ L ≤ 1000) := ⟨hlt, by have := HS.out.2; omega⟩
      have hi6 : i ≤ 1000 := by have := HLT.out; omega
      clear x1 y1 z1 hcl hso hsa hsl hsw hgl hin hlt hi hil
      go_upto_region 5 with fail
      have X1 : Hid (PcS w b l f n (some ⟨g, 0, none⟩) L c ta tl (wr.alloc (.cells #[.int .u64 (sa : Int), .int .u64 (sl : Int), .bool sw] 52)) (.slice ao lo co) i f' n' out ∧ (wr.alloc (.cells #[.int .u64 (sa : Int), .int .u64 (sl : Int), .bool sw] 52)).heap[wr.heap.size]? = some (.cells #[.int .u64 (sa : Int), .int .u64 (sl : Int), .bool sw] 52 (0, 0))) := ⟨XR.out.1.below ((Below.refl _ _).alloc (Nat.le_refl _) _), heap_alloc_new _ _⟩
      have HLO : Hid (out.length = lo) := XR.out.2
      clear XR x2 y2 z2 p0 p1 p2
      generalize wr.alloc (.cells #[.int .u64 (sa : Int), .int .u64 (sl : Int), .bool sw] 52) = w1 at *
      generalize wr.heap.size = q at *
      obtain ⟨t0, t1, t2⟩ := box3_facts X1.out.2
      by_cases hwb : sw = b
      case neg =>
        have hne : (sw == b) = false := by simp [hwb]
        go_wp2_with fail
        go_roundw
        case rel => exact ⟨i + 1, f', n', out, HLT.out.1, by go_num, rfl, rfl, X1.out.1.skip HQ.out.1 (by rw [HQ.out.2.2.2]; exact hwb)⟩
        case measure => simp [intOf]; have := HLT.out.1; omega
      have hne : (sw == b) = true := by simp [hwb]
      have HWB : Hid (sw = b) := hwb
      clear hwb
      obtain ⟨sk, hsk⟩ : ∃ sk, sk = min f' sl := ⟨_, rfl⟩
      obtain ⟨df, hdf⟩ : ∃ df, df = sl - sk := ⟨_, rfl⟩
      obtain ⟨tk, htk⟩ : ∃ tk, tk = min n' df := ⟨_, rfl⟩
      have m1 : (if (sl : Int) < (f' : Int) then (sl : Int) else (f' : Int)) = (sk : Int) := by rw [hsk]; exact min_if f' sl
      have m2 : (if sl < f' then (sl : Int) else (f' : Int)) = (sk : Int) := by rw [hsk]; exact min_if2 f' sl
      have m3 : IntKind.u64.wrap ((sl : Int) - (sk : Int)) = (df : Int) := by have := HIN.out; rw [wrap_u64]; omega
      have m4 : (if (df : Int) < (n' : Int) then (df : Int) else (n' : Int)) = (tk : Int) := by rw [htk]; exact min_if n' df
      have m5 : (if df < n' then (df : Int) else (n' : Int)) = (tk : Int) := by rw [htk]; exact min_if2 n' df
      have HF2 : Hid (f' < 18446744073709551616 ∧ n' < 18446744073709551616) := ⟨Nat.lt_of_le_of_lt X1.out.1.2.2.2.1 HFN.out.1, Nat.lt_of_le_of_lt X1.out.1.2.2.2.2.1 HFN.out.2⟩
      have m6 : IntKind.u64.wrap ((f' : Int) - (sk : Int)) = ((f' - sk : Nat) : Int) := by have := HF2.out.1; rw [wrap_u64]; omega
      have m7 : IntKind.u64.wrap ((n' : Int) - (tk : Int)) = ((n' - tk : Nat) : Int) := by have := HF2.out.2; rw [wrap_u64]; omega
      have HK : Hid (sk = min f' sl ∧ tk = min n' (sl - sk)) := ⟨hsk, hdf ▸ htk⟩
      obtain ⟨f2, hf2⟩ : ∃ f2, f' - sk = f2 := ⟨_, rfl⟩
      obtain ⟨n2, hn2⟩ : ∃ n2, n' - tk = n2 := ⟨_, rfl⟩
      rw [hf2] at m6
      rw [hn2] at m7
      obtain ⟨x, hx⟩ : ∃ x, x = sa + sk := ⟨_, rfl⟩
      have m8 : IntKind.u64.wrap ((sa : Int) + (sk : Int)) = (x : Int) := by have := HIN.out; rw [wrap_u64]; omega
      have HX : Hid (x = sa + sk ∧ f' - sk = f2 ∧ n' - tk = n2 ∧ sk + tk ≤ sl) := ⟨hx, hf2, hn2, by omega⟩
      clear hsk hdf htk hf2 hn2 hx
      by_cases htz : tk = 0
      case pos =>
        have e0 : ((tk : Int) == 0) = true := by simp [htz]
        have HZ : Hid (tk = 0) := htz
        clear htz
        go_wp2_with fail
        go_roundw
        case rel => exact ⟨i + 1, f2, n2, out, HLT.out.1, by go_num, rfl, rfl, by
          have hh := HK.out.2
          rw [HZ.out] at hh
          have := X1.out.1.none (sk := sk) HQ.out.1 (by rw [HQ.out.2.2.2]; exact HWB.out) (by rw [HQ.out.2.2.1]; exact HK.out.1) (by rw [HQ.out.2.2.1]; exact hh)
          rw [← HX.out.2.1, ← HX.out.2.2.1, HZ.out]
          exact this⟩
        case measure => simp [intOf]; have := HLT.out.1; omega
      have e0 : ((tk : Int) == 0) = false := by simp; omega
      have HZ : Hid (¬ tk = 0) := htz
      clear htz
      go_upto_region 12 with fail
      have hb2 : Below w1.heap.size w1 (w1.alloc (.cells #[.int .u64 (x : Int), .int .u64 (tk : Int)] 38)) := (Below.refl _ _).alloc (Nat.le_refl _) _
      have X2 : Hid (PcS w b l f n (some ⟨g, 0, none⟩) L c ta tl (w1.alloc (.cells #[.int .u64 (x : Int), .int .u64 (tk : Int)] 38)) (.slice ao lo co) i f' n' out ∧ (w1.alloc (.cells #[.int .u64 (x : Int), .int .u64 (tk : Int)] 38)).heap[w1.heap.size]? = some (.cells #[.int .u64 (x : Int), .int .u64 (tk : Int)] 38 (0, 0))) := ⟨X1.out.1.below hb2, heap_alloc_new _ _⟩
      clear hb2 X1 t0 t1 t2
      generalize w1.alloc (.cells #[.int .u64 (x : Int), .int .u64 (tk : Int)] 38) = w2 at *
      generalize w1.heap.size = q2 at *
      obtain ⟨t0, t1, _, _⟩ := box_facts X2.out.2
      have K55 : Hid (∀ V, Below w.heap.size w V → Calls Try.prog 55 #[.pointer (some ⟨rb, 0, none⟩), .int .u64 (x : Int), .int .u64 (tk : Int)] V fun e w' => e = .returned (.bool true) ∧ w' = V) := by
        intro V hV
        have h1 := HIN.out
        have h2 := HX.out
        have := has_any (HR.out.below hV) (by omega) x tk (by omega) (by omega)
        have hin : inB (x : Int) (tk : Int) 2147483648 ((8192 : Nat) : Int) = true := by
          simp only [inB, Bool.and_eq_true, decide_eq_true_iff]
          omega
        rw [hin] at this
        exact this
      go_upto_region 14 with (go_at_call 55; refine (K55.out _ X2.out.1.2.2.2.2.2.1).mono ?_; rintro e w3 ⟨rfl, hw⟩; rw [hw]; clear hw w3)
      clear K55 m1 m2 m3 m4 m5 m6 m7 m8
      refine wp_region_list ?_
      (refine wpList_step (fun KK hKK => ?_); go_simp; refine hKK _ _ ?_; clear hKK KK)
      (refine wpList_step (fun KK hKK => ?_); go_simp; refine hKK _ _ ?_; clear hKK KK)
      (refine wpList_step (fun KK hKK => ?_); go_simp; refine hKK _ _ ?_; clear hKK KK)
      have hb3 : Below w2.heap.size w2 (w2.alloc (.cells #[.int .u64 (x : Int), .int .u64 (tk : Int)] 38)) := (Below.refl _ _).alloc (Nat.le_refl _) _
      have X3 : Hid (PcS w b l f n (some ⟨g, 0, none⟩) L c ta tl (w2.alloc (.cells #[.int .u64 (x : Int), .int .u64 (tk : Int)] 38)) (.slice ao lo co) i f' n' out) := X2.out.1.below hb3
      have HN3 : Hid (∀ j u, [Value.int .u64 (x : Int), .int .u64 (tk : Int)][j]? = some u → (w2.alloc (.cells #[.int .u64 (x : Int), .int .u64 (tk : Int)] 38)).cell? ((⟨w2.heap.size, 0, none⟩ : Addr).add j) = some u) := two_new w2 (.int .u64 (x : Int)) (.int .u64 (tk : Int)) 38
      clear hb3 X2 t0 t1
      generalize w2.alloc (.cells #[.int .u64 (x : Int), .int .u64 (tk : Int)] 38) = w3 at *
      generalize w2.heap.size = q3 at *
      refine wpList_append_own_at w3 rfl _ _ 54 rfl w.heap.size 38 i0 (.agg #[.int .u64 0, .int .u64 0]) 2 16 Try.underlying54 hi0 hz0 hz1 hz2 rfl (by decide) (.slice ao lo co) lo (spanRow out) rfl (by have := X3.out.1; unfold SpanIn at this; rw [HLO.out] at this; exact this) ⟨q3, 0, none⟩ 1 1 [.int .u64 (x : Int), .int .u64 (tk : Int)] rfl rfl HN3.out (by intro u hu; simp at hu; rcases hu with rfl | rfl <;> rfl) (by have := X3.out.2.1; have := HLO.out; unfold maxLen; omega) (by have := X3.out.2.1; have := HLO.out; omega) X3.out.2.2.2.2.2.1.size ?_
      intro v' w4 hown hgrow hnil hat
      have hbw : Below w.heap.size w w4 := Below.grown X3.out.2.2.2.2.2.1 hgrow X3.out.2.2.2.2.2.1.size (fun g hg => (X3.out.1.lt g hg).1)
      have hbx : w4.heap[w.heap.size]? = some (.cells #[.slice (some ⟨g, 0, none⟩) L c, .int .u64 (ta : Int), .int .u64 (tl : Int)] 40 (0, 0)) := (hgrow.block _ (Array.getElem?_eq_some_iff.1 X3.out.2.2.2.2.2.2).1 (fun e => by have := (X3.out.1.row e.symm X3.out.2.2.2.2.2.2); exact this)).trans X3.out.2.2.2.2.2.2
      have hsp : SpanIn w.heap.size w4 v' (out ++ [(x, tk)]) := by
        unfold SpanIn
        rw [spanRow_snoc, List.length_append, List.length_singleton, HLO.out]
        exact hown
      have X4 : Hid (PcS w b l f n (some ⟨g, 0, none⟩) L c ta tl w4 v' (i + 1) f2 n2 (out ++ [(x, tk)])) := by
        have := X3.out.some (vo2 := v') (V2 := w4) (sk := sk) (tk := tk) HQ.out.1 (by rw [HQ.out.2.2.2]; exact HWB.out) (by rw [HQ.out.2.2.1]; exact HK.out.1) (by rw [HQ.out.2.2.1]; exact HK.out.2) HZ.out (by rw [HQ.out.2.1, ← HX.out.1]; exact hsp) hbw hbx
        rw [HQ.out.2.1, ← HX.out.1, HX.out.2.1, HX.out.2.2.1] at this
        exact this
      clear hbw hbx hsp hown hgrow hnil hat X3
      go_wp2_with fail
      go_roundw
      case rel => exact ⟨i + 1, f2, n2, out ++ [(x, tk)], HLT.out.1, by go_num, rfl, rfl, X4.out⟩
      case measure => simp [intOf]; have := HLT.out.1; omega
end Go.Proofs.Ytcgjfklglckjcaa
