/- Texts put together. -/
import Derived.Test.YtlkhjekakbckmaaYd
import Derived.Laws.AppendOwn
import Derived.Lib.BufferWrite
/- Layer 19: Use. -/
namespace Go.Proofs.Ytlkhjekakbckmaa
open Go.RowKit Go.Maps
set_option linter.unusedVariables false
set_option linter.unusedSimpArgs false
set_option maxRecDepth 100000
theorem endN_le (x : Nat) : endN x ≤ 1 := by unfold endN; split <;> omega
theorem doK_le {kd sec R W : Nat} {fo nm : Nat → Nat} {K : D.Dk} (hK : K.Ok) (hm : ∀ i, nm i ≤ 255) : (doK kd sec R W fo nm K).n ≤ W ∧ (doK kd sec R W fo nm K).st ≤ 255 ∧ ∀ i, (doK kd sec R W fo nm K).g i ≤ 255 := by
  unfold doK
  repeat' split
  all_goals first
    | exact ⟨Nat.le_refl _, Nat.le_of_ble_eq_true rfl, fun i => hK.le _⟩
    | exact ⟨Nat.zero_le _, Nat.le_of_ble_eq_true rfl, fun i => Nat.zero_le _⟩
    | exact ⟨Nat.zero_le _, Nat.le_trans (endN_le _) (by decide), fun i => Nat.zero_le _⟩
    | (rename_i h; exact ⟨Nat.le_of_eq h.2.symm, Nat.le_of_ble_eq_true rfl, hm⟩)
section
variable {sz : Nat} {w : World} {bb gb rb db bm kk n L c ta tl R W : Nat} {a : Option Addr} {m : Nat → Nat} {lv : Value} {F : Nat → Prop} {M : Nat → Nat} {l : List Seg} {K : D.Dk} {rows : List Value}
theorem use_no (D0 : Dv sz bb gb rb db bm m w kk F M K lv n rows) (S0 : Sg db bm bb w F (.slice a L c) l) (hl : l.length ≤ 1000) (hok : ∀ s ∈ l, SegOk sz s) (hz : sz ≤ 8192) {rs ws : Nat} (h1 : sizeN false l = rs) (h2 : sizeN true l = ws) (hno : rs < 16 ∨ ws < 1) : Calls Try.prog 15 #[.pointer (some ⟨bb, 0, none⟩), .agg #[.slice a L c, .int .u64 (ta : Int), .int .u64 (tl : Int)]] w fun e w' => e = .returned (.tuple #[.int .u32 0, .bool true]) ∧ Below w.heap.size w w' := by
  have hb : Below w.heap.size w (w.alloc (.cells #[.slice a L c, .int .u64 (ta : Int), .int .u64 (tl : Int)] 44)) := (Below.refl _ _).alloc (Nat.le_refl _) _
  have X : Hid ((w.alloc (.cells #[.slice a L c, .int .u64 (ta : Int), .int .u64 (tl : Int)] 44)).heap[w.heap.size]? = some (.cells #[.slice a L c, .int .u64 (ta : Int), .int .u64 (tl : Int)] 44 (0, 0)) ∧ Below w.heap.size w (w.alloc (.cells #[.slice a L c, .int .u64 (ta : Int), .int .u64 (tl : Int)] 44))) := ⟨heap_alloc_new w _, hb⟩
  have HC : Hid (∀ V, Below w.heap.size w V → Calls Try.prog 51 #[.pointer (some ⟨bb, 0, none⟩), .agg #[.slice a L c, .int .u64 (ta : Int), .int .u64 (tl : Int)]] V fun e w' => e = .returned (.tuple #[.agg #[.int .u32 0, .int .u64 0, .slice none 0 0, .int .u64 0, .int .u64 0, .int .u64 0, .int .u64 0], .bool false]) ∧ Below V.heap.size V w') := fun V hV => request_no (own_kept S0.row (fun g hg => hV.block g (World.ownsRow.lt S0.row g hg).2)) hl hok h1 h2 hno
  clear hb D0 S0 hl hok hz h1 h2 hno
  go_enter Try.func15, Try.ntmps15
  go_upto_region 1 with fail
  generalize w.alloc (.cells #[.slice a L c, .int .u64 (ta : Int), .int .u64 (tl : Int)] 44) = w0 at *
  obtain ⟨p0, p1, p2⟩ := box3_facts X.out.1
  go_upto_region 2 with (go_at_call 51; refine (HC.out _ X.out.2).mono ?_; rintro e w1 ⟨rfl, hb⟩; have X1 : Hid (Below w.heap.size w w1) := below_to X.out.2 hb; clear hb X p0 p1 p2 HC)
  go_wp2_with fail
  go_ret2
  exact ⟨rfl, X1.out.alloc X1.out.size _⟩
theorem Dv.keep {V V' : World} {la : Option Addr} {lc g cap : Nat} {ds : List Value} (h : Dv sz bb gb rb db bm m V kk F M K (.slice la n lc) n rows) (hk : BlkAt V' bb gb rb db m (.slice (some ⟨g, 0, none⟩) (n + 1) cap) ∧ V'.ownsRow 0 60 4 (.slice (some ⟨g, 0, none⟩) (n + 1) cap) (n + 1) (rows ++ ds) ∧ g ≠ bb ∧ ((Value.slice la n lc).ownBlock = some g ∨ V.heap.size ≤ g) ∧ Below 0 V V' ∧ ∀ k, k < V.heap.size → k ≠ bb → (Value.slice la n lc).ownBlock ≠ some k → V'.heap[k]? = V.heap[k]?) : Dv sz bb gb rb db bm m V' kk F M K (.slice (some ⟨g, 0, none⟩) (n + 1) cap) (n + 1) (rows ++ ds) := by
  obtain ⟨k1, k2, k3, k4, k5, k6⟩ := hk
  have nl : ∀ k, Oth db bm bb F k ∨ ¬ Oth db bm bb F k := fun _ => Classical.em _
  have no : ∀ k, ¬ Oth db bm bb F k → (Value.slice la n lc).ownBlock ≠ some k := fun k hk e => hk (h.lg k e)
  have l1 := h.disk.lt
  refine ⟨h.ram.kept k5.size (fun k hf => k6 k (h.ram.lt k hf) (fun e => h.f3 (e ▸ hf)) (no k (fun ho => ho.f hf))), ⟨(k6 db l1.1 h.n1.symm (no db (fun ho => ho.d rfl))).trans h.disk.1, h.disk.2.1.kept (k6 bm l1.2 h.n2.symm (no bm (fun ho => ho.m rfl))), h.disk.2.2⟩, k1, k2, h.f1, h.f2, h.f3, h.n1, h.n2, ?_⟩
  intro g2 hg2
  simp only [Value.ownBlock, Option.some.injEq] at hg2
  subst hg2
  rcases k4 with e | e
  · exact h.lg g e
  · exact ⟨fun hf => by have := h.ram.lt _ hf; omega, by omega, by omega, k3⟩
set_option maxHeartbeats 2000000 in
theorem use_yes (D0 : Dv sz bb gb rb db bm m w kk F M K lv n rows) (S0 : Sg db bm bb w F (.slice a L c) l) (hl : l.length ≤ 1000) (hok : ∀ s ∈ l, SegOk sz s) (hz : sz ≤ 8192) (h1 : sizeN false l = 16 + R) (h2 : sizeN true l = W + 1) (hR8 : R ≤ 8000) (hW8 : W ≤ 7999) (hkk : kk ≤ 800000) (hn : n ≤ 4000) (hm : ∀ i, m i ≤ 255) {kd sec : Nat} (hkd : h256 (fun i => (gatL M l 0 16).getD i 0) 4 0 = kd) (hsec : h256 (fun i => (gatL M l 0 16).getD (8 + i) 0) 8 0 = sec) {un ust : Nat} {ug : Nat → Nat} {UK : D.Dk} (hU : doK kd sec R W (fun i => (gatL M l 16 R).getD i 0) m K = ⟨un, ug, ust, UK⟩) :
    Calls Try.prog 15 #[.pointer (some ⟨bb, 0, none⟩), .agg #[.slice a L c, .int .u64 (ta : Int), .int .u64 (tl : Int)]] w fun e w' => e = .returned (.tuple #[.int .u32 ((un + 1 : Nat) : Int), .bool true]) ∧ ∃ F' g cap, Dv sz bb gb rb db bm m w' (kk + un + 1) F' (layS (fun _ => ust) (scaL l W 1) 0 (layS ug (scaL l 0 un) 0 M)) UK (.slice (some ⟨g, 0, none⟩) (n + 1) cap) (n + 1) (rows ++ [.int .u32 (kd : Int), .int .u64 (sec : Int), .int .u8 (ust : Int), .int .u32 ((un + 1 : Nat) : Int)]) ∧ Below 0 w w' ∧ (∀ k, k < w.heap.size → Oth db bm bb F k → lv.ownBlock ≠ some k → w'.heap[k]? = w.heap[k]?) ∧ (∀ k, F' k → F k ∨ w.heap.size ≤ k) ∧ (lv.ownBlock = some g ∨ w.heap.size ≤ g) := by
  obtain ⟨la, lc, rfl⟩ : ∃ la lc, lv = .slice la n lc := by
    rcases D0.log.2 with ⟨h1, h2⟩ | ⟨g, cap, cur, h1, _⟩
    · exact ⟨_, _, by rw [h1, h2]⟩
    · exact ⟨_, _, h1⟩
  have hub := doK_le (kd := kd) (sec := sec) (R := R) (W := W) (fo := (fun i => (gatL M l 16 R).getD i 0)) (nm := m) D0.disk.2.2 hm
  rw [hU] at hub
  have hsl : sec < 18446744073709551616 := by rw [← hsec]; exact h256_8 (fun i => gat_le D0.ram.le l 0 16 (8 + i))
  have hb : Below w.heap.size w (w.alloc (.cells #[.slice a L c, .int .u64 (ta : Int), .int .u64 (tl : Int)] 44)) := (Below.refl _ _).alloc (Nat.le_refl _) _
  have X0 : Hid (Dv sz bb gb rb db bm m (w.alloc (.cells #[.slice a L c, .int .u64 (ta : Int), .int .u64 (tl : Int)] 44)) kk F M K (.slice la n lc) n rows ∧ Sg db bm bb (w.alloc (.cells #[.slice a L c, .int .u64 (ta : Int), .int .u64 (tl : Int)] 44)) F (.slice a L c) l ∧ ((w.alloc (.cells #[.slice a L c, .int .u64 (ta : Int), .int .u64 (tl : Int)] 44)).heap[w.heap.size]? = some (.cells #[.slice a L c, .int .u64 (ta : Int), .int .u64 (tl : Int)] 44 (0, 0)) ∧ Oth db bm bb F w.heap.size) ∧ Fr db bm bb w F (w.alloc (.cells #[.slice a L c, .int .u64 (ta : Int), .int .u64 (tl : Int)] 44)) F ∧ Below w.heap.size w (w.alloc (.cells #[.slice a L c, .int .u64 (ta : Int), .int .u64 (tl : Int)] 44))) := ⟨D0.below hb, S0.fr (Fr.below hb), ⟨heap_alloc_new w _, ⟨fun hf => by have := D0.ram.lt _ hf; omega, by have := D0.disk.lt; omega, by have := D0.disk.lt; omega, by have := (Array.getElem?_eq_some_iff.1 D0.blk).1; omega⟩⟩, Fr.below hb, hb⟩
  have HC : Hid (∀ V, Below w.heap.size w V → Calls Try.prog 51 #[.pointer (some ⟨bb, 0, none⟩), .agg #[.slice a L c, .int .u64 (ta : Int), .int .u64 (tl : Int)]] V fun e w' => e = .returned (.tuple #[.agg (rqC kd sec a L c ta tl R W), .bool true]) ∧ Below V.heap.size V w') := fun V hV => by
    have := request_yes (ta := ta) (tl := tl) (D0.below hV).blk (Array.getElem?_eq_some_iff.1 (D0.below hV).blk).1 (S0.fr (Fr.below hV)).row hl hok hz (D0.below hV).ram h1 h2 ⟨by omega, by omega⟩ ⟨by omega, by omega⟩ rfl hkd hsec
    rwa [show 16 + R - 16 = R from by omega, show W + 1 - 1 = W from by omega] at this
  have HD : Hid (∀ V, Dv sz bb gb rb db bm m V kk F M K (.slice la n lc) n rows → Sg db bm bb V F (.slice a L c) l → Calls Try.prog 52 #[.pointer (some ⟨bb, 0, none⟩), .agg (rqC kd sec a L c ta tl R W)] V fun e w' => ∃ v st, e = .returned (.tuple #[v, .int .u8 st]) ∧ st = (ust : Int) ∧ ReadsF F w' v un ug ∧ D.DiskAt w' db bm UK ∧ D.Two db bm V w') := fun V d s => by
    have := do_any (kd := kd) (sec := sec) (R := R) (W := W) (c := c) (ta := ta) (tl := tl) d.blk d.disk d.ram s.row hl hok hz d.f3 ⟨d.n1, d.n2⟩ hsl h1.symm hR8 (by omega)
    rwa [hU] at this
  have HL : Hid (l.length ≤ 1000 ∧ (∀ s ∈ l, SegOk sz s) ∧ sz ≤ 8192 ∧ un ≤ W ∧ ust ≤ 255 ∧ (∀ i, ug i ≤ 255) ∧ W ≤ 7999 ∧ kk ≤ 800000 ∧ n ≤ 4000 ∧ sizeN true l = W + 1) := ⟨hl, hok, hz, hub.1, hub.2.1, hub.2.2, hW8, hkk, hn, h2⟩
  have HQ : Hid (n = n ∧ w.heap.size = w.heap.size) := ⟨rfl, rfl⟩
  have x1 : IntKind.i64.wrap ((un : Int) + 1) = ((un + 1 : Nat) : Int) := by have : un ≤ W := hub.1; simp [IntKind.wrap, IntKind.signed, IntKind.bits]; omega
  have x2 : IntKind.u32.wrap ((un + 1 : Nat) : Int) = ((un + 1 : Nat) : Int) := by have : un ≤ W := hub.1; simp [IntKind.wrap, IntKind.signed, IntKind.bits]; omega
  clear hub hsl hb D0 S0 hl hok hz h1 h2 hR8 hW8 hkk hn hm hkd hsec hU HQ
  generalize hucr : un + 1 = uc at *
  go_enter Try.func15, Try.ntmps15
  go_upto_region 1 with fail
  generalize w.alloc (.cells #[.slice a L c, .int .u64 (ta : Int), .int .u64 (tl : Int)] 44) = w0 at *
  obtain ⟨p0, p1, p2⟩ := box3_facts X0.out.2.2.1.1
  go_upto_region 2 with (go_at_call 51; refine (HC.out _ X0.out.2.2.2.2).mono ?_; rintro e w1 ⟨rfl, hb1⟩)
  have hb2 : Below w1.heap.size w1 (w1.alloc (.cells (rqC kd sec a L c ta tl R W) 138)) := (Below.refl _ _).alloc (Nat.le_refl _) _
  have hf := (Fr.below (db := db) (bm := bm) (bb := bb) (F := F) hb1).trans (Fr.below hb2)
  have X1 : Hid (Dv sz bb gb rb db bm m (w1.alloc (.cells (rqC kd sec a L c ta tl R W) 138)) kk F M K (.slice la n lc) n rows ∧ Sg db bm bb (w1.alloc (.cells (rqC kd sec a L c ta tl R W) 138)) F (.slice a L c) l ∧ ((w1.alloc (.cells (rqC kd sec a L c ta tl R W) 138)).heap[w.heap.size]? = some (.cells #[.slice a L c, .int .u64 (ta : Int), .int .u64 (tl : Int)] 44 (0, 0)) ∧ Oth db bm bb F w.heap.size) ∧ ((w1.alloc (.cells (rqC kd sec a L c ta tl R W) 138)).heap[w1.heap.size]? = some (.cells (rqC kd sec a L c ta tl R W) 138 (0, 0)) ∧ Oth db bm bb F w1.heap.size) ∧ Fr db bm bb w F (w1.alloc (.cells (rqC kd sec a L c ta tl R W) 138)) F) := ⟨(X0.out.1.below hb1).below hb2, X0.out.2.1.fr hf, hf.box X0.out.2.2.1.1 X0.out.2.2.1.2, ⟨heap_alloc_new w1 _, ⟨fun hf => by have := X0.out.1.ram.lt _ hf; have := hb1.size; omega, by have := X0.out.1.disk.lt; have := hb1.size; omega, by have := X0.out.1.disk.lt; have := hb1.size; omega, by have := (Array.getElem?_eq_some_iff.1 X0.out.1.blk).1; have := hb1.size; omega⟩⟩, X0.out.2.2.2.1.trans hf⟩
  clear hb1 hb2 hf X0 p0 p1 p2 HC
  generalize w1.alloc (.cells (rqC kd sec a L c ta tl R W) 138) = w2 at *
  generalize w1.heap.size = p at *
  have r0 := cellOf X1.out.2.2.2.1.1 0 _ rfl
  have r1 := cellOf X1.out.2.2.2.1.1 1 _ rfl
  have r2 := cellOf X1.out.2.2.2.1.1 2 _ rfl
  have r3 := cellOf X1.out.2.2.2.1.1 3 _ rfl
  have r4 := cellOf X1.out.2.2.2.1.1 4 _ rfl
  have r5 := cellOf X1.out.2.2.2.1.1 5 _ rfl
  have r6 := cellOf X1.out.2.2.2.1.1 6 _ rfl
  go_upto_region 5 with (go_at_call 52; refine (HD.out _ X1.out.1 X1.out.2.1).mono ?_; rintro e w3 ⟨v, st, rfl, rfl, hrd, hdk, htw⟩)
  obtain ⟨va, vc, rfl, _⟩ := hrd.form
  have X2 : Hid ((Dv sz bb gb rb db bm m w3 kk F M UK (.slice la n lc) n rows ∧ Sg db bm bb w3 F (.slice a L c) l ∧ (w3.heap[w.heap.size]? = some (.cells #[.slice a L c, .int .u64 (ta : Int), .int .u64 (tl : Int)] 44 (0, 0)) ∧ Oth db bm bb F w.heap.size) ∧ (w3.heap[p]? = some (.cells (rqC kd sec a L c ta tl R W) 138 (0, 0)) ∧ Oth db bm bb F p) ∧ Fr db bm bb w F w3 F) ∧ ReadsF F w3 (.slice va un vc) un ug) := ⟨⟨X1.out.1.two hdk htw, X1.out.2.1.fr (Fr.two htw), (Fr.two htw).box X1.out.2.2.1.1 X1.out.2.2.1.2, (Fr.two htw).box X1.out.2.2.2.1.1 X1.out.2.2.2.1.2, X1.out.2.2.2.2.trans (Fr.two htw)⟩, hrd⟩
  clear hrd hdk htw X1 r0 r1 r2 r3 r4 r5 r6 HD
  have Xd : Hid ((Dv sz bb gb rb db bm m w3.drew kk F M UK (.slice la n lc) n rows ∧ Sg db bm bb w3.drew F (.slice a L c) l ∧ (w3.drew.heap[w.heap.size]? = some (.cells #[.slice a L c, .int .u64 (ta : Int), .int .u64 (tl : Int)] 44 (0, 0)) ∧ Oth db bm bb F w.heap.size) ∧ (w3.drew.heap[p]? = some (.cells (rqC kd sec a L c ta tl R W) 138 (0, 0)) ∧ Oth db bm bb F p) ∧ Fr db bm bb w F w3.drew F) ∧ ReadsF F w3.drew (.slice va un vc) un ug) := ⟨⟨X2.out.1.1.below (Below.drew (Below.refl _ _)), X2.out.1.2.1.fr (Fr.below (Below.drew (Below.refl _ _))), (Fr.below (Below.drew (Below.refl _ _))).box X2.out.1.2.2.1.1 X2.out.1.2.2.1.2, (Fr.below (Below.drew (Below.refl _ _))).box X2.out.1.2.2.2.1.1 X2.out.1.2.2.2.1.2, X2.out.1.2.2.2.2.trans (Fr.below (Below.drew (Below.refl _ _)))⟩, X2.out.2⟩
  obtain ⟨p0, p1, p2⟩ := box3_facts Xd.out.1.2.2.1.1; have pm := cellOf Xd.out.1.1.blk 1 (.pointer (some ⟨rb, 0, none⟩)) rfl
  clear X2
  have HS : Hid (Calls Try.prog 53 #[.agg #[.slice a L c, .int .u64 (ta : Int), .int .u64 (tl : Int)], .pointer (some ⟨rb, 0, none⟩), .int .u64 0, .slice va un vc] w3.drew fun e w' => e = .returned (.bool (roomB true l 0 un)) ∧ ∃ F', RamAt w' F' rb sz (kk + un) (.pointer none) (layS ug (scaL l 0 un) 0 M) ∧ Step F w3.drew F' w') := by
    have hz2 := HL.out.2.2.2.2.2.2
    have hw := HL.out.2.2.2.1
    have hroom : roomB true l 0 un = true := by unfold roomB; exact decide_eq_true (by omega)
    have := scatter_any HL.out.2.2.1 Xd.out.1.1.ram (by omega) Xd.out.1.2.1.row HL.out.1 HL.out.2.1 ta tl 0 un (by decide) (by omega) ug HL.out.2.2.2.2.2.1 va vc Xd.out.2
    rw [hroom, if_pos rfl] at this
    rw [hroom]
    exact this
  go_region_held3 (fun Z => Z.cell? ⟨w.heap.size, 0, none⟩ = some (.slice a L c) ∧ Z.cell? ⟨w.heap.size, 1, none⟩ = some (.int .u64 (ta : Int)) ∧ Z.cell? ⟨w.heap.size, 2, none⟩ = some (.int .u64 (tl : Int)) ∧ Z.cell? ⟨bb, 1, none⟩ = some (.pointer (some ⟨rb, 0, none⟩))) (go_keep) (first | (go_at_call 53; refine (HS.out).mono ?_; rintro e w4 ⟨rfl, F4, hr4, hs4⟩; have X3 : Hid ((Dv sz bb gb rb db bm m w4 (kk + un) F4 (layS ug (scaL l 0 un) 0 M) UK (.slice la n lc) n rows ∧ Sg db bm bb w4 F4 (.slice a L c) l ∧ (w4.heap[w.heap.size]? = some (.cells #[.slice a L c, .int .u64 (ta : Int), .int .u64 (tl : Int)] 44 (0, 0)) ∧ Oth db bm bb F4 w.heap.size) ∧ (w4.heap[p]? = some (.cells (rqC kd sec a L c ta tl R W) 138 (0, 0)) ∧ Oth db bm bb F4 p) ∧ Fr db bm bb w F w4 F4)) := ⟨Xd.out.1.1.step hr4 hs4, Xd.out.1.2.1.fr (Fr.step hs4), (Fr.step hs4).box Xd.out.1.2.2.1.1 Xd.out.1.2.2.1.2, (Fr.step hs4).box Xd.out.1.2.2.2.1.1 Xd.out.1.2.2.2.1.2, Xd.out.1.2.2.2.2.trans (Fr.step hs4)⟩; clear hr4 hs4 p0 p1 p2 pm HS Xd; obtain ⟨p0, p1, p2⟩ := box3_facts X3.out.2.2.1.1; have pm := cellOf X3.out.1.blk 1 (.pointer (some ⟨rb, 0, none⟩)) rfl))
  clear p0 p1 p2 pm
  go_upto_region 6 with fail
  have Xe : Hid (Dv sz bb gb rb db bm m w4.drew (kk + un) F4 (layS ug (scaL l 0 un) 0 M) UK (.slice la n lc) n rows ∧ Sg db bm bb w4.drew F4 (.slice a L c) l ∧ (w4.drew.heap[w.heap.size]? = some (.cells #[.slice a L c, .int .u64 (ta : Int), .int .u64 (tl : Int)] 44 (0, 0)) ∧ Oth db bm bb F4 w.heap.size) ∧ (w4.drew.heap[p]? = some (.cells (rqC kd sec a L c ta tl R W) 138 (0, 0)) ∧ Oth db bm bb F4 p) ∧ Fr db bm bb w F w4.drew F4) := ⟨X3.out.1.below (Below.drew (Below.refl _ _)), X3.out.2.1.fr (Fr.below (Below.drew (Below.refl _ _))), (Fr.below (Below.drew (Below.refl _ _))).box X3.out.2.2.1.1 X3.out.2.2.1.2, (Fr.below (Below.drew (Below.refl _ _))).box X3.out.2.2.2.1.1 X3.out.2.2.2.1.2, X3.out.2.2.2.2.trans (Fr.below (Below.drew (Below.refl _ _)))⟩
  obtain ⟨p0, p1, p2⟩ := box3_facts Xe.out.2.2.1.1; have pm := cellOf Xe.out.1.blk 1 (.pointer (some ⟨rb, 0, none⟩)) rfl
  have r6 := cellOf Xe.out.2.2.2.1.1 6 (.int .u64 (W : Int)) rfl
  clear X3
  refine wp_region_held_drew (S := (fun Z => Z.cell? ⟨w.heap.size, 0, none⟩ = some (.slice a L c) ∧ Z.cell? ⟨w.heap.size, 1, none⟩ = some (.int .u64 (ta : Int)) ∧ Z.cell? ⟨w.heap.size, 2, none⟩ = some (.int .u64 (tl : Int)) ∧ Z.cell? ⟨bb, 1, none⟩ = some (.pointer (some ⟨rb, 0, none⟩)) ∧ Z.cell? ⟨p, 6, none⟩ = some (.int .u64 (W : Int)))) (by kernel_rfl) ⟨p0, p1, p2, pm, r6⟩ ?_
  intro hS
  generalize w4.drew = w5 at *
  refine wpAnyH_take (i := 1) (v := ?_) rfl (by kernel_rfl) (by kernel_rfl) (by kernel_rfl) (fun _ _ _ h => h) (Or.inl ⟨by kernel_rfl, ?_⟩) hS ?_
  rotate_left
  · intro w hSw; (try dsimp only at hSw); go_simp; try (with_reducible rfl)
  (try simp only [Act.put, List.getElem_toArray, List.getElem_cons_succ, List.getElem_cons_zero, List.setIfInBounds_toArray, List.set_cons_zero, List.set_cons_succ])
  refine wpAnyH_take (i := 2) (v := ?_) rfl (by kernel_rfl) (by kernel_rfl) (by kernel_rfl) (fun _ _ _ h => h) (Or.inl ⟨by kernel_rfl, ?_⟩) hS ?_
  rotate_left
  · intro w hSw; (try dsimp only at hSw); go_simp; try (with_reducible rfl)
  (try simp only [Act.put, List.getElem_toArray, List.getElem_cons_succ, List.getElem_cons_zero, List.setIfInBounds_toArray, List.set_cons_zero, List.set_cons_succ])
  refine wpAnyH_take (i := 3) (v := ?_) rfl (by kernel_rfl) (by kernel_rfl) (by kernel_rfl) (fun _ _ _ h => h) (Or.inl ⟨by kernel_rfl, ?_⟩) hS ?_
  rotate_left
  · intro w hSw; (try dsimp only at hSw); go_simp; try (with_reducible rfl)
  (try simp only [Act.put, List.getElem_toArray, List.getElem_cons_succ, List.getElem_cons_zero, List.setIfInBounds_toArray, List.set_cons_zero, List.set_cons_succ])
  refine wpAnyH_take (i := 5) (v := ?_) rfl (by kernel_rfl) (by kernel_rfl) (by kernel_rfl) (fun _ _ _ h => h) (Or.inl ⟨by kernel_rfl, ?_⟩) hS ?_
  rotate_left
  · intro w hSw; (try dsimp only at hSw); go_simp; try (with_reducible rfl)
  (try simp only [Act.put, List.getElem_toArray, List.getElem_cons_succ, List.getElem_cons_zero, List.setIfInBounds_toArray, List.set_cons_zero, List.set_cons_succ])
  refine wpAnyH_take (i := 7) (v := ?_) rfl (by kernel_rfl) (by kernel_rfl) (by kernel_rfl) (fun _ _ _ h => h) (Or.inl ⟨by kernel_rfl, ?_⟩) hS ?_
  rotate_left
  · intro w hSw; (try dsimp only at hSw); go_simp; try (with_reducible rfl)
  (try simp only [Act.put, List.getElem_toArray, List.getElem_cons_succ, List.getElem_cons_zero, List.setIfInBounds_toArray, List.set_cons_zero, List.set_cons_succ])
  refine wpAnyH_take (i := 0) (v := ?_) rfl (by kernel_rfl) (by kernel_rfl) (by kernel_rfl) (fun _ _ _ h => h) (Or.inl ⟨by kernel_rfl, ?_⟩) hS ?_
  rotate_left
  · intro w hSw; (try dsimp only at hSw); go_simp; try (with_reducible rfl)
  (try simp only [Act.put, List.getElem_toArray, List.getElem_cons_succ, List.getElem_cons_zero, List.setIfInBounds_toArray, List.set_cons_zero, List.set_cons_succ])
  refine wpAnyH_take (i := 4) (v := ?_) rfl (by kernel_rfl) (by kernel_rfl) (by kernel_rfl) (fun _ _ _ h => h) (Or.inl ⟨by kernel_rfl, ?_⟩) hS ?_
  rotate_left
  · intro w hSw; (try dsimp only at hSw); go_simp; try (with_reducible rfl)
  (try simp only [Act.put, List.getElem_toArray, List.getElem_cons_succ, List.getElem_cons_zero, List.setIfInBounds_toArray, List.set_cons_zero, List.set_cons_succ])
  refine wpAnyH_take (i := 6) (v := ?_) rfl (by kernel_rfl) (by kernel_rfl) (by kernel_rfl) (fun _ _ _ h => h) (Or.inl ⟨by kernel_rfl, ?_⟩) hS ?_
  rotate_left
  · intro w hSw; (try dsimp only at hSw); go_simp; try (with_reducible rfl)
  (try simp only [Act.put, List.getElem_toArray, List.getElem_cons_succ, List.getElem_cons_zero, List.setIfInBounds_toArray, List.set_cons_zero, List.set_cons_succ])
  refine wpAnyH_ready (rs := [8]) (by kernel_rfl) (by simp) ?_
  refine AllReadyH.cons rfl (fun K1 hK1 => ?_) AllReadyH.nil
  go_simp
  have hb6 : Below w5.heap.size w5 (w5.alloc (.cells #[.int .u8 (ust : Int)] 5)) := (Below.refl _ _).alloc (Nat.le_refl _) _
  have X6 : Hid ((Dv sz bb gb rb db bm m (w5.alloc (.cells #[.int .u8 (ust : Int)] 5)) (kk + un) F4 (layS ug (scaL l 0 un) 0 M) UK (.slice la n lc) n rows ∧ Sg db bm bb (w5.alloc (.cells #[.int .u8 (ust : Int)] 5)) F4 (.slice a L c) l ∧ ((w5.alloc (.cells #[.int .u8 (ust : Int)] 5)).heap[w.heap.size]? = some (.cells #[.slice a L c, .int .u64 (ta : Int), .int .u64 (tl : Int)] 44 (0, 0)) ∧ Oth db bm bb F4 w.heap.size) ∧ ((w5.alloc (.cells #[.int .u8 (ust : Int)] 5)).heap[p]? = some (.cells (rqC kd sec a L c ta tl R W) 138 (0, 0)) ∧ Oth db bm bb F4 p) ∧ Fr db bm bb w F (w5.alloc (.cells #[.int .u8 (ust : Int)] 5)) F4) ∧ ReadsF F4 (w5.alloc (.cells #[.int .u8 (ust : Int)] 5)) (.slice (some ⟨w5.heap.size, 0, none⟩) 1 1) 1 (fun _ => ust)) := ⟨⟨Xe.out.1.below hb6, Xe.out.2.1.fr (Fr.below hb6), (Fr.below hb6).box Xe.out.2.2.1.1 Xe.out.2.2.1.2, (Fr.below hb6).box Xe.out.2.2.2.1.1 Xe.out.2.2.2.1.2, Xe.out.2.2.2.2.trans (Fr.below hb6)⟩, .inr ⟨_, _, _, rfl, fun hf => by have := Xe.out.1.ram.lt _ hf; omega, Nat.le_refl _, by omega, fun i hi => by obtain rfl : i = 0 := (by omega); exact cellOf (heap_alloc_new w5 _) 0 _ rfl⟩⟩
  clear hb6 Xe p0 p1 p2 pm r6
  generalize w5.alloc (.cells #[.int .u8 (ust : Int)] 5) = w6 at *
  generalize w5.heap.size = nb at *
  obtain ⟨p0, p1, p2⟩ := box3_facts X6.out.1.2.2.1.1; have pm := cellOf X6.out.1.1.blk 1 (.pointer (some ⟨rb, 0, none⟩)) rfl
  have r6 := cellOf X6.out.1.2.2.2.1.1 6 (.int .u64 (W : Int)) rfl
  refine hK1.out _ _ ⟨p0, p1, p2, pm, r6⟩ (fun h6 => ?_)
  clear hK1 K1 hS p0 p1 p2 pm r6
  (try simp only [Act.put, List.getElem_toArray, List.getElem_cons_succ, List.getElem_cons_zero, List.setIfInBounds_toArray, List.set_cons_zero, List.set_cons_succ])
  have HT : Hid (Calls Try.prog 53 #[.agg #[.slice a L c, .int .u64 (ta : Int), .int .u64 (tl : Int)], .pointer (some ⟨rb, 0, none⟩), .int .u64 (W : Int), .slice (some ⟨nb, 0, none⟩) 1 1] w6 fun e w' => e = .returned (.bool (roomB true l W 1)) ∧ ∃ F', RamAt w' F' rb sz (kk + un + 1) (.pointer none) (layS (fun _ => ust) (scaL l W 1) 0 (layS ug (scaL l 0 un) 0 M)) ∧ Step F4 w6 F' w') := by
    have hz2 := HL.out.2.2.2.2.2.2
    have hw := HL.out.2.2.2.1
    have hroom : roomB true l W 1 = true := by unfold roomB; exact decide_eq_true (by omega)
    have := scatter_any HL.out.2.2.1 X6.out.1.1.ram (by omega) X6.out.1.2.1.row HL.out.1 HL.out.2.1 ta tl W 1 (by omega) (by omega) (fun _ => ust) (fun _ => HL.out.2.2.2.2.1) (some ⟨nb, 0, none⟩) 1 X6.out.2
    rw [hroom, if_pos rfl] at this
    rw [hroom]
    exact this
  refine wpAnyH_ready (rs := [9]) (by kernel_rfl) (by simp) ?_
  refine AllReadyH.cons rfl (fun K1 hK1 => ?_) AllReadyH.nil
  rw [if_pos (by kernel_rfl)]
  go_simp
  refine (HT.out).mono ?_
  rintro e w7 ⟨rfl, F7, hr7, hs7⟩
  have X7 : Hid (Dv sz bb gb rb db bm m w7 (kk + un + 1) F7 (layS (fun _ => ust) (scaL l W 1) 0 (layS ug (scaL l 0 un) 0 M)) UK (.slice la n lc) n rows ∧ Sg db bm bb w7 F7 (.slice a L c) l ∧ (w7.heap[w.heap.size]? = some (.cells #[.slice a L c, .int .u64 (ta : Int), .int .u64 (tl : Int)] 44 (0, 0)) ∧ Oth db bm bb F7 w.heap.size) ∧ (w7.heap[p]? = some (.cells (rqC kd sec a L c ta tl R W) 138 (0, 0)) ∧ Oth db bm bb F7 p) ∧ Fr db bm bb w F w7 F7) := ⟨X6.out.1.1.step hr7 hs7, X6.out.1.2.1.fr (Fr.step hs7), (Fr.step hs7).box X6.out.1.2.2.1.1 X6.out.1.2.2.1.2, (Fr.step hs7).box X6.out.1.2.2.2.1.1 X6.out.1.2.2.2.1.2, X6.out.1.2.2.2.2.trans (Fr.step hs7)⟩
  clear hr7 hs7 HT X6
  obtain ⟨p0, p1, p2⟩ := box3_facts X7.out.2.2.1.1; have pm := cellOf X7.out.1.blk 1 (.pointer (some ⟨rb, 0, none⟩)) rfl
  have r6 := cellOf X7.out.2.2.2.1.1 6 (.int .u64 (W : Int)) rfl
  refine hK1.out _ _ ⟨p0, p1, p2, pm, r6⟩ (fun h7 => ?_)
  clear hK1 K1 h6 p0 p1 p2 pm r6
  (try simp only [Act.put, List.getElem_toArray, List.getElem_cons_succ, List.getElem_cons_zero, List.setIfInBounds_toArray, List.set_cons_zero, List.set_cons_succ])
  refine wpAnyH_done (by kernel_rfl) ?_ _
  clear h7
  have r0 := cellOf X7.out.2.2.2.1.1 0 _ rfl
  have r1 := cellOf X7.out.2.2.2.1.1 1 _ rfl
  have HK : Hid (Calls Try.prog 54 #[.pointer (some ⟨bb, 0, none⟩), .agg #[.int .u32 (kd : Int), .int .u64 (sec : Int), .int .u8 (ust : Int), .int .u32 (uc : Int)]] w7 fun e w' => e = .returned (.tuple #[]) ∧ ∃ g cap, BlkAt w' bb gb rb db m (.slice (some ⟨g, 0, none⟩) (n + 1) cap) ∧ w'.ownsRow 0 60 4 (.slice (some ⟨g, 0, none⟩) (n + 1) cap) (n + 1) (rows ++ [.int .u32 (kd : Int), .int .u64 (sec : Int), .int .u8 (ust : Int), .int .u32 (uc : Int)]) ∧ g ≠ bb ∧ ((Value.slice la n lc).ownBlock = some g ∨ w7.heap.size ≤ g) ∧ Below 0 w7 w' ∧ ∀ k, k < w7.heap.size → k ≠ bb → (Value.slice la n lc).ownBlock ≠ some k → w'.heap[k]? = w7.heap[k]?) := keep_any X7.out.1.blk X7.out.1.log HL.out.2.2.2.2.2.2.2.2.1 (fun g hg => (X7.out.1.lg g hg).b)
  go_upto_region 9 with (go_at_call 54; refine (HK.out).mono ?_; rintro e w8 ⟨rfl, g, cap, hk⟩; have X8 : Hid (Dv sz bb gb rb db bm m w8 (kk + un + 1) F7 (layS (fun _ => ust) (scaL l W 1) 0 (layS ug (scaL l 0 un) 0 M)) UK (.slice (some ⟨g, 0, none⟩) (n + 1) cap) (n + 1) (rows ++ [.int .u32 (kd : Int), .int .u64 (sec : Int), .int .u8 (ust : Int), .int .u32 (uc : Int)]) ∧ Below 0 w w8 ∧ (∀ k, k < w.heap.size → Oth db bm bb F k → (Value.slice la n lc).ownBlock ≠ some k → w8.heap[k]? = w.heap[k]?) ∧ (∀ k, F7 k → F k ∨ w.heap.size ≤ k) ∧ ((Value.slice la n lc).ownBlock = some g ∨ w.heap.size ≤ g)) := ⟨X7.out.1.keep hk, X7.out.2.2.2.2.bel.trans hk.2.2.2.2.1, fun k hkl ho hlo => (hk.2.2.2.2.2 k (Nat.lt_of_lt_of_le hkl X7.out.2.2.2.2.bel.size) ho.b hlo).trans (X7.out.2.2.2.2.blk k hkl ho), X7.out.2.2.2.2.old, hk.2.2.2.1.imp id (fun h => Nat.le_trans X7.out.2.2.2.2.bel.size h)⟩; clear hk HK X7 r0 r1)
  go_wp2_with fail
  go_ret2
  exact ⟨rfl, F7, g, cap, X8.out⟩
end
end Go.Proofs.Ytlkhjekakbckmaa

/- Layer 18: registers, plain; the small calls. -/
namespace Go.Proofs.Ytlkhjekakbckmaa
open Go.RowKit Go.Maps
set_option linter.unusedVariables false
set_option linter.unusedSimpArgs false
set_option maxRecDepth 100000
theorem set_box {w : World} {b : Nat} {c : Array Value} {t : TypeId} {f : Nat × Nat} (h : w.heap[b]? = some (.cells c t f)) (i : Nat) (u : Value) : (w.setCell ⟨b, i, none⟩ u).heap[b]? = some (.cells (c.setIfInBounds i u) t f) := by
  simp only [World.setCell]
  rw [Array.getElem?_modify, if_pos rfl, h]
  simp
theorem step_set (w : World) (b i : Nat) (u : Value) : Step (fun k => k = b) w (fun k => k = b) (w.setCell ⟨b, i, none⟩ u) :=
  ⟨rfl, rfl, rfl, by simp [World.setCell], fun k _ hk => heap_setCell w b i u k hk, fun _ h => .inl h, fun _ h => h⟩
theorem u32_id {m : Nat} (h : m < 4294967296) : IntKind.u32.wrap (m : Int) = (m : Int) := by
  simp only [IntKind.wrap, IntKind.signed, IntKind.bits]
  simp
  omega
theorem u64_id {m : Nat} (h : m < 18446744073709551616) : IntKind.u64.wrap (m : Int) = (m : Int) := by rw [wrap_u64]; omega
structure Qs where
  n : Nat
  D : Nat
  A : Nat
  U : Nat
  rd : Bool
  fe : Nat
  us : Nat
  ev : Bool
  al : Bool
/-- a queue's cells: the program's, the document's -/
def Qs.row (q : Qs) : Array Value := #[.int .i64 (q.n : Int), .int .u64 (q.D : Int), .int .u64 (q.A : Int), .int .u64 (q.U : Int), .bool q.rd, .int .u16 (q.fe : Int), .int .u16 (q.us : Int), .bool q.ev, .bool q.al]
def Qs.drow (q : Qs) : Array Value := #[.int .i64 (q.n : Int), .int .u64 (q.D : Int), .int .u64 (q.A : Int), .int .u64 (q.U : Int), .bool q.rd, .int .i64 (q.fe : Int), .int .i64 (q.us : Int), .bool q.ev, .bool q.al]
def Qs.zero : Qs := ⟨0, 0, 0, 0, false, 0, 0, false, false⟩
structure Qs.Ok (q : Qs) : Prop where
  n : q.n < 4294967296
  D : q.D < 18446744073709551616
  A : q.A < 18446744073709551616
  U : q.U < 18446744073709551616
  fe : q.fe ≤ 65535
  us : q.us ≤ 65535
/-- a device's registers -/
structure Rg where
  id : Nat
  off : Nat
  agr : Nat
  dsel : Nat
  drv : Nat
  qsel : Nat
  qs : List Qs
  bits : Nat
  pend : Nat
  gen : Nat
  sp : List Nat
structure Rg.Ok (K : Rg) : Prop where
  id : K.id < 4294967296
  off : K.off < 18446744073709551616
  agr : K.agr < 18446744073709551616
  dsel : K.dsel < 4294967296
  drv : K.drv < 4294967296
  qsel : K.qsel < 4294967296
  qs : ∀ q ∈ K.qs, q.Ok
  ql : K.qs.length ≤ 16
  bits : K.bits < 4294967296
  pend : K.pend < 4294967296
  gen : K.gen < 4294967296
  sp : ∀ b ∈ K.sp, b ≤ 255
/-- the program's cells: qv the queues, sv what is told of itself -/
def regC (K : Rg) (qv sv : Value) : Array Value := #[.int .u32 (K.id : Int), .int .u64 (K.off : Int), .int .u64 (K.agr : Int), .int .u32 (K.dsel : Int), .int .u32 (K.drv : Int), .int .u32 (K.qsel : Int), qv, .int .u32 (K.bits : Int), .int .u32 (K.pend : Int), .int .u32 (K.gen : Int), sv]
def liveB (K : Rg) : Bool := K.bits.testBit 2 && !K.bits.testBit 6
def raiseK (K : Rg) (m : Nat) : Rg := { K with pend := K.pend ||| m }
def brokenK (K : Rg) : Rg := { K with bits := K.bits ||| 64 }
def breakK (K : Rg) : Rg := if (K.bits ||| 64).testBit 2 then raiseK (brokenK K) 2 else brokenK K
theorem and_bit (b k : Nat) : b &&& 2 ^ k = if b.testBit k = true then 2 ^ k else 0 := by
  apply Nat.eq_of_testBit_eq
  intro i
  rw [Nat.testBit_and, Nat.testBit_two_pow]
  by_cases h : k = i
  · subst h
    cases hb : b.testBit k <;> simp
  · cases hb : b.testBit k <;> simp [h, Nat.testBit_two_pow]
theorem testBit_and {b k : Nat} : (((b &&& 2 ^ k : Nat) : Int) != 0) = b.testBit k := by
  rw [and_bit]
  cases h : b.testBit k with
  | true =>
    have : 0 < 2 ^ k := Nat.two_pow_pos k
    have h2 : ((2 ^ k : Nat) : Int) ≠ 0 := by omega
    rw [if_pos rfl]
    simpa using h2
  | false => simp
theorem or_lt32 {a b : Nat} (ha : a < 4294967296) (hb : b < 4294967296) : a ||| b < 4294967296 := Nat.or_lt_two_pow (n := 32) ha hb
theorem box11_facts {w : World} {b : Nat} {x0 x1 x2 x3 x4 x5 x6 x7 x8 x9 x10 : Value} {t : TypeId} (h : w.heap[b]? = some (.cells #[x0, x1, x2, x3, x4, x5, x6, x7, x8, x9, x10] t (0, 0))) : w.cell? ⟨b, 0, none⟩ = some x0 ∧ w.cell? ⟨b, 1, none⟩ = some x1 ∧ w.cell? ⟨b, 2, none⟩ = some x2 ∧ w.cell? ⟨b, 3, none⟩ = some x3 ∧ w.cell? ⟨b, 4, none⟩ = some x4 ∧ w.cell? ⟨b, 5, none⟩ = some x5 ∧ w.cell? ⟨b, 6, none⟩ = some x6 ∧ w.cell? ⟨b, 7, none⟩ = some x7 ∧ w.cell? ⟨b, 8, none⟩ = some x8 ∧ w.cell? ⟨b, 9, none⟩ = some x9 ∧ w.cell? ⟨b, 10, none⟩ = some x10 := ⟨cellOf h 0 _ rfl, cellOf h 1 _ rfl, cellOf h 2 _ rfl, cellOf h 3 _ rfl, cellOf h 4 _ rfl, cellOf h 5 _ rfl, cellOf h 6 _ rfl, cellOf h 7 _ rfl, cellOf h 8 _ rfl, cellOf h 9 _ rfl, cellOf h 10 _ rfl⟩

theorem shows_4 {w : World} {gb : Nat} {K : Rg} {qv sv : Value} (h : w.heap[gb]? = some (.cells (regC K qv sv) 81 (0, 0))) (hK : K.Ok) : Calls Try.prog 104 #[.pointer (some ⟨gb, 0, none⟩), .int .u32 4] w fun e w' => e = .returned (.bool (K.bits.testBit 2)) ∧ w' = w := by
  have c7 := cellOf h 7 (.int .u32 (K.bits : Int)) rfl
  obtain ⟨x, hx⟩ : ∃ x, K.bits &&& 4 = x := ⟨_, rfl⟩
  have e1 : bits .and .u32 (K.bits : Int) 4 = (x : Int) := by rw [← hx]; exact u32_and_nat K.bits 4 hK.bits (by decide)
  have e2 : ((x : Int) != 0) = K.bits.testBit 2 := by rw [← hx]; exact testBit_and (b := K.bits) (k := 2)
  clear hx h hK
  generalize K.bits.testBit 2 = r at *
  generalize K.bits = b at *
  go_enter Try.func104, Try.ntmps104
  go_wp2_with fail
  go_ret
  exact ⟨rfl, rfl⟩

theorem shows_8 {w : World} {gb : Nat} {K : Rg} {qv sv : Value} (h : w.heap[gb]? = some (.cells (regC K qv sv) 81 (0, 0))) (hK : K.Ok) : Calls Try.prog 104 #[.pointer (some ⟨gb, 0, none⟩), .int .u32 8] w fun e w' => e = .returned (.bool (K.bits.testBit 3)) ∧ w' = w := by
  have c7 := cellOf h 7 (.int .u32 (K.bits : Int)) rfl
  obtain ⟨x, hx⟩ : ∃ x, K.bits &&& 8 = x := ⟨_, rfl⟩
  have e1 : bits .and .u32 (K.bits : Int) 8 = (x : Int) := by rw [← hx]; exact u32_and_nat K.bits 8 hK.bits (by decide)
  have e2 : ((x : Int) != 0) = K.bits.testBit 3 := by rw [← hx]; exact testBit_and (b := K.bits) (k := 3)
  clear hx h hK
  generalize K.bits.testBit 3 = r at *
  generalize K.bits = b at *
  go_enter Try.func104, Try.ntmps104
  go_wp2_with fail
  go_ret
  exact ⟨rfl, rfl⟩

theorem shows_64 {w : World} {gb : Nat} {K : Rg} {qv sv : Value} (h : w.heap[gb]? = some (.cells (regC K qv sv) 81 (0, 0))) (hK : K.Ok) : Calls Try.prog 104 #[.pointer (some ⟨gb, 0, none⟩), .int .u32 64] w fun e w' => e = .returned (.bool (K.bits.testBit 6)) ∧ w' = w := by
  have c7 := cellOf h 7 (.int .u32 (K.bits : Int)) rfl
  obtain ⟨x, hx⟩ : ∃ x, K.bits &&& 64 = x := ⟨_, rfl⟩
  have e1 : bits .and .u32 (K.bits : Int) 64 = (x : Int) := by rw [← hx]; exact u32_and_nat K.bits 64 hK.bits (by decide)
  have e2 : ((x : Int) != 0) = K.bits.testBit 6 := by rw [← hx]; exact testBit_and (b := K.bits) (k := 6)
  clear hx h hK
  generalize K.bits.testBit 6 = r at *
  generalize K.bits = b at *
  go_enter Try.func104, Try.ntmps104
  go_wp2_with fail
  go_ret
  exact ⟨rfl, rfl⟩

theorem live_any {w : World} {gb : Nat} {K : Rg} {qv sv : Value} (h : w.heap[gb]? = some (.cells (regC K qv sv) 81 (0, 0))) (hK : K.Ok) : Calls Try.prog 70 #[.pointer (some ⟨gb, 0, none⟩)] w fun e w' => e = .returned (.bool (liveB K)) ∧ w' = w := by
  have H1 : Hid (Calls Try.prog 104 #[.pointer (some ⟨gb, 0, none⟩), .int .u32 4] w fun e w' => e = .returned (.bool (K.bits.testBit 2)) ∧ w' = w) := shows_4 h hK
  have H2 : Hid (Calls Try.prog 104 #[.pointer (some ⟨gb, 0, none⟩), .int .u32 64] w fun e w' => e = .returned (.bool (K.bits.testBit 6)) ∧ w' = w) := shows_64 h hK
  unfold liveB
  generalize K.bits.testBit 2 = b1 at *
  generalize K.bits.testBit 6 = b2 at *
  clear h hK
  cases b1 with
  | false =>
    go_enter Try.func70, Try.ntmps70
    go_wp2_with fail
    refine (H1.out).mono ?_
    rintro e w1 ⟨rfl, hw⟩
    rw [hw]
    clear hw w1
    go_wp2_with fail
    go_ret
    exact ⟨rfl, rfl⟩
  | true =>
    go_enter Try.func70, Try.ntmps70
    go_wp2_with fail
    refine (H1.out).mono ?_
    rintro e w1 ⟨rfl, hw⟩
    rw [hw]
    clear hw w1
    go_wp2_with fail
    refine (H2.out).mono ?_
    rintro e w1 ⟨rfl, hw⟩
    rw [hw]
    clear hw w1
    go_wp2_with fail
    go_ret
    exact ⟨rfl, rfl⟩
theorem agr_any {w : World} {gb : Nat} {K : Rg} {qv sv : Value} (h : w.heap[gb]? = some (.cells (regC K qv sv) 81 (0, 0))) (hK : K.Ok) (f : Nat) (hf : f < 18446744073709551616) : Calls Try.prog 127 #[.pointer (some ⟨gb, 0, none⟩), .int .u64 (f : Int)] w fun e w' => e = .returned (.bool (decide (K.agr &&& f ≠ 0))) ∧ w' = w := by
  have c2 := cellOf h 2 (.int .u64 (K.agr : Int)) rfl
  obtain ⟨x, hx⟩ : ∃ x, K.agr &&& f = x := ⟨_, rfl⟩
  have e1 : bits .and .u64 (K.agr : Int) (f : Int) = (x : Int) := by rw [← hx]; exact u64_and_nat K.agr f hK.agr hf
  have e2 : ((x : Int) != 0) = decide (x ≠ 0) := by
    by_cases h0 : x = 0
    · simp [h0]
    · simp [h0]
  rw [hx]
  clear hx h hK hf
  generalize decide (x ≠ 0) = r at *
  generalize K.agr = b at *
  go_enter Try.func127, Try.ntmps127
  go_wp2_with fail
  go_ret
  exact ⟨rfl, rfl⟩
theorem raise_any {w : World} {gb : Nat} {K : Rg} {qv sv : Value} (h : w.heap[gb]? = some (.cells (regC K qv sv) 81 (0, 0))) (hK : K.Ok) (m : Nat) (hm : m < 4294967296) : Calls Try.prog 110 #[.pointer (some ⟨gb, 0, none⟩), .int .u32 (m : Int)] w fun e w' => e = .returned (.tuple #[]) ∧ w'.heap[gb]? = some (.cells (regC (raiseK K m) qv sv) 81 (0, 0)) ∧ Step (fun z => z = gb) w (fun z => z = gb) w' := by
  have c8 := cellOf h 8 (.int .u32 (K.pend : Int)) rfl
  have f8 := frozenOf h 8
  obtain ⟨x, hx⟩ : ∃ x, K.pend ||| m = x := ⟨_, rfl⟩
  have e1 : bits .or .u32 (K.pend : Int) (m : Int) = (x : Int) := by rw [← hx]; exact u32_or_nat K.pend m hK.pend hm
  have X : Hid ((w.setCell ⟨gb, 8, none⟩ (.int .u32 (x : Int))).heap[gb]? = some (.cells (regC (raiseK K m) qv sv) 81 (0, 0)) ∧ Step (fun z => z = gb) w (fun z => z = gb) (w.setCell ⟨gb, 8, none⟩ (.int .u32 (x : Int)))) := ⟨by rw [← hx]; exact set_box h 8 _, step_set _ _ _ _⟩
  clear hx h hK hm
  generalize K.pend = b at *
  go_enter Try.func110, Try.ntmps110
  go_wp2_with fail
  first | go_end0 | skip
  all_goals exact ⟨rfl, X.out.1, X.out.2⟩
theorem raiseK_ok {K : Rg} (hK : K.Ok) {m : Nat} (hm : m < 4294967296) : (raiseK K m).Ok := { hK with pend := or_lt32 hK.pend hm }
theorem brokenK_ok {K : Rg} (hK : K.Ok) : (brokenK K).Ok := { hK with bits := or_lt32 hK.bits (by decide) }
theorem breakK_ok {K : Rg} (hK : K.Ok) : (breakK K).Ok := by
  unfold breakK
  split
  · exact raiseK_ok (brokenK_ok hK) (by decide)
  · exact brokenK_ok hK
theorem break_any {w : World} {gb : Nat} {K : Rg} {qv sv : Value} (h : w.heap[gb]? = some (.cells (regC K qv sv) 81 (0, 0))) (hK : K.Ok) : Calls Try.prog 111 #[.pointer (some ⟨gb, 0, none⟩)] w fun e w' => e = .returned (.tuple #[]) ∧ w'.heap[gb]? = some (.cells (regC (breakK K) qv sv) 81 (0, 0)) ∧ Step (fun z => z = gb) w (fun z => z = gb) w' := by
  have c7 := cellOf h 7 (.int .u32 (K.bits : Int)) rfl
  have f7 := frozenOf h 7
  obtain ⟨x, hx⟩ : ∃ x, K.bits ||| 64 = x := ⟨_, rfl⟩
  have e1 : bits .or .u32 (K.bits : Int) 64 = (x : Int) := by rw [← hx]; exact u32_or_nat K.bits 64 hK.bits (by decide)
  have X : Hid ((w.setCell ⟨gb, 7, none⟩ (.int .u32 (x : Int))).heap[gb]? = some (.cells (regC (brokenK K) qv sv) 81 (0, 0)) ∧ Step (fun z => z = gb) w (fun z => z = gb) (w.setCell ⟨gb, 7, none⟩ (.int .u32 (x : Int)))) := ⟨by rw [← hx]; exact set_box h 7 _, step_set _ _ _ _⟩
  have HK : Hid ((brokenK K).Ok) := brokenK_ok hK
  have HB : Hid ((brokenK K).bits = K.bits ||| 64) := rfl
  obtain ⟨b2, hb2⟩ : ∃ b2, (K.bits ||| 64).testBit 2 = b2 := ⟨_, rfl⟩
  have HB2 : Hid (breakK K = if b2 = true then raiseK (brokenK K) 2 else brokenK K) := by show breakK K = _; rw [← hb2]; rfl
  have HS : Hid (∀ V, V.heap[gb]? = some (.cells (regC (brokenK K) qv sv) 81 (0, 0)) → Calls Try.prog 104 #[.pointer (some ⟨gb, 0, none⟩), .int .u32 4] V fun e w' => e = .returned (.bool b2) ∧ w' = V) := fun V hV => by rw [← hb2]; exact shows_4 hV (brokenK_ok hK)
  clear hx h hK hb2
  generalize K.bits = b at *
  go_enter Try.func111, Try.ntmps111
  go_upto_region 2 with fail
  generalize w.setCell ⟨gb, 7, none⟩ (.int .u32 (x : Int)) = w1 at *
  go_wp2_with fail
  refine (HS.out _ X.out.1).mono ?_
  rintro e w2 ⟨rfl, hw⟩
  rw [hw]
  clear hw w2
  cases b2 with
  | false =>
    go_wp2_with fail
    first | go_end0 | skip
    all_goals exact ⟨rfl, by rw [HB2.out]; exact X.out.1, X.out.2⟩
  | true =>
    go_wp2_with fail
    refine (raise_any X.out.1 HK.out 2 (by decide)).mono ?_
    rintro e w2 ⟨rfl, hr2, hs2⟩
    have X2 : Hid (w2.heap[gb]? = some (.cells (regC (raiseK (brokenK K) 2) qv sv) 81 (0, 0)) ∧ Step (fun z => z = gb) w (fun z => z = gb) w2) := ⟨hr2, X.out.2.trans hs2⟩
    clear hr2 hs2
    go_wp2_with fail
    first | go_end0 | skip
    all_goals exact ⟨rfl, by rw [HB2.out]; exact X2.out.1, X2.out.2⟩
end Go.Proofs.Ytlkhjekakbckmaa

/- Layer 18: queues in a row; Reset of a queue. -/
namespace Go.Proofs.Ytlkhjekakbckmaa
open Go.RowKit Go.Maps
set_option linter.unusedVariables false
set_option linter.unusedSimpArgs false
set_option maxRecDepth 100000
/-- queues in a row -/
def rowsL (qs : List Qs) : List Value := qs.flatMap fun q => q.row.toList
def rowsQ (qs : List Qs) : Array Value := (rowsL qs).toArray
theorem row_len (q : Qs) : q.row.toList.length = 9 := rfl
theorem rowsL_len : ∀ qs : List Qs, (rowsL qs).length = qs.length * 9
  | [] => rfl
  | q :: t => by
    show (q.row.toList ++ rowsL t).length = _
    rw [List.length_append, rowsL_len t, row_len, List.length_cons]
    omega
theorem rowsQ_size (qs : List Qs) : (rowsQ qs).size = qs.length * 9 := by
  show (rowsL qs).toArray.size = _
  rw [List.size_toArray, rowsL_len]
theorem rowsL_append (a b : List Qs) : rowsL (a ++ b) = rowsL a ++ rowsL b := by simp [rowsL]
/-- a row of queues, parted at one of them -/
theorem rowsQ_split (qs : List Qs) (i : Nat) (h : i < qs.length) : rowsQ qs = rowsQ (qs.take i) ++ (qs[i]).row ++ rowsQ (qs.drop (i + 1)) := by
  have e : qs = qs.take i ++ (qs[i] :: qs.drop (i + 1)) := by simp
  have : rowsL qs = rowsL (qs.take i) ++ ((qs[i]).row.toList ++ rowsL (qs.drop (i + 1))) := by
    conv => lhs; rw [e, rowsL_append]
    rfl
  unfold rowsQ
  rw [this]
  simp
theorem rowsQ_set (qs : List Qs) (i : Nat) (h : i < qs.length) (q : Qs) : rowsQ (qs.set i q) = rowsQ (qs.take i) ++ q.row ++ rowsQ (qs.drop (i + 1)) := by
  have h' : i < (qs.set i q).length := by simpa using h
  rw [rowsQ_split (qs.set i q) i h']
  have e : (qs.take i).set i q = qs.take i := List.set_eq_of_length_le (by rw [List.length_take]; omega)
  simp [List.take_set, List.drop_set, e]
theorem take_size (qs : List Qs) (i : Nat) (h : i < qs.length) : (rowsQ (qs.take i)).size = i * 9 := by
  rw [rowsQ_size, List.length_take]
  congr 1
  omega
/-- the program's registers: block gb, the queues in block qb -/
def Rgs (w : World) (gb qb : Nat) (K : Rg) (sv : Value) : Prop := w.heap[gb]? = some (.cells (regC K (.slice (some ⟨qb, 0, none⟩) K.qs.length K.qs.length) sv) 81 (0, 0)) ∧ w.heap[qb]? = some (.cells (rowsQ K.qs) 200 (0, 0)) ∧ gb ≠ qb
theorem Rgs.below {w w' : World} {gb qb : Nat} {K : Rg} {sv : Value} (h : Rgs w gb qb K sv) (hb : Below w.heap.size w w') : Rgs w' gb qb K sv := ⟨below_box h.1 hb, below_box h.2.1 hb, h.2.2⟩
theorem Rgs.kept {w w' : World} {gb qb : Nat} {K : Rg} {sv : Value} (h : Rgs w gb qb K sv) (h1 : w'.heap[gb]? = w.heap[gb]?) (h2 : w'.heap[qb]? = w.heap[qb]?) : Rgs w' gb qb K sv := ⟨h1.trans h.1, h2.trans h.2.1, h.2.2⟩
def Rg.empty : Rg := ⟨0, 0, 0, 0, 0, 0, [], 0, 0, 0, []⟩
/-- behind a reset -/
def resetK (K : Rg) : Rg := ⟨K.id, K.off, 0, 0, 0, 0, K.qs.map (fun _ => Qs.zero), 0, 0, K.gen, K.sp⟩
theorem z64 : (0 : Nat) < 18446744073709551616 := by decide
theorem z32 : (0 : Nat) < 4294967296 := by decide
theorem zero_ok : Qs.zero.Ok := ⟨by decide, by decide, by decide, by decide, by decide, by decide⟩
theorem resetK_ok {K : Rg} (h : K.Ok) : (resetK K).Ok := ⟨h.id, h.off, z64, z32, z32, z32, fun q hq => by
  obtain ⟨_, _, rfl⟩ := List.mem_map.1 hq
  exact zero_ok, by show (K.qs.map _).length ≤ 16; rw [List.length_map]; exact h.ql, z32, z32, h.gen, h.sp⟩
end Go.Proofs.Ytlkhjekakbckmaa

/- Layer 18: told. -/
namespace Go.Proofs.Ytlkhjekakbckmaa
open Go.RowKit Go.Maps
set_option linter.unusedVariables false
set_option linter.unusedSimpArgs false
set_option maxRecDepth 100000
theorem run_sl {sa : Option Addr} {n c lo hi : Nat} (b1 : lo ≤ hi) (b2 : hi ≤ c) (w : World) : (Instr.sliceAt 22 (.slice sa n c) (some (.int .u64 (lo : Nat))) (some (.int .u64 (hi : Nat))) none).run Try.prog w = .ok (.slice (if c = lo then sa else sa.map (·.add lo)) (hi - lo) (c - lo)) w := by
  have hsz : (sizeOf 5).run Try.prog w = .ok 1 w := by kernel_rfl
  have hb : (0 : Int) ≤ (lo : Int) ∧ (lo : Int) ≤ (hi : Int) := by omega
  have hb2 : (0 : Int) ≤ (hi : Int) ∧ (hi : Int) ≤ (c : Int) := by omega
  simp [Instr.sliceAt, Instr.slice, run_underlying Try.underlying22, Instr.sliceBounds, Instr.sliceBound, asIntOf, hsz, hb, hb2]
  rw [if_pos b2, if_pos b1]
theorem wpList_sl {w : World} {ops : Array Oper} {rest : List Oper} {o : Oper} {a : Act} {Q : Exit → Act → World → Prop} {sa : Option Addr} {n c lo hi : Nat} (hgd : o.guard = none) (x y z : Operand) (ho : o.op = Op.slice 22 x (some y) (some z) none) (hx : a.eval x = .slice sa n c) (hy : a.eval y = .int .u64 (lo : Nat)) (hz : a.eval z = .int .u64 (hi : Nat)) (b1 : lo ≤ hi) (b2 : hi ≤ c) (hK : wpList Try.prog ops Q rest (a.put o.dst (.slice (if c = lo then sa else sa.map (·.add lo)) (hi - lo) (c - lo))) w) : wpList Try.prog ops Q (o :: rest) a w := by
  refine wpList_plain hgd fun _ hKK => ?_
  have hrun := run_sl (sa := sa) (n := n) b1 b2 w
  unfold Oper.wp
  simp [execOp, ho, hx, hy, hz, hrun, Result.andThen]
  exact hKK _ _ hK
theorem told_any {w : World} {gb : Nat} {K : Rg} {qv : Value} {sa : Option Addr} {n c lo hi fr ct : Nat} {r : Nat} (h : w.heap[gb]? = some (.cells (regC K qv (.slice sa n c)) 81 (0, 0))) (hn : n ≤ 4096) (hc : n ≤ c) (hfr : fr ≤ 4096) (hct : ct ≤ 8) (hlo : min fr n = lo) (hhi : min (fr + ct) n = hi) (hof : ∀ V, V.heap = w.heap → Calls Try.prog 59 #[(.slice (if c = lo then sa else sa.map (·.add lo)) (hi - lo) (c - lo))] V fun e w' => e = .returned (.int .u64 (r : Int)) ∧ w' = V) : Calls Try.prog 65 #[.pointer (some ⟨gb, 0, none⟩), .int .u64 (fr : Int), .int .u64 (ct : Int)] w fun e w' => e = .returned (.int .u64 (r : Int)) ∧ w' = w := by
  have c10 := cellOf h 10 (.slice sa n c) rfl
  have HO : Hid (∀ V, V.heap = w.heap → Calls Try.prog 59 #[(.slice (if c = lo then sa else sa.map (·.add lo)) (hi - lo) (c - lo))] V fun e w' => e = .returned (.int .u64 (r : Int)) ∧ w' = V) := hof
  have e1 : IntKind.u64.wrap (n : Int) = (n : Int) := u64_id (by omega)
  have e2 : IntKind.u64.wrap ((fr : Int) + (ct : Int)) = ((fr + ct : Nat) : Int) := by rw [wrap_u64]; omega
  have m1 : (if n < fr then (n : Int) else (fr : Int)) = (lo : Int) := by split <;> omega
  have m2 : (if n < fr + ct then (n : Int) else ((fr + ct : Nat) : Int)) = (hi : Int) := by split <;> omega
  have b1 : Hid (lo ≤ hi) := by show lo ≤ hi; omega
  have b2 : Hid (hi ≤ c) := by show hi ≤ c; omega
  clear h hof hn hc hfr hct hlo hhi
  generalize fr + ct = fc at *
  go_enter Try.func65, Try.ntmps65
  go_upto_region 2 with fail
  refine wp_region_list ?_
  (refine wpList_step (fun KK hKK => ?_); go_simp; refine hKK _ _ ?_; clear hKK KK)
  (refine wpList_step (fun KK hKK => ?_); go_simp; refine hKK _ _ ?_; clear hKK KK)
  (refine wpList_step (fun KK hKK => ?_); go_simp; refine hKK _ _ ?_; clear hKK KK)
  (refine wpList_step (fun KK hKK => ?_); go_simp; refine hKK _ _ ?_; clear hKK KK)
  (refine wpList_step (fun KK hKK => ?_); go_simp; refine hKK _ _ ?_; clear hKK KK)
  (refine wpList_step (fun KK hKK => ?_); go_simp; refine hKK _ _ ?_; clear hKK KK)
  (refine wpList_step (fun KK hKK => ?_); go_simp; refine hKK _ _ ?_; clear hKK KK)
  (refine wpList_step (fun KK hKK => ?_); go_simp; refine hKK _ _ ?_; clear hKK KK)
  (refine wpList_step (fun KK hKK => ?_); go_simp; refine hKK _ _ ?_; clear hKK KK)
  (refine wpList_step (fun KK hKK => ?_); go_simp; refine hKK _ _ ?_; clear hKK KK)
  (refine wpList_step (fun KK hKK => ?_); go_simp; refine hKK _ _ ?_; clear hKK KK)
  (refine wpList_step (fun KK hKK => ?_); go_simp; refine hKK _ _ ?_; clear hKK KK)
  refine wpList_sl rfl _ _ _ rfl rfl rfl rfl b1.out b2.out ?_
  generalize (Value.slice (if c = lo then sa else sa.map (·.add lo)) (hi - lo) (c - lo)) = zv at *
  refine wpList_step (fun KK hKK => ?_)
  go_simp
  refine (HO.out _ rfl).mono ?_
  rintro e w1 ⟨rfl, hw⟩
  rw [hw]
  clear hw w1
  refine hKK _ _ ?_
  clear hKK KK
  first | done | skip
  all_goals (first | (go_wp2_with fail; go_ret; exact ⟨rfl, rfl⟩) | (go_ret; exact ⟨rfl, rfl⟩))
end Go.Proofs.Ytlkhjekakbckmaa

/- Layer 18: Load. -/
namespace Go.Proofs.Ytlkhjekakbckmaa
open Go.RowKit Go.Maps
set_option linter.unusedVariables false
set_option linter.unusedSimpArgs false
set_option maxRecDepth 100000
theorem h256_pad (f : Nat → Nat) (m d : Nat) (h : ∀ i, m ≤ i → i < m + d → f i = 0) : h256 f (m + d) 0 = h256 f m 0 := by
  induction d with
  | zero => rfl
  | succ d ih => rw [← Nat.add_assoc, h256_snoc, ih (fun i h1 h2 => h i h1 (by omega)), Nat.zero_add, h (m + d) (by omega) (by omega), Nat.zero_mul, Nat.add_zero]
/-- what a device tells of itself lies in its slice -/
def SpIn (w : World) (sa : Option Addr) (sn sc : Nat) (l : List Nat) : Prop := sn = l.length ∧ sn ≤ 4096 ∧ sn ≤ sc ∧ (∀ b ∈ l, b ≤ 255) ∧ (sn = 0 ∨ ∃ sb so, sa = some ⟨sb, so, none⟩ ∧ ∀ i, i < sn → w.cell? ⟨sb, so + i, none⟩ = some (.int .u8 (l.getD i 0 : Nat)))
def spaceK (K : Rg) (fr ct : Nat) : Nat := h256 (fun i => K.sp.getD (fr + i) 0) ct 0
theorem getD_le {l : List Nat} (h : ∀ b ∈ l, b ≤ 255) (i : Nat) : l.getD i 0 ≤ 255 := by
  rw [List.getD_eq_getElem?_getD]
  cases e : l[i]? with
  | none => simp
  | some x => exact h x (List.mem_of_getElem? e)
theorem told_space {w : World} {gb qb : Nat} {K : Rg} {sa : Option Addr} {sn sc : Nat} (h : Rgs w gb qb K (.slice sa sn sc)) (hs : SpIn w sa sn sc K.sp) (fr ct : Nat) (hfr : fr ≤ 4096) (hct : ct ≤ 8) : Calls Try.prog 65 #[.pointer (some ⟨gb, 0, none⟩), .int .u64 (fr : Int), .int .u64 (ct : Int)] w fun e w' => e = .returned (.int .u64 (spaceK K fr ct : Int)) ∧ w' = w := by
  obtain ⟨h1, h2, h3, h4, h5⟩ := hs
  refine told_any (lo := min fr sn) (hi := min (fr + ct) sn) h.1 h2 h3 hfr hct rfl rfl ?_
  intro V hV
  obtain ⟨m, hm⟩ : ∃ m, min (fr + ct) sn - min fr sn = m := ⟨_, rfl⟩
  have e : spaceK K fr ct = h256 (fun i => K.sp.getD (min fr sn + i) 0) m 0 := by
    unfold spaceK
    have e1 : h256 (fun i => K.sp.getD (fr + i) 0) ct 0 = h256 (fun i => K.sp.getD (fr + i) 0) m 0 := by
      have := h256_pad (fun i => K.sp.getD (fr + i) 0) m (ct - m) (fun i hi hi2 => by
        show K.sp.getD (fr + i) 0 = 0
        rw [List.getD_eq_getElem?_getD, List.getElem?_eq_none (by omega)]
        rfl)
      rw [← this]
      congr 1
      omega
    rw [e1]
    by_cases hle : fr ≤ sn
    · rw [Nat.min_eq_left hle]
    · have : m = 0 := by omega
      rw [this]
      rfl
  rw [e, hm]
  refine of_any _ m m _ (by omega) (by omega) (fun i _ => getD_le h4 _) V ?_
  by_cases h0 : m = 0
  · exact .inl ⟨h0, _, _, by rw [h0]⟩
  · rcases h5 with h5 | ⟨sb, so, rfl, h5⟩
    · omega
    · refine .inr ⟨sb, so + min fr sn, sc - min fr sn, ?_, ?_⟩
      · rw [if_neg (by omega)]
        first | simp [Addr.add] | simp [addr_add]
      · intro i hi
        have := h5 (min fr sn + i) (by omega)
        rw [Nat.add_assoc]
        rw [← this]
        simp only [World.cell?, hV]
end Go.Proofs.Ytlkhjekakbckmaa

/- Layer 18: slices.Clone. -/
namespace Go.Proofs.Ytlkhjekakbckmaa
open Go.RowKit Go.Maps
set_option linter.unusedVariables false
set_option linter.unusedSimpArgs false
set_option maxRecDepth 100000
theorem one_in0 (w : World) (o : Obj) : (w.alloc o).heap[w.heap.size]? = some o := by show (w.heap.push o)[w.heap.size]? = some o; exact Array.getElem?_push_size

theorem own_none (w : World) : (w.alloc (.cells #[] 5 (0, 0))).ownsRow w.heap.size 5 1 (.slice (some ⟨w.heap.size, 0, none⟩) 0 0) 0 [] := ⟨rfl, .inr ⟨w.heap.size, 0, #[], rfl, Nat.le_refl _, (one_in0 w _), Nat.le_refl _, by decide, rfl, rfl⟩⟩
/-- a row of its own, of bytes, with its form and with its cells -/
def SpOwn (w : World) (B : Nat) (v : Value) (l : List Nat) : Prop := ∃ g c, v = .slice (some ⟨g, 0, none⟩) l.length c ∧ B ≤ g ∧ g < w.heap.size ∧ l.length ≤ c ∧ ∀ i, i < l.length → w.cell? ⟨g, 0 + i, none⟩ = some (.int .u8 (l.getD i 0 : Nat))
theorem clone_some {w : World} {sb so c : Nat} {l : List Nat} (hl : l.length ≤ 4096) (hc : ∀ i, i < l.length → w.cell? ⟨sb, so + i, none⟩ = some (.int .u8 (l.getD i 0 : Nat))) (hb : sb < w.heap.size) : Calls Try.prog 85 #[.slice (some ⟨sb, so, none⟩) l.length c] w fun e w' => ∃ v, e = .returned v ∧ SpOwn w' w.heap.size v l ∧ Below w.heap.size w w' := by
  obtain ⟨i0, hi, hz0, hz1, hz2⟩ := info_parts Try.info5
  have HC : Hid ((∀ i, i < l.length → w.cell? ⟨sb, so + i, none⟩ = some (.int .u8 (l.getD i 0 : Nat))) ∧ sb < w.heap.size) := ⟨hc, hb⟩
  clear hc hb
  have eqn : ∀ V : World, (binOp .eql 22 (.slice (some ⟨sb, so, none⟩) l.length c) (.slice none 0 0)).run Try.prog V = .ok (.bool false) V := fun V => by
    have := Lib.run_eql_slice_nil (P := Try.prog) V 22 5 (some ⟨sb, so, none⟩) l.length c 0 0 Try.underlying22
    exact this
  go_enter Try.func85, Try.ntmps85
  go_upto_region 3 with fail
  refine wp_region_list ?_
  (refine wpList_step (fun KK hKK => ?_); go_simp; refine hKK _ _ ?_; clear hKK KK)
  (refine wpList_step (fun KK hKK => ?_); go_simp; refine hKK _ _ ?_; clear hKK KK)
  have hbel : Below w.heap.size w (w.alloc (.cells #[] 5 (0, 0))) := (Below.refl _ _).alloc (Nat.le_refl _) _
  refine wpList_append_own _ rfl _ _ 22 rfl w.heap.size 5 i0 (.int .u8 0) 1 1 Try.underlying22 hi hz0 hz1 hz2 rfl (by decide) (.slice (some ⟨w.heap.size, 0, none⟩) 0 0) 0 [] rfl (own_none w) ⟨sb, so, none⟩ l.length c (row8 l) rfl (by rw [row8_length]; omega) ?cc (row8_one _) (by unfold maxLen; omega) (by omega) (by simp) ?_
  case cc =>
    intro j u hu
    have hj : j < l.length := by
      have := (List.getElem?_eq_some_iff.1 hu).1
      rwa [row8_length] at this
    rw [row8_get l j hj] at hu
    cases hu
    rw [addr_add, hbel.cell HC.out.2]
    exact HC.out.1 j hj
  intro v' w1 hown hgrow hnil
  rw [List.nil_append, Nat.zero_add] at hown
  have hB : Hid (Below w.heap.size w w1) := Below.grown hbel hgrow (by simp) (fun j hj => by
    have : j = w.heap.size := by simpa [Value.ownBlock] using hj.symm
    omega)
  have hS : Hid (SpOwn w1 w.heap.size v' l) := by
    rcases hown.2 with ⟨rfl, h0⟩ | ⟨g, cap, cur, rfl, hg, hbl, hnc, _⟩
    · have := (hnil.1 rfl).1
      cases this
    · have hgs : g < w1.heap.size := (Array.getElem?_eq_some_iff.1 hbl).1
      refine ⟨g, cap, rfl, hg, hgs, hnc, fun i hi => ?_⟩
      rw [Nat.zero_add]
      have := hown.cellAt i (by omega)
      rw [this]
      exact row8_get l i hi
  clear hown hgrow hnil hbel HC
  go_wp2_with fail
  go_ret
  exact ⟨_, rfl, hS.out, hB.out⟩
end Go.Proofs.Ytlkhjekakbckmaa

/- Layer 18: New of the program. -/
namespace Go.Proofs.Ytlkhjekakbckmaa
open Go.RowKit Go.Maps
set_option linter.unusedVariables false
set_option linter.unusedSimpArgs false
set_option maxRecDepth 100000
section
variable {o : Oper} {a : Act} {KK : Act → World → Prop} {Q : Exit → Act → World → Prop} {w : World}
theorem wp_make_at (l c : Operand) (t : TypeId) (hop : o.op = Op.makeSlice t l c)
    (base : Nat) (e : TypeId) (i : TypeInfo) (z : Value) (size : Nat) (h1 : Try.prog.underlying t = some (.slice e)) (h2 : Try.prog.info? e = some i) (h3 : i.zero = some z) (h4 : i.size = size)
    (kl kc : IntKind) (L C : Int) (n : Nat) (hl : a.eval l = .int kl L) (hc : a.eval c = .int kc C) (hL : L = (n : Int)) (hC : C = (n : Int)) (b2 : i.bytes * n ≤ 281474976710656) (b3 : n ≤ maxLen) (b4 : base ≤ w.heap.size)
    (hK : ∀ w', w'.ownsRow base e size (.slice (some ⟨w.heap.size, 0, none⟩) n n) n (madeCells z.cells (n * size)).toList → w.grownBy w' none → KK (a.put o.dst (.slice (some ⟨w.heap.size, 0, none⟩) n n)) w') :
    o.wp Try.prog a w KK Q := by
  obtain ⟨w', hrun, r1, r2⟩ := run_make_full (P := Try.prog) w base t e i z size h1 h2 h3 h4 kl kc n b2 b3 b4
  subst hL
  subst hC
  unfold Oper.wp
  simp [execOp, hop, hl, hc, hrun, Result.andThen]
  exact hK w' r1 r2
theorem wp_box_agg (t : TypeId) (c : Array Value) (x : Operand) (hop : o.op = Op.box t x) (hx : a.eval x = .agg c) (h : KK (a.put o.dst (.pointer (some ⟨w.heap.size, 0, none⟩))) (w.alloc (.cells c t))) : o.wp Try.prog a w KK Q := by
  unfold Oper.wp
  simp [execOp, hop, hx, Instr.box, newVar, newRow, Value.cells, Result.andThen]
  exact h
end
/-- a row of bytes of its own, or nil -/
def SpNew (w : World) (B : Nat) (v : Value) (l : List Nat) : Prop := ∃ a c, v = .slice a l.length c ∧ l.length ≤ c ∧ ((a = none ∧ l = []) ∨ ∃ g, a = some ⟨g, 0, none⟩ ∧ B ≤ g ∧ g < w.heap.size ∧ ∀ i, i < l.length → w.cell? ⟨g, 0 + i, none⟩ = some (.int .u8 (l.getD i 0 : Nat)))
theorem SpNew.below {w w' : World} {B : Nat} {v : Value} {l : List Nat} (h : SpNew w B v l) (hb : Below w.heap.size w w') : SpNew w' B v l := by
  obtain ⟨a, c, rfl, hl, h⟩ := h
  refine ⟨a, c, rfl, hl, h.imp id ?_⟩
  rintro ⟨g, rfl, hB, hg, hc⟩
  exact ⟨g, rfl, hB, Nat.lt_of_lt_of_le hg hb.size, fun i hi => (hb.cell hg).trans (hc i hi)⟩
theorem SpNew.low {w : World} {B B' : Nat} {v : Value} {l : List Nat} (h : SpNew w B v l) (hb : B' ≤ B) : SpNew w B' v l := by
  obtain ⟨a, c, rfl, hl, h⟩ := h
  exact ⟨a, c, rfl, hl, h.imp id (fun ⟨g, e, hB, r⟩ => ⟨g, e, Nat.le_trans hb hB, r⟩)⟩
theorem SpNew.lt {w : World} {B : Nat} {v : Value} {l : List Nat} (h : SpNew w B v l) {g : Nat} (hg : v.ownBlock = some g) : B ≤ g ∧ g < w.heap.size := by
  obtain ⟨a, c, rfl, hl, h⟩ := h
  rcases h with ⟨rfl, _⟩ | ⟨g2, rfl, hB, h2, _⟩
  · simp [Value.ownBlock] at hg
  · simp [Value.ownBlock] at hg
    subst hg
    exact ⟨hB, h2⟩
theorem SpNew.form {w : World} {B : Nat} {v : Value} {l : List Nat} (h : SpNew w B v l) : ∃ a c, v = .slice a l.length c := by
  obtain ⟨a, c, rfl, _⟩ := h
  exact ⟨a, c, rfl⟩
theorem clone_nil (w : World) : Calls Try.prog 85 #[.slice none 0 0] w fun e w' => ∃ v, e = .returned v ∧ SpNew w' w.heap.size v [] ∧ Below w.heap.size w w' := by
  have eqn : ∀ V : World, (binOp .eql 22 (.slice none 0 0) (.slice none 0 0)).run Try.prog V = .ok (.bool true) V := fun V => by
    have := Lib.run_eql_slice_nil (P := Try.prog) V 22 5 none 0 0 0 0 Try.underlying22
    exact this
  go_enter Try.func85, Try.ntmps85
  go_wp2_with fail
  go_ret
  exact ⟨_, rfl, ⟨none, 0, rfl, Nat.le_refl _, .inl ⟨rfl, rfl⟩⟩, Below.refl _ _⟩
theorem clone_own {w : World} {sb so c : Nat} {l : List Nat} (hl : l.length ≤ 4096) (hc : ∀ i, i < l.length → w.cell? ⟨sb, so + i, none⟩ = some (.int .u8 (l.getD i 0 : Nat))) (hb : sb < w.heap.size) : Calls Try.prog 85 #[.slice (some ⟨sb, so, none⟩) l.length c] w fun e w' => ∃ v, e = .returned v ∧ SpNew w' w.heap.size v l ∧ Below w.heap.size w w' := by
  refine (clone_some hl hc hb).mono ?_
  rintro e w' ⟨v, rfl, ⟨g, c1, rfl, h1, h2, h3, h4⟩, hb⟩
  exact ⟨_, rfl, ⟨_, c1, rfl, h3, .inr ⟨g, rfl, h1, h2, h4⟩⟩, hb⟩
theorem infoQz : (Try.prog.info? 200).map (fun i => (i.zero, i.size, decide (i.bytes ≤ 1000))) = some (some (.agg Qs.zero.row), 9, true) := by kernel_rfl
theorem infoQz_parts : ∃ i, Try.prog.info? 200 = some i ∧ i.zero = some (.agg Qs.zero.row) ∧ i.size = 9 ∧ i.bytes ≤ 1000 := by
  obtain ⟨i, hi, hzz⟩ := Option.map_eq_some_iff.1 infoQz
  simp only [Prod.mk.injEq] at hzz
  exact ⟨i, hi, hzz.1, hzz.2.1, of_decide_eq_true hzz.2.2⟩
def newK (id off n : Nat) (l : List Nat) : Rg := ⟨id, off ||| 4294967296, 0, 0, 0, 0, List.replicate n Qs.zero, 0, 0, 0, l⟩
theorem newK_ok {id off n : Nat} {l : List Nat} (h1 : id < 4294967296) (h2 : off < 18446744073709551616) (hn : n ≤ 16) (hl : ∀ b ∈ l, b ≤ 255) : (newK id off n l).Ok := ⟨h1, Nat.or_lt_two_pow (n := 64) h2 (by decide), z64, z32, z32, z32, fun q hq => by
  rw [List.eq_of_mem_replicate hq]
  exact zero_ok, by show (List.replicate n Qs.zero).length ≤ 16; rw [List.length_replicate]; exact hn, z32, z32, z32, hl⟩
/-- what New leaves: the registers and their queues in blocks of their own -/
def Nw (w w' : World) (gb qb : Nat) (K : Rg) (v : Value) : Prop := Rgs w' gb qb K v ∧ SpNew w' w.heap.size v K.sp ∧ w.heap.size ≤ gb ∧ w.heap.size ≤ qb ∧ (∀ g, v.ownBlock = some g → g ≠ gb ∧ g ≠ qb) ∧ Below w.heap.size w w'

theorem hmade1 : (madeCells (Value.agg Qs.zero.row).cells (1 * 9)).toList = rowsL (List.replicate 1 Qs.zero) := by kernel_rfl
set_option maxHeartbeats 2000000 in
theorem rnew_1 {w : World} {id off : Nat} (hid : id < 4294967296) (hoff : off < 18446744073709551616) {sa : Option Addr} {sn sc : Nat} {l : List Nat} (hcl : ∀ V, Below w.heap.size w V → Calls Try.prog 85 #[.slice sa sn sc] V fun e w' => ∃ v, e = .returned v ∧ SpNew w' V.heap.size v l ∧ Below V.heap.size V w') :
    Calls Try.prog 47 #[.int .u32 (id : Int), .int .u64 (off : Int), .int .i64 1, .slice sa sn sc] w fun e w' => ∃ gb qb v, e = .returned (.pointer (some ⟨gb, 0, none⟩)) ∧ Nw w w' gb qb (newK id off 1 l) v := by
  obtain ⟨i0, hi0, hz0, hz1, hz2⟩ := infoQz_parts
  obtain ⟨x, hx⟩ : ∃ x, off ||| 4294967296 = x := ⟨_, rfl⟩
  have e1 : bits .or .u64 (off : Int) 4294967296 = (x : Int) := by rw [← hx]; exact u64_or_nat off 4294967296 hoff (by decide)
  obtain ⟨KN, hKN⟩ : ∃ KN, newK id off 1 l = KN := ⟨_, rfl⟩
  have HK : Hid (KN.qs = List.replicate 1 Qs.zero ∧ KN.sp = l) := ⟨by rw [← hKN]; rfl, by rw [← hKN]; rfl⟩
  have HK2 : Hid (∀ qb v, (Obj.cells (regC KN (.slice (some ⟨qb, 0, none⟩) KN.qs.length KN.qs.length) v) 81 (0, 0)) = .cells #[.int .u32 (id : Int), .int .u64 (x : Int), .int .u64 0, .int .u32 0, .int .u32 0, .int .u32 0, .slice (some ⟨qb, 0, none⟩) 1 1, .int .u32 0, .int .u32 0, .int .u32 0, v] 81) := fun qb v => by
    rw [← hKN, ← hx]
    rfl
  have HCL : Hid (∀ V, Below w.heap.size w V → Calls Try.prog 85 #[.slice sa sn sc] V fun e w' => ∃ v, e = .returned v ∧ SpNew w' V.heap.size v l ∧ Below V.heap.size V w') := hcl
  rw [hKN]
  clear hcl hx hKN hid hoff
  go_enter Try.func47, Try.ntmps47
  go_upto_region 1 with fail
  refine wp_region_held_drew (S := fun _ => True) (by kernel_rfl) trivial ?_
  intro hS
  have HB : Hid (Below w.heap.size w w.drew) := Below.drew (Below.refl _ _)
  generalize w.drew = wd at *
  refine wpAnyH_take (i := 0) (v := ?_) rfl (by kernel_rfl) (by kernel_rfl) (by kernel_rfl) (fun _ _ _ h => h) (Or.inl ⟨by kernel_rfl, ?_⟩) hS ?_
  rotate_left
  · intro w hSw; (try dsimp only at hSw); go_simp; try (with_reducible rfl)
  (try simp only [Act.put, List.getElem_toArray, List.getElem_cons_succ, List.getElem_cons_zero, List.setIfInBounds_toArray, List.set_cons_zero, List.set_cons_succ])
  refine wpAnyH_take (i := 1) (v := ?_) rfl (by kernel_rfl) (by kernel_rfl) (by kernel_rfl) (fun _ _ _ h => h) (Or.inl ⟨by kernel_rfl, ?_⟩) hS ?_
  rotate_left
  · intro w hSw; (try dsimp only at hSw); go_simp; try (with_reducible rfl)
  (try simp only [Act.put, List.getElem_toArray, List.getElem_cons_succ, List.getElem_cons_zero, List.setIfInBounds_toArray, List.set_cons_zero, List.set_cons_succ])
  refine wpAnyH_take (i := 2) (v := ?_) rfl (by kernel_rfl) (by kernel_rfl) (by kernel_rfl) (fun _ _ _ h => h) (Or.inl ⟨by kernel_rfl, ?_⟩) hS ?_
  rotate_left
  · intro w hSw; (try dsimp only at hSw); go_simp; try (with_reducible rfl)
  (try simp only [Act.put, List.getElem_toArray, List.getElem_cons_succ, List.getElem_cons_zero, List.setIfInBounds_toArray, List.set_cons_zero, List.set_cons_succ])
  refine wpAnyH_take (i := 3) (v := ?_) rfl (by kernel_rfl) (by kernel_rfl) (by kernel_rfl) (fun _ _ _ h => h) (Or.inl ⟨by kernel_rfl, ?_⟩) hS ?_
  rotate_left
  · intro w hSw; (try dsimp only at hSw); go_simp; try (with_reducible rfl)
  (try simp only [Act.put, List.getElem_toArray, List.getElem_cons_succ, List.getElem_cons_zero, List.setIfInBounds_toArray, List.set_cons_zero, List.set_cons_succ])
  refine wpAnyH_take (i := 4) (v := ?_) rfl (by kernel_rfl) (by kernel_rfl) (by kernel_rfl) (fun _ _ _ h => h) (Or.inl ⟨by kernel_rfl, ?_⟩) hS ?_
  rotate_left
  · intro w hSw; (try dsimp only at hSw); go_simp; try (with_reducible rfl)
  (try simp only [Act.put, List.getElem_toArray, List.getElem_cons_succ, List.getElem_cons_zero, List.setIfInBounds_toArray, List.set_cons_zero, List.set_cons_succ])
  refine wpAnyH_take (i := 5) (v := ?_) rfl (by kernel_rfl) (by kernel_rfl) (by kernel_rfl) (fun _ _ _ h => h) (Or.inl ⟨by kernel_rfl, ?_⟩) hS ?_
  rotate_left
  · intro w hSw; (try dsimp only at hSw); go_simp; try (with_reducible rfl)
  (try simp only [Act.put, List.getElem_toArray, List.getElem_cons_succ, List.getElem_cons_zero, List.setIfInBounds_toArray, List.set_cons_zero, List.set_cons_succ])
  refine wpAnyH_take (i := 7) (v := ?_) rfl (by kernel_rfl) (by kernel_rfl) (by kernel_rfl) (fun _ _ _ h => h) (Or.inl ⟨by kernel_rfl, ?_⟩) hS ?_
  rotate_left
  · intro w hSw; (try dsimp only at hSw); go_simp; try (with_reducible rfl)
  (try simp only [Act.put, List.getElem_toArray, List.getElem_cons_succ, List.getElem_cons_zero, List.setIfInBounds_toArray, List.set_cons_zero, List.set_cons_succ])
  refine wpAnyH_ready (rs := [6, 8]) (by kernel_rfl) (by simp) ?_
  refine AllReadyH.cons rfl (fun K1 hK1 => ?_) (AllReadyH.cons rfl (fun K2 hK2 => ?_) AllReadyH.nil)
  · have K2 := True.intro
    have hK2 := True.intro
    rw [if_pos (by kernel_rfl)]
    refine wp_make_at _ _ 79 rfl wd.heap.size 200 i0 (.agg Qs.zero.row) 9 Try.underlying79 hi0 hz0 hz1 _ _ _ _ 1 rfl rfl rfl rfl (by have := hz2; omega) (by unfold maxLen; omega) (Nat.le_refl _) ?_
    intro w3 hown hgr
    have hrow : w3.heap[wd.heap.size]? = some (.cells (rowsQ (List.replicate 1 Qs.zero)) 200 (0, 0)) := by
      rcases hown.2 with ⟨h, _⟩ | ⟨g, cap, cur, h, _, hbl, hnc, hcm, hcs, htk⟩
      · cases h
      · simp only [Value.slice.injEq, Option.some.injEq, Addr.mk.injEq] at h
        obtain ⟨⟨rfl, -, -⟩, -, rfl⟩ := h
        unfold rowsQ
        rw [hbl, ← hmade1]
        congr 2
        have : cur.toList.take (1 * 9) = cur.toList := List.take_of_length_le (by rw [Array.length_toList, hcs]; exact Nat.le_refl _)
        rw [this] at htk
        rw [← htk]
        try simp
    have hb3 : Below w.heap.size w w3 := Below.grown HB.out hgr HB.out.size (by simp)
    have HQ : Hid (wd.heap.size < w3.heap.size) := (Array.getElem?_eq_some_iff.1 hrow).1
    clear hown
    refine hK1.out _ _ trivial (fun hS5 => ?_)
    clear hK1 K1 hS hK2 K2
    (try simp only [Act.put, List.getElem_toArray, List.getElem_cons_succ, List.getElem_cons_zero, List.setIfInBounds_toArray, List.set_cons_zero, List.set_cons_succ])
    refine wpAnyH_ready (rs := [8]) (by kernel_rfl) (by simp) ?_
    refine AllReadyH.cons rfl (fun K6 hK6 => ?_) AllReadyH.nil
    go_simp
    refine (HCL.out w3 hb3).mono ?_
    rintro e w4 ⟨v, rfl, hv, hb⟩
    obtain ⟨va, vc, hve⟩ := hv.form
    subst hve
    have X4 : Hid (w4.heap[wd.heap.size]? = some (.cells (rowsQ (List.replicate 1 Qs.zero)) 200 (0, 0)) ∧ SpNew w4 w.heap.size (Value.slice va l.length vc) l ∧ w.heap.size ≤ wd.heap.size ∧ wd.heap.size < w4.heap.size ∧ Below w.heap.size w w4 ∧ ∀ g, (Value.slice va l.length vc).ownBlock = some g → g ≠ wd.heap.size) := ⟨below_box hrow hb, hv.low hb3.size, HB.out.size, Nat.lt_of_lt_of_le HQ.out hb.size, below_to hb3 hb, fun g hg => by have := (hv.lt hg).1; have := HQ.out; omega⟩
    clear hrow hv hb hb3 hgr HQ HB
    refine hK6.out _ _ trivial (fun hS6 => ?_)
    clear hK6 K6 hS5
    clear HCL
    generalize wd.heap.size = qb at *
    (try simp only [Act.put, List.getElem_toArray, List.getElem_cons_succ, List.getElem_cons_zero, List.setIfInBounds_toArray, List.set_cons_zero, List.set_cons_succ])
    refine wpAnyH_take (i := 9) (v := ?_) rfl (by kernel_rfl) (by kernel_rfl) (by kernel_rfl) (fun _ _ _ h => h) (Or.inl ⟨by kernel_rfl, ?_⟩) hS6 ?_
    rotate_left
    · intro w hSw; (try dsimp only at hSw); go_simp; try (with_reducible rfl)
    (try simp only [Act.put, List.getElem_toArray, List.getElem_cons_succ, List.getElem_cons_zero, List.setIfInBounds_toArray, List.set_cons_zero, List.set_cons_succ])
    refine wpAnyH_ready (rs := [10]) (by kernel_rfl) (by simp) ?_
    refine AllReadyH.cons rfl (fun K7 hK7 => ?_) AllReadyH.nil
    rw [if_pos (by kernel_rfl)]
    refine wp_box_agg 81 #[.int .u32 (id : Int), .int .u64 (x : Int), .int .u64 0, .int .u32 0, .int .u32 0, .int .u32 0, .slice (some ⟨qb, 0, none⟩) 1 1, .int .u32 0, .int .u32 0, .int .u32 0, (Value.slice va l.length vc)] _ rfl rfl ?_
    have Y : Hid (Nw w (w4.alloc (.cells #[.int .u32 (id : Int), .int .u64 (x : Int), .int .u64 0, .int .u32 0, .int .u32 0, .int .u32 0, .slice (some ⟨qb, 0, none⟩) 1 1, .int .u32 0, .int .u32 0, .int .u32 0, (Value.slice va l.length vc)] 81)) w4.heap.size qb KN (Value.slice va l.length vc)) := by
      obtain ⟨x1, x2, x3, x4, x5, x6⟩ := X4.out
      have hb9 : Below w4.heap.size w4 (w4.alloc (.cells #[.int .u32 (id : Int), .int .u64 (x : Int), .int .u64 0, .int .u32 0, .int .u32 0, .int .u32 0, .slice (some ⟨qb, 0, none⟩) 1 1, .int .u32 0, .int .u32 0, .int .u32 0, (Value.slice va l.length vc)] 81)) := (Below.refl _ _).alloc (Nat.le_refl _) _
      refine ⟨⟨?_, (below_box x1 hb9).trans (by rw [HK.out.1]), by omega⟩, by rw [HK.out.2]; exact x2.below hb9, x5.size, x3, fun g hg => ⟨by have := (x2.lt hg).2; omega, x6 g hg⟩, below_to x5 hb9⟩
      show (w4.heap.push _)[w4.heap.size]? = _
      rw [Array.getElem?_push_size, HK2.out]
    refine hK7.out _ _ trivial (fun hS7 => ?_)
    clear hK7 K7 hS6 X4
    (try simp only [Act.put, List.getElem_toArray, List.getElem_cons_succ, List.getElem_cons_zero, List.setIfInBounds_toArray, List.set_cons_zero, List.set_cons_succ])
    generalize w4.heap.size = gb at *
    refine wpAnyH_take (i := 11) (v := ?_) rfl (by kernel_rfl) (by kernel_rfl) (by kernel_rfl) (fun _ _ _ h => h) (Or.inl ⟨by kernel_rfl, ?_⟩) hS7 ?_
    rotate_left
    · intro w hSw; (try dsimp only at hSw); go_simp; try (with_reducible rfl)
    (try simp only [Act.put, List.getElem_toArray, List.getElem_cons_succ, List.getElem_cons_zero, List.setIfInBounds_toArray, List.set_cons_zero, List.set_cons_succ])
    refine wpAnyH_done (by kernel_rfl) ?_ _
    clear hS7
    go_wp2_with fail
    go_ret
    exact ⟨_, _, _, rfl, Y.out⟩
  · have K1 := True.intro
    have hK1 := True.intro
    go_simp
    refine (HCL.out wd HB.out).mono ?_
    rintro e w3 ⟨v, rfl, hv, hb⟩
    obtain ⟨va, vc, hve⟩ := hv.form
    subst hve
    refine hK2.out _ _ trivial (fun hS5 => ?_)
    clear hK2 K2 hS hK1 K1
    (try simp only [Act.put, List.getElem_toArray, List.getElem_cons_succ, List.getElem_cons_zero, List.setIfInBounds_toArray, List.set_cons_zero, List.set_cons_succ])
    refine wpAnyH_ready (rs := [6]) (by kernel_rfl) (by simp) ?_
    refine AllReadyH.cons rfl (fun K6 hK6 => ?_) AllReadyH.nil
    rw [if_pos (by kernel_rfl)]
    refine wp_make_at _ _ 79 rfl w3.heap.size 200 i0 (.agg Qs.zero.row) 9 Try.underlying79 hi0 hz0 hz1 _ _ _ _ 1 rfl rfl rfl rfl (by have := hz2; omega) (by unfold maxLen; omega) (Nat.le_refl _) ?_
    intro w4 hown hgr
    have hrow : w4.heap[w3.heap.size]? = some (.cells (rowsQ (List.replicate 1 Qs.zero)) 200 (0, 0)) := by
      rcases hown.2 with ⟨h, _⟩ | ⟨g, cap, cur, h, _, hbl, hnc, hcm, hcs, htk⟩
      · cases h
      · simp only [Value.slice.injEq, Option.some.injEq, Addr.mk.injEq] at h
        obtain ⟨⟨rfl, -, -⟩, -, rfl⟩ := h
        unfold rowsQ
        rw [hbl, ← hmade1]
        congr 2
        have : cur.toList.take (1 * 9) = cur.toList := List.take_of_length_le (by rw [Array.length_toList, hcs]; exact Nat.le_refl _)
        rw [this] at htk
        rw [← htk]
        try simp
    have hb3 : Below w.heap.size w w3 := below_to HB.out hb
    have hb4 : Below w3.heap.size w3 w4 := Below.grown (Below.refl _ _) hgr (Nat.le_refl _) (by simp)
    have X4 : Hid (w4.heap[w3.heap.size]? = some (.cells (rowsQ (List.replicate 1 Qs.zero)) 200 (0, 0)) ∧ SpNew w4 w.heap.size (Value.slice va l.length vc) l ∧ w.heap.size ≤ w3.heap.size ∧ w3.heap.size < w4.heap.size ∧ Below w.heap.size w w4 ∧ ∀ g, (Value.slice va l.length vc).ownBlock = some g → g ≠ w3.heap.size) := ⟨hrow, (hv.below hb4).low HB.out.size, hb3.size, (Array.getElem?_eq_some_iff.1 hrow).1, below_to hb3 hb4, fun g hg => by have := (hv.lt hg).2; omega⟩
    clear hrow hown hgr hb4 hb3 hv hb HB
    refine hK6.out _ _ trivial (fun hS6 => ?_)
    clear hK6 K6 hS5
    clear HCL
    generalize w3.heap.size = qb at *
    (try simp only [Act.put, List.getElem_toArray, List.getElem_cons_succ, List.getElem_cons_zero, List.setIfInBounds_toArray, List.set_cons_zero, List.set_cons_succ])
    refine wpAnyH_take (i := 9) (v := ?_) rfl (by kernel_rfl) (by kernel_rfl) (by kernel_rfl) (fun _ _ _ h => h) (Or.inl ⟨by kernel_rfl, ?_⟩) hS6 ?_
    rotate_left
    · intro w hSw; (try dsimp only at hSw); go_simp; try (with_reducible rfl)
    (try simp only [Act.put, List.getElem_toArray, List.getElem_cons_succ, List.getElem_cons_zero, List.setIfInBounds_toArray, List.set_cons_zero, List.set_cons_succ])
    refine wpAnyH_ready (rs := [10]) (by kernel_rfl) (by simp) ?_
    refine AllReadyH.cons rfl (fun K7 hK7 => ?_) AllReadyH.nil
    rw [if_pos (by kernel_rfl)]
    refine wp_box_agg 81 #[.int .u32 (id : Int), .int .u64 (x : Int), .int .u64 0, .int .u32 0, .int .u32 0, .int .u32 0, .slice (some ⟨qb, 0, none⟩) 1 1, .int .u32 0, .int .u32 0, .int .u32 0, (Value.slice va l.length vc)] _ rfl rfl ?_
    have Y : Hid (Nw w (w4.alloc (.cells #[.int .u32 (id : Int), .int .u64 (x : Int), .int .u64 0, .int .u32 0, .int .u32 0, .int .u32 0, .slice (some ⟨qb, 0, none⟩) 1 1, .int .u32 0, .int .u32 0, .int .u32 0, (Value.slice va l.length vc)] 81)) w4.heap.size qb KN (Value.slice va l.length vc)) := by
      obtain ⟨x1, x2, x3, x4, x5, x6⟩ := X4.out
      have hb9 : Below w4.heap.size w4 (w4.alloc (.cells #[.int .u32 (id : Int), .int .u64 (x : Int), .int .u64 0, .int .u32 0, .int .u32 0, .int .u32 0, .slice (some ⟨qb, 0, none⟩) 1 1, .int .u32 0, .int .u32 0, .int .u32 0, (Value.slice va l.length vc)] 81)) := (Below.refl _ _).alloc (Nat.le_refl _) _
      refine ⟨⟨?_, (below_box x1 hb9).trans (by rw [HK.out.1]), by omega⟩, by rw [HK.out.2]; exact x2.below hb9, x5.size, x3, fun g hg => ⟨by have := (x2.lt hg).2; omega, x6 g hg⟩, below_to x5 hb9⟩
      show (w4.heap.push _)[w4.heap.size]? = _
      rw [Array.getElem?_push_size, HK2.out]
    refine hK7.out _ _ trivial (fun hS7 => ?_)
    clear hK7 K7 hS6 X4
    (try simp only [Act.put, List.getElem_toArray, List.getElem_cons_succ, List.getElem_cons_zero, List.setIfInBounds_toArray, List.set_cons_zero, List.set_cons_succ])
    generalize w4.heap.size = gb at *
    refine wpAnyH_take (i := 11) (v := ?_) rfl (by kernel_rfl) (by kernel_rfl) (by kernel_rfl) (fun _ _ _ h => h) (Or.inl ⟨by kernel_rfl, ?_⟩) hS7 ?_
    rotate_left
    · intro w hSw; (try dsimp only at hSw); go_simp; try (with_reducible rfl)
    (try simp only [Act.put, List.getElem_toArray, List.getElem_cons_succ, List.getElem_cons_zero, List.setIfInBounds_toArray, List.set_cons_zero, List.set_cons_succ])
    refine wpAnyH_done (by kernel_rfl) ?_ _
    clear hS7
    go_wp2_with fail
    go_ret
    exact ⟨_, _, _, rfl, Y.out⟩

theorem hmade2 : (madeCells (Value.agg Qs.zero.row).cells (2 * 9)).toList = rowsL (List.replicate 2 Qs.zero) := by kernel_rfl
set_option maxHeartbeats 2000000 in
theorem rnew_2 {w : World} {id off : Nat} (hid : id < 4294967296) (hoff : off < 18446744073709551616) {sa : Option Addr} {sn sc : Nat} {l : List Nat} (hcl : ∀ V, Below w.heap.size w V → Calls Try.prog 85 #[.slice sa sn sc] V fun e w' => ∃ v, e = .returned v ∧ SpNew w' V.heap.size v l ∧ Below V.heap.size V w') :
    Calls Try.prog 47 #[.int .u32 (id : Int), .int .u64 (off : Int), .int .i64 2, .slice sa sn sc] w fun e w' => ∃ gb qb v, e = .returned (.pointer (some ⟨gb, 0, none⟩)) ∧ Nw w w' gb qb (newK id off 2 l) v := by
  obtain ⟨i0, hi0, hz0, hz1, hz2⟩ := infoQz_parts
  obtain ⟨x, hx⟩ : ∃ x, off ||| 4294967296 = x := ⟨_, rfl⟩
  have e1 : bits .or .u64 (off : Int) 4294967296 = (x : Int) := by rw [← hx]; exact u64_or_nat off 4294967296 hoff (by decide)
  obtain ⟨KN, hKN⟩ : ∃ KN, newK id off 2 l = KN := ⟨_, rfl⟩
  have HK : Hid (KN.qs = List.replicate 2 Qs.zero ∧ KN.sp = l) := ⟨by rw [← hKN]; rfl, by rw [← hKN]; rfl⟩
  have HK2 : Hid (∀ qb v, (Obj.cells (regC KN (.slice (some ⟨qb, 0, none⟩) KN.qs.length KN.qs.length) v) 81 (0, 0)) = .cells #[.int .u32 (id : Int), .int .u64 (x : Int), .int .u64 0, .int .u32 0, .int .u32 0, .int .u32 0, .slice (some ⟨qb, 0, none⟩) 2 2, .int .u32 0, .int .u32 0, .int .u32 0, v] 81) := fun qb v => by
    rw [← hKN, ← hx]
    rfl
  have HCL : Hid (∀ V, Below w.heap.size w V → Calls Try.prog 85 #[.slice sa sn sc] V fun e w' => ∃ v, e = .returned v ∧ SpNew w' V.heap.size v l ∧ Below V.heap.size V w') := hcl
  rw [hKN]
  clear hcl hx hKN hid hoff
  go_enter Try.func47, Try.ntmps47
  go_upto_region 1 with fail
  refine wp_region_held_drew (S := fun _ => True) (by kernel_rfl) trivial ?_
  intro hS
  have HB : Hid (Below w.heap.size w w.drew) := Below.drew (Below.refl _ _)
  generalize w.drew = wd at *
  refine wpAnyH_take (i := 0) (v := ?_) rfl (by kernel_rfl) (by kernel_rfl) (by kernel_rfl) (fun _ _ _ h => h) (Or.inl ⟨by kernel_rfl, ?_⟩) hS ?_
  rotate_left
  · intro w hSw; (try dsimp only at hSw); go_simp; try (with_reducible rfl)
  (try simp only [Act.put, List.getElem_toArray, List.getElem_cons_succ, List.getElem_cons_zero, List.setIfInBounds_toArray, List.set_cons_zero, List.set_cons_succ])
  refine wpAnyH_take (i := 1) (v := ?_) rfl (by kernel_rfl) (by kernel_rfl) (by kernel_rfl) (fun _ _ _ h => h) (Or.inl ⟨by kernel_rfl, ?_⟩) hS ?_
  rotate_left
  · intro w hSw; (try dsimp only at hSw); go_simp; try (with_reducible rfl)
  (try simp only [Act.put, List.getElem_toArray, List.getElem_cons_succ, List.getElem_cons_zero, List.setIfInBounds_toArray, List.set_cons_zero, List.set_cons_succ])
  refine wpAnyH_take (i := 2) (v := ?_) rfl (by kernel_rfl) (by kernel_rfl) (by kernel_rfl) (fun _ _ _ h => h) (Or.inl ⟨by kernel_rfl, ?_⟩) hS ?_
  rotate_left
  · intro w hSw; (try dsimp only at hSw); go_simp; try (with_reducible rfl)
  (try simp only [Act.put, List.getElem_toArray, List.getElem_cons_succ, List.getElem_cons_zero, List.setIfInBounds_toArray, List.set_cons_zero, List.set_cons_succ])
  refine wpAnyH_take (i := 3) (v := ?_) rfl (by kernel_rfl) (by kernel_rfl) (by kernel_rfl) (fun _ _ _ h => h) (Or.inl ⟨by kernel_rfl, ?_⟩) hS ?_
  rotate_left
  · intro w hSw; (try dsimp only at hSw); go_simp; try (with_reducible rfl)
  (try simp only [Act.put, List.getElem_toArray, List.getElem_cons_succ, List.getElem_cons_zero, List.setIfInBounds_toArray, List.set_cons_zero, List.set_cons_succ])
  refine wpAnyH_take (i := 4) (v := ?_) rfl (by kernel_rfl) (by kernel_rfl) (by kernel_rfl) (fun _ _ _ h => h) (Or.inl ⟨by kernel_rfl, ?_⟩) hS ?_
  rotate_left
  · intro w hSw; (try dsimp only at hSw); go_simp; try (with_reducible rfl)
  (try simp only [Act.put, List.getElem_toArray, List.getElem_cons_succ, List.getElem_cons_zero, List.setIfInBounds_toArray, List.set_cons_zero, List.set_cons_succ])
  refine wpAnyH_take (i := 5) (v := ?_) rfl (by kernel_rfl) (by kernel_rfl) (by kernel_rfl) (fun _ _ _ h => h) (Or.inl ⟨by kernel_rfl, ?_⟩) hS ?_
  rotate_left
  · intro w hSw; (try dsimp only at hSw); go_simp; try (with_reducible rfl)
  (try simp only [Act.put, List.getElem_toArray, List.getElem_cons_succ, List.getElem_cons_zero, List.setIfInBounds_toArray, List.set_cons_zero, List.set_cons_succ])
  refine wpAnyH_take (i := 7) (v := ?_) rfl (by kernel_rfl) (by kernel_rfl) (by kernel_rfl) (fun _ _ _ h => h) (Or.inl ⟨by kernel_rfl, ?_⟩) hS ?_
  rotate_left
  · intro w hSw; (try dsimp only at hSw); go_simp; try (with_reducible rfl)
  (try simp only [Act.put, List.getElem_toArray, List.getElem_cons_succ, List.getElem_cons_zero, List.setIfInBounds_toArray, List.set_cons_zero, List.set_cons_succ])
  refine wpAnyH_ready (rs := [6, 8]) (by kernel_rfl) (by simp) ?_
  refine AllReadyH.cons rfl (fun K1 hK1 => ?_) (AllReadyH.cons rfl (fun K2 hK2 => ?_) AllReadyH.nil)
  · have K2 := True.intro
    have hK2 := True.intro
    rw [if_pos (by kernel_rfl)]
    refine wp_make_at _ _ 79 rfl wd.heap.size 200 i0 (.agg Qs.zero.row) 9 Try.underlying79 hi0 hz0 hz1 _ _ _ _ 2 rfl rfl rfl rfl (by have := hz2; omega) (by unfold maxLen; omega) (Nat.le_refl _) ?_
    intro w3 hown hgr
    have hrow : w3.heap[wd.heap.size]? = some (.cells (rowsQ (List.replicate 2 Qs.zero)) 200 (0, 0)) := by
      rcases hown.2 with ⟨h, _⟩ | ⟨g, cap, cur, h, _, hbl, hnc, hcm, hcs, htk⟩
      · cases h
      · simp only [Value.slice.injEq, Option.some.injEq, Addr.mk.injEq] at h
        obtain ⟨⟨rfl, -, -⟩, -, rfl⟩ := h
        unfold rowsQ
        rw [hbl, ← hmade2]
        congr 2
        have : cur.toList.take (2 * 9) = cur.toList := List.take_of_length_le (by rw [Array.length_toList, hcs]; exact Nat.le_refl _)
        rw [this] at htk
        rw [← htk]
        try simp
    have hb3 : Below w.heap.size w w3 := Below.grown HB.out hgr HB.out.size (by simp)
    have HQ : Hid (wd.heap.size < w3.heap.size) := (Array.getElem?_eq_some_iff.1 hrow).1
    clear hown
    refine hK1.out _ _ trivial (fun hS5 => ?_)
    clear hK1 K1 hS hK2 K2
    (try simp only [Act.put, List.getElem_toArray, List.getElem_cons_succ, List.getElem_cons_zero, List.setIfInBounds_toArray, List.set_cons_zero, List.set_cons_succ])
    refine wpAnyH_ready (rs := [8]) (by kernel_rfl) (by simp) ?_
    refine AllReadyH.cons rfl (fun K6 hK6 => ?_) AllReadyH.nil
    go_simp
    refine (HCL.out w3 hb3).mono ?_
    rintro e w4 ⟨v, rfl, hv, hb⟩
    obtain ⟨va, vc, hve⟩ := hv.form
    subst hve
    have X4 : Hid (w4.heap[wd.heap.size]? = some (.cells (rowsQ (List.replicate 2 Qs.zero)) 200 (0, 0)) ∧ SpNew w4 w.heap.size (Value.slice va l.length vc) l ∧ w.heap.size ≤ wd.heap.size ∧ wd.heap.size < w4.heap.size ∧ Below w.heap.size w w4 ∧ ∀ g, (Value.slice va l.length vc).ownBlock = some g → g ≠ wd.heap.size) := ⟨below_box hrow hb, hv.low hb3.size, HB.out.size, Nat.lt_of_lt_of_le HQ.out hb.size, below_to hb3 hb, fun g hg => by have := (hv.lt hg).1; have := HQ.out; omega⟩
    clear hrow hv hb hb3 hgr HQ HB
    refine hK6.out _ _ trivial (fun hS6 => ?_)
    clear hK6 K6 hS5
    clear HCL
    generalize wd.heap.size = qb at *
    (try simp only [Act.put, List.getElem_toArray, List.getElem_cons_succ, List.getElem_cons_zero, List.setIfInBounds_toArray, List.set_cons_zero, List.set_cons_succ])
    refine wpAnyH_take (i := 9) (v := ?_) rfl (by kernel_rfl) (by kernel_rfl) (by kernel_rfl) (fun _ _ _ h => h) (Or.inl ⟨by kernel_rfl, ?_⟩) hS6 ?_
    rotate_left
    · intro w hSw; (try dsimp only at hSw); go_simp; try (with_reducible rfl)
    (try simp only [Act.put, List.getElem_toArray, List.getElem_cons_succ, List.getElem_cons_zero, List.setIfInBounds_toArray, List.set_cons_zero, List.set_cons_succ])
    refine wpAnyH_ready (rs := [10]) (by kernel_rfl) (by simp) ?_
    refine AllReadyH.cons rfl (fun K7 hK7 => ?_) AllReadyH.nil
    rw [if_pos (by kernel_rfl)]
    refine wp_box_agg 81 #[.int .u32 (id : Int), .int .u64 (x : Int), .int .u64 0, .int .u32 0, .int .u32 0, .int .u32 0, .slice (some ⟨qb, 0, none⟩) 2 2, .int .u32 0, .int .u32 0, .int .u32 0, (Value.slice va l.length vc)] _ rfl rfl ?_
    have Y : Hid (Nw w (w4.alloc (.cells #[.int .u32 (id : Int), .int .u64 (x : Int), .int .u64 0, .int .u32 0, .int .u32 0, .int .u32 0, .slice (some ⟨qb, 0, none⟩) 2 2, .int .u32 0, .int .u32 0, .int .u32 0, (Value.slice va l.length vc)] 81)) w4.heap.size qb KN (Value.slice va l.length vc)) := by
      obtain ⟨x1, x2, x3, x4, x5, x6⟩ := X4.out
      have hb9 : Below w4.heap.size w4 (w4.alloc (.cells #[.int .u32 (id : Int), .int .u64 (x : Int), .int .u64 0, .int .u32 0, .int .u32 0, .int .u32 0, .slice (some ⟨qb, 0, none⟩) 2 2, .int .u32 0, .int .u32 0, .int .u32 0, (Value.slice va l.length vc)] 81)) := (Below.refl _ _).alloc (Nat.le_refl _) _
      refine ⟨⟨?_, (below_box x1 hb9).trans (by rw [HK.out.1]), by omega⟩, by rw [HK.out.2]; exact x2.below hb9, x5.size, x3, fun g hg => ⟨by have := (x2.lt hg).2; omega, x6 g hg⟩, below_to x5 hb9⟩
      show (w4.heap.push _)[w4.heap.size]? = _
      rw [Array.getElem?_push_size, HK2.out]
    refine hK7.out _ _ trivial (fun hS7 => ?_)
    clear hK7 K7 hS6 X4
    (try simp only [Act.put, List.getElem_toArray, List.getElem_cons_succ, List.getElem_cons_zero, List.setIfInBounds_toArray, List.set_cons_zero, List.set_cons_succ])
    generalize w4.heap.size = gb at *
    refine wpAnyH_take (i := 11) (v := ?_) rfl (by kernel_rfl) (by kernel_rfl) (by kernel_rfl) (fun _ _ _ h => h) (Or.inl ⟨by kernel_rfl, ?_⟩) hS7 ?_
    rotate_left
    · intro w hSw; (try dsimp only at hSw); go_simp; try (with_reducible rfl)
    (try simp only [Act.put, List.getElem_toArray, List.getElem_cons_succ, List.getElem_cons_zero, List.setIfInBounds_toArray, List.set_cons_zero, List.set_cons_succ])
    refine wpAnyH_done (by kernel_rfl) ?_ _
    clear hS7
    go_wp2_with fail
    go_ret
    exact ⟨_, _, _, rfl, Y.out⟩
  · have K1 := True.intro
    have hK1 := True.intro
    go_simp
    refine (HCL.out wd HB.out).mono ?_
    rintro e w3 ⟨v, rfl, hv, hb⟩
    obtain ⟨va, vc, hve⟩ := hv.form
    subst hve
    refine hK2.out _ _ trivial (fun hS5 => ?_)
    clear hK2 K2 hS hK1 K1
    (try simp only [Act.put, List.getElem_toArray, List.getElem_cons_succ, List.getElem_cons_zero, List.setIfInBounds_toArray, List.set_cons_zero, List.set_cons_succ])
    refine wpAnyH_ready (rs := [6]) (by kernel_rfl) (by simp) ?_
    refine AllReadyH.cons rfl (fun K6 hK6 => ?_) AllReadyH.nil
    rw [if_pos (by kernel_rfl)]
    refine wp_make_at _ _ 79 rfl w3.heap.size 200 i0 (.agg Qs.zero.row) 9 Try.underlying79 hi0 hz0 hz1 _ _ _ _ 2 rfl rfl rfl rfl (by have := hz2; omega) (by unfold maxLen; omega) (Nat.le_refl _) ?_
    intro w4 hown hgr
    have hrow : w4.heap[w3.heap.size]? = some (.cells (rowsQ (List.replicate 2 Qs.zero)) 200 (0, 0)) := by
      rcases hown.2 with ⟨h, _⟩ | ⟨g, cap, cur, h, _, hbl, hnc, hcm, hcs, htk⟩
      · cases h
      · simp only [Value.slice.injEq, Option.some.injEq, Addr.mk.injEq] at h
        obtain ⟨⟨rfl, -, -⟩, -, rfl⟩ := h
        unfold rowsQ
        rw [hbl, ← hmade2]
        congr 2
        have : cur.toList.take (2 * 9) = cur.toList := List.take_of_length_le (by rw [Array.length_toList, hcs]; exact Nat.le_refl _)
        rw [this] at htk
        rw [← htk]
        try simp
    have hb3 : Below w.heap.size w w3 := below_to HB.out hb
    have hb4 : Below w3.heap.size w3 w4 := Below.grown (Below.refl _ _) hgr (Nat.le_refl _) (by simp)
    have X4 : Hid (w4.heap[w3.heap.size]? = some (.cells (rowsQ (List.replicate 2 Qs.zero)) 200 (0, 0)) ∧ SpNew w4 w.heap.size (Value.slice va l.length vc) l ∧ w.heap.size ≤ w3.heap.size ∧ w3.heap.size < w4.heap.size ∧ Below w.heap.size w w4 ∧ ∀ g, (Value.slice va l.length vc).ownBlock = some g → g ≠ w3.heap.size) := ⟨hrow, (hv.below hb4).low HB.out.size, hb3.size, (Array.getElem?_eq_some_iff.1 hrow).1, below_to hb3 hb4, fun g hg => by have := (hv.lt hg).2; omega⟩
    clear hrow hown hgr hb4 hb3 hv hb HB
    refine hK6.out _ _ trivial (fun hS6 => ?_)
    clear hK6 K6 hS5
    clear HCL
    generalize w3.heap.size = qb at *
    (try simp only [Act.put, List.getElem_toArray, List.getElem_cons_succ, List.getElem_cons_zero, List.setIfInBounds_toArray, List.set_cons_zero, List.set_cons_succ])
    refine wpAnyH_take (i := 9) (v := ?_) rfl (by kernel_rfl) (by kernel_rfl) (by kernel_rfl) (fun _ _ _ h => h) (Or.inl ⟨by kernel_rfl, ?_⟩) hS6 ?_
    rotate_left
    · intro w hSw; (try dsimp only at hSw); go_simp; try (with_reducible rfl)
    (try simp only [Act.put, List.getElem_toArray, List.getElem_cons_succ, List.getElem_cons_zero, List.setIfInBounds_toArray, List.set_cons_zero, List.set_cons_succ])
    refine wpAnyH_ready (rs := [10]) (by kernel_rfl) (by simp) ?_
    refine AllReadyH.cons rfl (fun K7 hK7 => ?_) AllReadyH.nil
    rw [if_pos (by kernel_rfl)]
    refine wp_box_agg 81 #[.int .u32 (id : Int), .int .u64 (x : Int), .int .u64 0, .int .u32 0, .int .u32 0, .int .u32 0, .slice (some ⟨qb, 0, none⟩) 2 2, .int .u32 0, .int .u32 0, .int .u32 0, (Value.slice va l.length vc)] _ rfl rfl ?_
    have Y : Hid (Nw w (w4.alloc (.cells #[.int .u32 (id : Int), .int .u64 (x : Int), .int .u64 0, .int .u32 0, .int .u32 0, .int .u32 0, .slice (some ⟨qb, 0, none⟩) 2 2, .int .u32 0, .int .u32 0, .int .u32 0, (Value.slice va l.length vc)] 81)) w4.heap.size qb KN (Value.slice va l.length vc)) := by
      obtain ⟨x1, x2, x3, x4, x5, x6⟩ := X4.out
      have hb9 : Below w4.heap.size w4 (w4.alloc (.cells #[.int .u32 (id : Int), .int .u64 (x : Int), .int .u64 0, .int .u32 0, .int .u32 0, .int .u32 0, .slice (some ⟨qb, 0, none⟩) 2 2, .int .u32 0, .int .u32 0, .int .u32 0, (Value.slice va l.length vc)] 81)) := (Below.refl _ _).alloc (Nat.le_refl _) _
      refine ⟨⟨?_, (below_box x1 hb9).trans (by rw [HK.out.1]), by omega⟩, by rw [HK.out.2]; exact x2.below hb9, x5.size, x3, fun g hg => ⟨by have := (x2.lt hg).2; omega, x6 g hg⟩, below_to x5 hb9⟩
      show (w4.heap.push _)[w4.heap.size]? = _
      rw [Array.getElem?_push_size, HK2.out]
    refine hK7.out _ _ trivial (fun hS7 => ?_)
    clear hK7 K7 hS6 X4
    (try simp only [Act.put, List.getElem_toArray, List.getElem_cons_succ, List.getElem_cons_zero, List.setIfInBounds_toArray, List.set_cons_zero, List.set_cons_succ])
    generalize w4.heap.size = gb at *
    refine wpAnyH_take (i := 11) (v := ?_) rfl (by kernel_rfl) (by kernel_rfl) (by kernel_rfl) (fun _ _ _ h => h) (Or.inl ⟨by kernel_rfl, ?_⟩) hS7 ?_
    rotate_left
    · intro w hSw; (try dsimp only at hSw); go_simp; try (with_reducible rfl)
    (try simp only [Act.put, List.getElem_toArray, List.getElem_cons_succ, List.getElem_cons_zero, List.setIfInBounds_toArray, List.set_cons_zero, List.set_cons_succ])
    refine wpAnyH_done (by kernel_rfl) ?_ _
    clear hS7
    go_wp2_with fail
    go_ret
    exact ⟨_, _, _, rfl, Y.out⟩
end Go.Proofs.Ytlkhjekakbckmaa

/- The document's disk: laws at operations; ask, piece, New, Flush. -/
namespace Go.Proofs.Ytlkhjekakbckmaa.D
open Go.RowKit Go.Maps
set_option linter.unusedVariables false
set_option linter.unusedSimpArgs false
set_option maxRecDepth 100000
def zeroC : Array Value := #[.slice none 0 0, .bool false, .int .u64 0, .int .u64 0, .int .u64 0]
theorem zinfo28 : (Try.prog.info? 37).map (fun i => (i.zero, i.size)) = some (some (.agg zeroC), 5) := by kernel_rfl
theorem docC_size (K : Dk) (g N : Nat) : (docC K g N).size = 5 := rfl
theorem docC_one (K : Dk) (g N : Nat) : (docC K g N).all (·.oneCell') = true := by simp [docC, Value.oneCell']
theorem info28 (K : Dk) (g N : Nat) : (Try.prog.info? 37).map (·.size) = some (docC K g N).size := by rw [docC_size]; kernel_rfl
theorem run_alloc_zero (t : TypeId) (c : Array Value) (n : Nat) (h : (Try.prog.info? t).map (fun i => (i.zero, i.size)) = some (some (.agg c), n)) (w : World) : (Instr.alloc t true (.tuple #[])).run Try.prog w = .ok (.pointer (some ⟨w.heap.size, 0, none⟩)) (w.alloc (.cells c t)) := by
  cases hq : Try.prog.info? t with
  | none => simp [hq] at h
  | some i =>
    have hz : i.zero = some (.agg c) := by simp [hq] at h; exact h.1
    simp [Instr.alloc, zeroValue, typeInfo, hq, hz, newVar, newRow, Value.cells]
section
variable {w : World} {ops : Array Oper} {rest : List Oper} {o : Oper} {a : Act} {Q : Exit → Act → World → Prop}
theorem wpList_alloc_zero (t : TypeId) (c : Array Value) (n : Nat) (hi : (Try.prog.info? t).map (fun i => (i.zero, i.size)) = some (some (.agg c), n)) (hg : o.guard = none) (hop : o.op = Op.alloc t) (h : wpList Try.prog ops Q rest (a.put o.dst (.pointer (some ⟨w.heap.size, 0, none⟩))) (w.alloc (.cells c t))) : wpList Try.prog ops Q (o :: rest) a w := by
  refine wpList_plain hg fun K hK => ?_
  unfold Oper.wp
  simp [execOp, hop, run_alloc_zero t c n hi w, Result.andThen]
  exact hK _ _ h
theorem wpList_box_agg (t : TypeId) (c : Array Value) (x : Operand) (hg : o.guard = none) (hop : o.op = Op.box t x) (hx : a.eval x = .agg c) (h : wpList Try.prog ops Q rest (a.put o.dst (.pointer (some ⟨w.heap.size, 0, none⟩))) (w.alloc (.cells c t))) : wpList Try.prog ops Q (o :: rest) a w := by
  refine wpList_plain hg fun K hK => ?_
  unfold Oper.wp
  simp [execOp, hop, hx, Instr.box, newVar, newRow, Value.cells, Result.andThen]
  exact hK _ _ h
theorem wpList_load28 (hg : o.guard = none) (x : Operand) (ho : o.op = .load 37 x) (b : Nat) (K : Dk) (g N : Nat) (hx : a.eval x = .pointer (some ⟨b, 0, none⟩)) (hb : Box 37 w b (docC K g N))
    (h : wpList Try.prog ops Q rest (a.put o.dst (.agg (docC K g N))) w) : wpList Try.prog ops Q (o :: rest) a w :=
  wpList_load_row hg 37 x ho b hx 37 _ (0, 0) _ hb Try.underlying37 rfl (info28 K g N) h
theorem wpList_load28G (hw : Region.wanted o (yielded ops a.tmps) = true) (x : Operand) (ho : o.op = .load 37 x) (b : Nat) (K : Dk) (g N : Nat) (hx : a.eval x = .pointer (some ⟨b, 0, none⟩)) (hb : Box 37 w b (docC K g N))
    (h : wpList Try.prog ops Q rest (a.put o.dst (.agg (docC K g N))) w) : wpList Try.prog ops Q (o :: rest) a w :=
  wpList_want hw fun KK hKK => wp_load_row 37 x ho b hx 37 _ (0, 0) _ hb Try.underlying37 rfl (info28 K g N) (hKK _ _ h)
theorem wpList_store28 (hg : o.guard = none) (x y : Operand) (ho : o.op = .store 37 x y) (b : Nat) (K : Dk) (g N : Nat) (old : Array Value) (hx : a.eval x = .pointer (some ⟨b, 0, none⟩)) (hy : a.eval y = .agg (docC K g N)) (hb : Box 37 w b old) (hs : old.size = 5)
    (h : ∀ W, Box 37 W b (docC K g N) → Upon b w W → wpList Try.prog ops Q rest (a.put o.dst undef) W) : wpList Try.prog ops Q (o :: rest) a w :=
  wpList_store_row hg 37 x y ho b (docC K g N) hx hy 37 old hb (info28 K g N) (by rw [docC_size]; exact hs) (docC_one K g N) (h _ (setRow_heap w b old _ 37 (0, 0) hb) (upon_row (Upon.refl _ _) _))
end
section
variable {w : World} {o : Oper} {a : Act} {KK : Act → World → Prop} {Q : Exit → Act → World → Prop}
theorem wp_alloc_zero (t : TypeId) (c : Array Value) (n : Nat) (hi : (Try.prog.info? t).map (fun i => (i.zero, i.size)) = some (some (.agg c), n)) (hop : o.op = Op.alloc t) (h : KK (a.put o.dst (.pointer (some ⟨w.heap.size, 0, none⟩))) (w.alloc (.cells c t))) : o.wp Try.prog a w KK Q := by
  unfold Oper.wp
  simp [execOp, hop, run_alloc_zero t c n hi w, Result.andThen]
  exact h
theorem wp_store28 (x y : Operand) (ho : o.op = .store 37 x y) (b : Nat) (K : Dk) (g N : Nat) (old : Array Value) (hx : a.eval x = .pointer (some ⟨b, 0, none⟩)) (hy : a.eval y = .agg (docC K g N)) (hb : Box 37 w b old) (hs : old.size = 5)
    (h : ∀ W, Box 37 W b (docC K g N) → Upon b w W → KK (a.put o.dst undef) W) : o.wp Try.prog a w KK Q :=
  wp_store_row 37 x y ho b (docC K g N) hx hy 37 old hb (info28 K g N) (by rw [docC_size]; exact hs) (docC_one K g N) (h _ (setRow_heap w b old _ 37 (0, 0) hb) (upon_row (Upon.refl _ _) _))
theorem wp_load28 (x : Operand) (ho : o.op = .load 37 x) (b : Nat) (K : Dk) (g N : Nat) (hx : a.eval x = .pointer (some ⟨b, 0, none⟩)) (hb : Box 37 w b (docC K g N)) (h : KK (a.put o.dst (.agg (docC K g N))) w) : o.wp Try.prog a w KK Q :=
  wp_load_row 37 x ho b hx 37 _ (0, 0) _ hb Try.underlying37 rfl (info28 K g N) h
end
theorem load28 {w : World} {b : Nat} {K : Dk} {g N : Nat} (h : Box 37 w b (docC K g N)) : (loadVar 37 ⟨b, 0, none⟩).run Try.prog w = .ok (.agg (docC K g N)) w := run_loadVar_row w b 37 37 _ (0, 0) _ h Try.underlying37 rfl (info28 K g N)
theorem yield28 {w : World} {o : Oper} {a : Act} {b : Nat} {K : Dk} {g N : Nat} (hw : Box 37 w b (docC K g N)) (x : Operand) (hop : o.op = Op.load 37 x) (hx : a.eval x = .pointer (some ⟨b, 0, none⟩)) : (execOp a.eval o).run Try.prog w = .ok (.value (.agg (docC K g N))) w := by
  simp only [execOp, hop, hx, Instr.loadAt, Instr.sureAddr, Sem.run_bind, Sem.run_pure, Result.andThen_ok, load28 hw]
theorem results1 {fn : Func} {p : Tmp} (h : fn.results = #[.cell p 37]) (tmps : Array Value) (w : World) (b : Nat) (K : Dk) (g N : Nat) (hp : tmps.getD p undef = .pointer (some ⟨b, 0, none⟩)) (h1 : Box 37 w b (docC K g N)) : (results fn tmps).run Try.prog w = .ok (.agg (docC K g N)) w := by
  have hp' : tmps[p]?.getD undef = .pointer (some ⟨b, 0, none⟩) := by simpa using hp
  simp [results, h, hp', asAddr, load28 h1]
theorem results2 {fn : Func} {p t : Tmp} (h : fn.results = #[.cell p 37, .tmp t]) (tmps : Array Value) (w : World) (b : Nat) (K : Dk) (g N : Nat) (hp : tmps.getD p undef = .pointer (some ⟨b, 0, none⟩)) (h1 : Box 37 w b (docC K g N)) : (results fn tmps).run Try.prog w = .ok (.tuple #[.agg (docC K g N), tmps.getD t undef]) w := by
  have hp' : tmps[p]?.getD undef = .pointer (some ⟨b, 0, none⟩) := by simpa using hp
  simp [results, h, hp', asAddr, load28 h1]
theorem results3 {fn : Func} {p t u : Tmp} (h : fn.results = #[.cell p 37, .tmp t, .tmp u]) (tmps : Array Value) (w : World) (b : Nat) (K : Dk) (g N : Nat) (hp : tmps.getD p undef = .pointer (some ⟨b, 0, none⟩)) (h1 : Box 37 w b (docC K g N)) : (results fn tmps).run Try.prog w = .ok (.tuple #[.agg (docC K g N), tmps.getD t undef, tmps.getD u undef]) w := by
  have hp' : tmps[p]?.getD undef = .pointer (some ⟨b, 0, none⟩) := by simpa using hp
  simp [results, h, hp', asAddr, load28 h1]
theorem results3b {fn : Func} {p t u : Tmp} (h : fn.results = #[.tmp t, .cell p 37, .tmp u]) (tmps : Array Value) (w : World) (b : Nat) (K : Dk) (g N : Nat) (hp : tmps.getD p undef = .pointer (some ⟨b, 0, none⟩)) (h1 : Box 37 w b (docC K g N)) : (results fn tmps).run Try.prog w = .ok (.tuple #[tmps.getD t undef, .agg (docC K g N), tmps.getD u undef]) w := by
  have hp' : tmps[p]?.getD undef = .pointer (some ⟨b, 0, none⟩) := by simpa using hp
  simp [results, h, hp', asAddr, load28 h1]
/-- two boxes of the document's calls: what came in, what is told -/
def Tw (w W : World) (c d : Array Value) : Prop := Box 37 W w.heap.size c ∧ Box 37 W (w.heap.size + 1) d ∧ Below w.heap.size w W
section
variable {w W W' : World} {c d c2 : Array Value}
theorem Tw.step (h : Tw w W c d) (hb : Below W.heap.size W W') : Tw w W' c d := ⟨h.1.step hb, h.2.1.step hb, h.2.2.trans (hb.mono h.2.2.size)⟩
theorem Tw.set (h : Tw w W c d) (i : Nat) (v : Value) : Tw w (W.setCell ⟨w.heap.size, i, none⟩ v) (c.setIfInBounds i v) d := ⟨h.1.set i v, h.2.1.other i v (by omega), h.2.2.setCell (Nat.le_refl _) v⟩
theorem Tw.own (h : Tw w W c d) (hx : Box 37 W' w.heap.size c2) (hu : Upon w.heap.size W W') : Tw w W' c2 d := ⟨hx, hu.box h.2.1 (by omega), h.2.2.trans (hu.below (Nat.le_refl _) h.2.2.size)⟩
theorem Tw.res (h : Tw w W c d) (hx : Box 37 W' (w.heap.size + 1) c2) (hu : Upon (w.heap.size + 1) W W') : Tw w W' c c2 := ⟨hu.box h.1 (by omega), hx, h.2.2.trans (hu.below (by omega) h.2.2.size)⟩
theorem Tw.lt (h : Tw w W c d) : w.heap.size + 1 < W.heap.size := h.2.1.lt
end
theorem wpList_enter2 {w : World} {ops : Array Oper} {rest : List Oper} {o1 o2 : Oper} {a : Act} {Q : Exit → Act → World → Prop} (K : Dk) (g N : Nat) (x : Operand) (hg1 : o1.guard = none) (hop1 : o1.op = Op.box 37 x) (hx : a.eval x = .agg (docC K g N)) (hg2 : o2.guard = none) (hop2 : o2.op = Op.alloc 37)
    (h : ∀ W, Tw w W (docC K g N) zeroC → wpList Try.prog ops Q rest ((a.put o1.dst (.pointer (some ⟨w.heap.size, 0, none⟩))).put o2.dst (.pointer (some ⟨w.heap.size + 1, 0, none⟩))) W) : wpList Try.prog ops Q (o1 :: o2 :: rest) a w := by
  refine wpList_box_agg 37 (docC K g N) x hg1 hop1 hx ?_
  refine wpList_alloc_zero 37 zeroC 5 zinfo28 hg2 hop2 ?_
  rw [show (w.alloc (.cells (docC K g N) 37)).heap.size = w.heap.size + 1 from by simp]
  have b1 : Below w.heap.size w (w.alloc (.cells (docC K g N) 37)) := (Below.refl _ _).alloc (Nat.le_refl _) _
  refine h _ ⟨(Box.new 37 w _).alloc _, ?_, b1.alloc b1.size _⟩
  have := Box.new 37 (w.alloc (.cells (docC K g N) 37)) zeroC
  rwa [show (w.alloc (.cells (docC K g N) 37)).heap.size = w.heap.size + 1 from by simp] at this
end Go.Proofs.Ytlkhjekakbckmaa.D

/- The document's disk: New, lay. -/
namespace Go.Proofs.Ytlkhjekakbckmaa.D
open Go.RowKit Go.Maps
set_option linter.unusedVariables false
set_option linter.unusedSimpArgs false
set_option maxRecDepth 100000
theorem RowAt.put {w : World} {q N : Nat} {h : Nat → Nat} (hr : RowAt w q N h) (k b : Nat) : RowAt (w.setCell ⟨q, k, none⟩ (.int .u8 (b : Nat))) q N (fun a => if a = k then b else h a) := by
  have h1 := heap_setCell_same w q k (rowK .u8 h N).toArray 5 (.int .u8 (b : Nat)) hr
  unfold RowAt
  rw [h1, ← rowK_set]
  simp
theorem RowAt.cell {w : World} {q N : Nat} {h : Nat → Nat} (hr : RowAt w q N h) (k : Nat) (hk : k < N) : w.cell? ⟨q, k, none⟩ = some (.int .u8 (h k : Nat)) := cellOf hr k _ (by rw [List.getElem?_toArray]; exact rowK_get _ _ _ _ hk)
theorem RowAt.frozen {w : World} {q N : Nat} {h : Nat → Nat} (hr : RowAt w q N h) (k : Nat) : w.frozen? ⟨q, k, none⟩ = false := frozenOf hr k
/-- the document's two boxes, and a row that is being made -/
def Ly (w W : World) (K : Dk) (g N q R : Nat) (h : Nat → Nat) : Prop := Tw w W (docC K g N) zeroC ∧ RowAt W q R h ∧ w.heap.size + 1 < q
theorem Ly.put {w W : World} {K : Dk} {g N q R : Nat} {h : Nat → Nat} (H : Ly w W K g N q R h) (k b : Nat) : Ly w (W.setCell ⟨q, k, none⟩ (.int .u8 (b : Nat))) K g N q R (fun a => if a = k then b else h a) := by
  obtain ⟨⟨h1, h2, h3⟩, h4, h5⟩ := H
  exact ⟨⟨h1.other k _ (by omega), h2.other k _ (by omega), h3.setCell (by simp; omega) _⟩, h4.put k b, h5⟩
theorem Ly.congr {w W : World} {K : Dk} {g N q R : Nat} {h h' : Nat → Nat} (H : Ly w W K g N q R h) (e : ∀ i, i < R → h i = h' i) : Ly w W K g N q R h' := ⟨H.1, H.2.1.congr e, H.2.2⟩
theorem layN_at (M : Nat → Nat) (N x n L : Nat) (f : Nat → Nat) (a : Nat) (h : a < N) : layN M N x n L f a = if x ≤ a ∧ a < x + n then (if a - x < L then f (a - x) else 0) else M a := by unfold layN; rw [if_pos h]
theorem dnew4 (l : Bool) (w : World) : Calls Try.prog 41 #[.int .u64 4, .bool l] w fun e w' => ∃ g, e = .returned (.agg (docC (newK 4 l) g 2048)) ∧ DocAt w' g 2048 (newK 4 l) ∧ w.heap.size ≤ g ∧ Below w.heap.size w w' := by
  obtain ⟨i0, hi, hz0, hz1, hz2⟩ := info_parts Try.info5
  go_enter Try.func41, Try.ntmps41
  go_upto_region 0 with fail
  refine wp_region_list ?_
  refine wpList_alloc_zero 37 zeroC 5 zinfo28 rfl rfl ?_
  have b1 : Below w.heap.size w (w.alloc (.cells zeroC 37)) := (Below.refl _ _).alloc (Nat.le_refl _) _
  have X : Hid (Box 37 (w.alloc (.cells zeroC 37)) w.heap.size zeroC ∧ Below w.heap.size w (w.alloc (.cells zeroC 37))) := ⟨Box.new 37 w _, b1⟩
  clear b1
  generalize w.alloc (.cells zeroC 37) = W at *
  go_wp2_with (first | (at_make; refine wpList_make_full _ rfl _ _ 22 rfl W.heap.size 5 i0 (.int .u8 0) 1 Try.underlying22 hi hz0 hz1 _ _ _ _ 2048 rfl rfl ?m1 ?m2 ?m3 ?m4 ?m5 ?_))
  case m1 => rfl
  case m2 => rfl
  case m3 => rw [hz2]; omega
  case m4 => unfold maxLen; omega
  case m5 => omega
  intro w1 hown0 hgrow0
  have hb0 : Below W.heap.size W w1 := Below.grown (Below.refl _ _) hgrow0 (Nat.le_refl _) (by simp)
  rw [toList_madeCells_one, rowK_zero] at hown0
  have hrow := whole_row hown0
  have Y : Hid (RowAt w1 W.heap.size 2048 (fun _ => 0) ∧ Below W.heap.size W w1 ∧ Box 37 w1 w.heap.size zeroC) := ⟨hrow, hb0, X.out.1.step hb0⟩
  clear hown0 hgrow0 hb0 hrow
  have hlt := X.out.1.lt
  generalize W.heap.size = q at *
  (refine wpList_step (fun KK hKK => ?_); go_simp; refine hKK _ _ ?_; clear hKK KK)
  (refine wpList_step (fun KK hKK => ?_); go_simp; refine hKK _ _ ?_; clear hKK KK)
  refine wpList_store28 rfl _ _ rfl w.heap.size (newK 4 l) q 2048 zeroC rfl rfl Y.out.2.2 rfl ?_
  intro W9 B9 U9
  have Z : Hid (Box 37 W9 w.heap.size (docC (newK 4 l) q 2048) ∧ DocAt W9 q 2048 (newK 4 l) ∧ Below w.heap.size w W9) := by
    have bb : Below w.heap.size w w1 := X.out.2.trans (Y.out.2.1.mono (by omega))
    exact ⟨B9, ⟨(U9.2 q Y.out.1.lt (by omega)).trans Y.out.1, rfl, newK_ok 4 l (by omega)⟩, bb.trans (U9.below (Nat.le_refl _) bb.size)⟩
  clear B9 U9
  go_wp2_with fail
  exact bodyPost_ret (v := .agg (docC (newK 4 l) q 2048)) (results1 (p := 4) rfl _ _ w.heap.size (newK 4 l) q 2048 rfl Z.out.1) rfl ⟨q, rfl, Z.out.2.1, by omega, Z.out.2.2⟩
set_option maxHeartbeats 4000000 in
theorem dlay_any (K : Dk) (g N X n L : Nat) (f : Nat → Nat) (v : Value) (w : World) (hd : DocAt w g N K) (hr : Reads .u8 w v L f) (hf : ∀ i, f i ≤ 255) (hX : X ≤ 33554432) (hn : n ≤ 1099511627776) (hL : L ≤ 1099511627776) :
    Calls Try.prog 83 #[.agg (docC K g N), .int .i64 (X : Nat), v, .int .i64 (n : Nat)] w fun e w' => ∃ q, e = .returned (.agg (docC { K with M := layN K.M N X n L f } q N)) ∧ DocAt w' q N { K with M := layN K.M N X n L f } ∧ w.heap.size ≤ q ∧ Below w.heap.size w w' := by
  obtain ⟨i0, hi, hz0, hz1, hz2⟩ := info_parts Try.info5
  obtain ⟨av, cv, rfl⟩ := reads_form hr
  have hN : N ≤ 33554432 := by have := hd.2.1; have := hd.2.2.cnt; omega
  have H : Hid (DocAt w g N K ∧ Reads .u8 w (.slice av L cv) L f ∧ (∀ i, f i ≤ 255)) := ⟨hd, hr, hf⟩
  clear hd hr hf
  go_enter Try.func83, Try.ntmps83
  go_upto_region 0 with fail
  refine wp_region_list ?_
  refine wpList_enter2 K g N _ rfl rfl rfl rfl rfl ?_
  intro W hT
  have T0 : Hid (Tw w W (docC K g N) zeroC) := hT
  clear hT
  have c0 := T0.out.1.cell 0 (.slice (some ⟨g, 0, none⟩) N N) rfl
  go_wp2_with (first | (at_make; refine wpList_make_full _ rfl _ _ 22 rfl W.heap.size 5 i0 (.int .u8 0) 1 Try.underlying22 hi hz0 hz1 _ _ _ _ N rfl rfl ?m1 ?m2 ?m3 ?m4 ?m5 ?_))
  case m1 => rfl
  case m2 => rfl
  case m3 => rw [hz2]; omega
  case m4 => unfold maxLen; omega
  case m5 => omega
  intro w1 hown0 hgrow0
  have hb0 : Below W.heap.size W w1 := Below.grown (Below.refl _ _) hgrow0 (Nat.le_refl _) (by simp)
  rw [toList_madeCells_one, rowK_zero] at hown0
  have hrow := whole_row hown0
  have Y : Hid (Ly w w1 K g N W.heap.size N (fun _ => 0)) := ⟨T0.out.step hb0, hrow, T0.out.lt⟩
  clear hown0 hgrow0 hb0 hrow T0 c0
  generalize W.heap.size = q at *
  go_wp2
  go_loopw [10] (fun i wr => ∃ k, k ≤ N ∧ i = .int .i64 ((k : Nat) : Int) ∧ Ly w wr K g N q N (fun a => if a < k then layN K.M N X n L f a else 0)) (fun i _ => N - (intOf i).toNat)
  case atStart => exact ⟨0, Nat.zero_le _, rfl, Y.out.congr (fun i _ => by rw [if_neg (by omega)])⟩
  case round =>
    obtain ⟨k, hk, rfl, hly⟩ := hrel
    clear Y
    by_cases hlt : k < N
    · have hkN : (k : Int) < N := by omega
      have c0 := hly.1.1.cell 0 (.slice (some ⟨g, 0, none⟩) N N) rfl
      have cg : wr.cell? ⟨g, k, none⟩ = some (.int .u8 (K.M k : Nat)) := (hly.1.2.2.cell (p := ⟨g, k, none⟩) H.out.1.lt).trans (H.out.1.cell k hlt)
      have cq := hly.2.1.cell k hlt
      have fq := hly.2.1.frozen k
      have L0 : Hid (Ly w wr K g N q N (fun a => if a < k then layN K.M N X n L f a else 0)) := hly
      clear hly
      go_upto_region 6 with fail
      have L1 : Hid (Ly w (wr.setCell ⟨q, k, none⟩ (.int .u8 (K.M k : Nat))) K g N q N (fun a => if a = k then K.M k else if a < k then layN K.M N X n L f a else 0)) := L0.out.put k (K.M k)
      clear c0 cg cq fq L0
      generalize wr.setCell ⟨q, k, none⟩ (.int .u8 (K.M k : Nat)) = w2 at *
      by_cases h1 : X ≤ k ∧ k < X + n
      · obtain ⟨d, hd⟩ : ∃ d, k = X + d := ⟨k - X, by omega⟩
        have h1a : (X : Int) ≤ k := by omega
        have h1b : (k : Int) < (X : Int) + (n : Int) := by omega
        have e1 : (k : Int) - (X : Int) = (d : Nat) := by omega
        have cq := L1.out.2.1.cell k hlt
        have fq := L1.out.2.1.frozen k
        rw [if_pos rfl] at cq
        have HD : Hid (k = X + d ∧ X ≤ k ∧ k < X + n) := ⟨hd, h1⟩
        clear hd h1
        go_upto_region 8 with fail
        have L2 : Hid (Ly w (w2.setCell ⟨q, k, none⟩ (.int .u8 ((0 : Nat) : Int))) K g N q N (fun a => if a = k then 0 else if a = k then K.M k else if a < k then layN K.M N X n L f a else 0)) := L1.out.put k 0
        rw [show (Value.int .u8 ((0 : Nat) : Int)) = Value.int .u8 0 from rfl] at L2
        clear cq fq L1
        generalize w2.setCell ⟨q, k, none⟩ (.int .u8 0) = w3 at *
        by_cases h2 : d < L
        · have h2a : (d : Int) < (L : Int) := by omega
          obtain ⟨bd, od, cd, ev, hcd⟩ := reads_some (reads_below H.out.2.1 L2.out.1.2.2) (by omega)
          simp only [Value.slice.injEq] at ev
          obtain ⟨rfl, -, rfl⟩ := ev
          have cd := hcd d h2
          have cq := L2.out.2.1.cell k hlt
          have fq := L2.out.2.1.frozen k
          rw [if_pos rfl] at cq
          clear hcd
          go_wp2_with fail
          have L3 : Hid (Ly w (w3.setCell ⟨q, k, none⟩ (.int .u8 (f d : Nat))) K g N q N (fun a => if a = k then f d else if a = k then 0 else if a = k then K.M k else if a < k then layN K.M N X n L f a else 0)) := L2.out.put k (f d)
          clear cd cq fq L2
          generalize w3.setCell ⟨q, k, none⟩ (.int .u8 (f d : Nat)) = w4 at *
          go_roundw
          case rel =>
            refine ⟨k + 1, by omega, by go_num, L3.out.congr (fun a ha => ?_)⟩
            obtain ⟨hd, g1, g2⟩ := HD.out
            by_cases e : a = k
            · subst e
              rw [if_pos rfl, if_pos (by omega), layN_at _ _ _ _ _ _ _ ha, if_pos ⟨g1, g2⟩, if_pos (by omega)]
              congr 1; omega
            · rw [if_neg e, if_neg e, if_neg e]
              by_cases e2 : a < k
              · rw [if_pos e2, if_pos (by omega)]
              · rw [if_neg e2, if_neg (by omega)]
          case measure => simp [intOf]; omega
        · have h2a : ¬ (d : Int) < (L : Int) := by omega
          go_wp2_with fail
          go_roundw
          case rel =>
            refine ⟨k + 1, by omega, by go_num, L2.out.congr (fun a ha => ?_)⟩
            obtain ⟨hd, g1, g2⟩ := HD.out
            by_cases e : a = k
            · subst e
              rw [if_pos rfl, if_pos (by omega), layN_at _ _ _ _ _ _ _ ha, if_pos ⟨g1, g2⟩, if_neg (by omega)]
            · rw [if_neg e, if_neg e]
              by_cases e2 : a < k
              · rw [if_pos e2, if_pos (by omega)]
              · rw [if_neg e2, if_neg (by omega)]
          case measure => simp [intOf]; omega
      · have HN : Hid (¬ (X ≤ k ∧ k < X + n)) := h1
        have fin : ∀ V, Ly w V K g N q N (fun a => if a = k then K.M k else if a < k then layN K.M N X n L f a else 0) → Ly w V K g N q N (fun a => if a < k + 1 then layN K.M N X n L f a else 0) := fun V hV => hV.congr (fun a ha => by
            by_cases e : a = k
            · subst e
              rw [if_pos rfl, if_pos (by omega), layN_at _ _ _ _ _ _ _ ha, if_neg h1]
            · rw [if_neg e]
              by_cases e2 : a < k
              · rw [if_pos e2, if_pos (by omega)]
              · rw [if_neg e2, if_neg (by omega)])
        have L2 : Hid (Ly w w2 K g N q N (fun a => if a < k + 1 then layN K.M N X n L f a else 0)) := fin _ L1.out
        clear fin L1 h1
        by_cases h3 : X ≤ k
        · have h3a : (X : Int) ≤ k := by omega
          have h3b : ¬ (k : Int) < (X : Int) + (n : Int) := by have := HN.out; omega
          go_wp2_with fail
          go_roundw
          case rel => exact ⟨k + 1, by omega, by go_num, L2.out⟩
          case measure => simp [intOf]; omega
        · have h3a : ¬ (X : Int) ≤ k := by omega
          go_wp2_with fail
          go_roundw
          case rel => exact ⟨k + 1, by omega, by go_num, L2.out⟩
          case measure => simp [intOf]; omega
    · obtain rfl : k = N := by omega
      have L1 : Hid (Ly w wr K g k q k (layN K.M k X n L f)) := hly.congr (fun i hi => by rw [if_pos hi])
      clear hly
      have c0 := L1.out.1.1.cell 0 (.slice (some ⟨g, 0, none⟩) k k) rfl
      have f0 := L1.out.1.1.frozen 0
      go_upto_region 11 with fail
      have Z1 : Hid (Tw w (wr.setCell ⟨w.heap.size, 0, none⟩ (.slice (some ⟨q, 0, none⟩) k k)) (docC { K with M := layN K.M k X n L f } q k) zeroC ∧ RowAt (wr.setCell ⟨w.heap.size, 0, none⟩ (.slice (some ⟨q, 0, none⟩) k k)) q k (layN K.M k X n L f)) := by
        refine ⟨L1.out.1.set 0 _, ?_⟩
        have := L1.out.2.2
        exact (heap_setCell_other wr ⟨w.heap.size, 0, none⟩ q _ (by simp; omega)).trans L1.out.2.1
      clear c0 f0
      generalize wr.setCell ⟨w.heap.size, 0, none⟩ (.slice (some ⟨q, 0, none⟩) k k) = w2 at *
      refine wp_region_list ?_
      refine wpList_load28 rfl _ rfl w.heap.size { K with M := layN K.M k X n L f } q k rfl Z1.out.1.1 ?_
      refine wpList_store28 rfl _ _ rfl (w.heap.size + 1) { K with M := layN K.M k X n L f } q k zeroC rfl rfl Z1.out.1.2.1 rfl ?_
      intro W9 B9 U9
      have Z : Hid (Box 37 W9 (w.heap.size + 1) (docC { K with M := layN K.M k X n L f } q k) ∧ DocAt W9 q k { K with M := layN K.M k X n L f } ∧ Below w.heap.size w W9 ∧ w.heap.size ≤ q) := by
        have hq := L1.out.2.2
        refine ⟨B9, ⟨(U9.2 q Z1.out.2.lt (by omega)).trans Z1.out.2, H.out.1.2.1, ?_⟩, (Z1.out.1.res B9 U9).2.2, by omega⟩
        have hK := H.out.1.2.2
        exact ⟨hK.cnt, hK.req, hK.flu, hK.fai, layN_le _ _ _ _ _ hK.le H.out.2.2, fun a ha => layN_out _ _ _ _ _ _ _ (by rw [H.out.1.2.1]; exact ha)⟩
      clear B9 U9 Z1
      go_wp2_with fail
      exact bodyPost_ret (v := .agg (docC { K with M := layN K.M k X n L f } q k)) (results1 (p := 8) rfl _ _ (w.heap.size + 1) _ q k rfl Z.out.1) rfl ⟨q, rfl, Z.out.2.1, Z.out.2.2.2, Z.out.2.2.1⟩
end Go.Proofs.Ytlkhjekakbckmaa.D

/- Layer 19: New. -/
namespace Go.Proofs.Ytlkhjekakbckmaa
open Go.RowKit Go.Maps
set_option linter.unusedVariables false
set_option linter.unusedSimpArgs false
set_option maxRecDepth 100000
/-- a name's bytes -/
def nmN (s : ByteArray) (i : Nat) : Nat := (s.data.toList.map UInt8.toNat).getD i 0
theorem nmN_le (s : ByteArray) (i : Nat) : nmN s i ≤ 255 := by
  unfold nmN
  rw [List.getD_eq_getElem?_getD, List.getElem?_map]
  cases s.data.toList[i]? with
  | none => simp
  | some x => have := x.toNat_lt; simp; omega
theorem pad_get (z : Value) : ∀ (n : Nat) (L : List Value), L.take n ++ (List.replicate n z).drop (min L.length n) = (List.range n).map (fun i => L.getD i z)
  | 0, L => by simp
  | n + 1, [] => by
    simp only [List.take_nil, List.length_nil, Nat.zero_min, List.drop_zero, List.nil_append]
    refine List.ext_getElem? (fun i => ?_)
    rw [List.getElem?_replicate, List.getElem?_map]
    by_cases h : i < n + 1
    · rw [if_pos h, List.getElem?_range h]; simp
    · rw [if_neg h, List.getElem?_eq_none (by simpa using h)]; simp
  | n + 1, x :: L => by
    have ih := pad_get z n L
    rw [List.range_succ_eq_map, List.map_cons, List.map_map, List.take_succ_cons, List.length_cons, Nat.succ_min_succ, List.replicate_succ, List.drop_succ_cons, List.cons_append, ih]
    simp [Function.comp_def]
theorem nm_cell (s : ByteArray) (i : Nat) : (Lib.byteCells s.data.toList).getD i (.int .u8 0) = .int .u8 (nmN s i : Int) := by
  unfold nmN Lib.byteCells
  rw [List.getD_eq_getElem?_getD, List.getD_eq_getElem?_getD, List.getElem?_map, List.getElem?_map]
  cases s.data.toList[i]? <;> simp
theorem blk_list (gb rb db : Nat) (m : Nat → Nat) (lv : Value) : (blkC gb rb db m lv).toList = [.pointer (some ⟨gb, 0, none⟩), .pointer (some ⟨rb, 0, none⟩), .pointer (some ⟨db, 0, none⟩)] ++ (List.range 20).map (fun i => Value.int .u8 (m i : Int)) ++ [lv] := rfl
theorem take_min (L : List Value) (n : Nat) : L.take (min L.length n) = L.take n := by
  by_cases h : L.length ≤ n
  · rw [Nat.min_eq_left h, List.take_length, List.take_of_length_le h]
  · rw [Nat.min_eq_right (by omega)]
theorem drop_mid {α : Type} (A Z C : List α) (k : Nat) (h : k ≤ Z.length) : (A ++ Z ++ C).drop (A.length + k) = Z.drop k ++ C := by
  rw [List.append_assoc, List.drop_append, List.drop_eq_nil_of_le (by omega), List.nil_append, Nat.add_sub_cancel_left, List.drop_append, Nat.sub_eq_zero_of_le h, List.drop_zero]
theorem copy_name {w : World} {g gb rb db : Nat} {lv : Value} (s : ByteArray) (hg : BlkAt w g gb rb db (fun _ => 0) lv) (ty : TypeId) :
    ∃ n : Nat, (Builtin.copy_ #[22, 9] ty #[.slice (some ⟨g, 3, none⟩) 20 20, .string s]).run Try.prog w = .ok (goInt n) (w.setRow g (blkC gb rb db (nmN s) lv)) := by
  have hu : Try.prog.underlying 22 = some (.slice 5) := Try.underlying22
  have hs := size5
  obtain ⟨L, hL⟩ : ∃ L, Lib.byteCells s.data.toList = L := ⟨_, rfl⟩
  have hone : ∀ v ∈ L, v.oneCell' = true := by rw [← hL]; exact Lib.byteCells_one _
  have hlen : L.length = s.size := by rw [← hL, Lib.byteCells_length, ← Lib.size_eq]
  have hk : (L.take 20).length = min s.size 20 := by rw [List.length_take, hlen, Nat.min_comm]
  have hst := run_storeCells_at (P := Try.prog) g 3 78 (L.take 20) 0 (blkC gb rb db (fun _ => 0) lv) w hg (by rw [hk]; show 3 + 0 + min s.size 20 ≤ 24; omega) (fun v hv => hone v (List.mem_of_mem_take hv))
  have hrow : ((blkC gb rb db (fun _ => 0) lv).toList.take (3 + 0) ++ L.take 20 ++ (blkC gb rb db (fun _ => 0) lv).toList.drop (3 + 0 + (L.take 20).length)).toArray = blkC gb rb db (nmN s) lv := by
    refine Array.ext' ?_
    rw [blk_list, blk_list, hk, ← hlen]
    have e1 : (List.range 20).map (fun _ => Value.int .u8 ((0 : Nat) : Int)) = List.replicate 20 (.int .u8 0) := rfl
    have e2 : (List.range 20).map (fun i => Value.int .u8 (nmN s i : Int)) = (List.range 20).map (fun i => L.getD i (.int .u8 0)) := List.map_congr_left (fun i _ => by rw [← hL, nm_cell])
    have e3 := pad_get (.int .u8 0) 20 L
    have hm : min L.length 20 ≤ 20 := Nat.min_le_right _ _
    rw [e1, e2, ← e3]
    generalize min L.length 20 = k at *
    obtain ⟨P3, hP⟩ : ∃ P3 : List Value, [Value.pointer (some ⟨gb, 0, none⟩), .pointer (some ⟨rb, 0, none⟩), .pointer (some ⟨db, 0, none⟩)] = P3 := ⟨_, rfl⟩
    have hl : P3.length = 3 := by rw [← hP]; rfl
    rw [hP]
    rw [show 3 + 0 + k = P3.length + k from by omega, drop_mid P3 _ _ k (by simpa using hm), show 3 + 0 = P3.length from hl.symm, List.append_assoc P3, List.take_left' rfl]
    simp only [List.append_assoc]
  rw [hrow] at hst
  have hmin : L.take (min s.size 20) = L.take 20 := by rw [← hlen, take_min]
  have htk : List.take (min s.size 20) (List.map (fun b : UInt8 => Value.int IntKind.u8 (b.toNat : Int)) s.data.toList) = L.take 20 := by
    rw [← hmin, ← hL]
    rfl
  refine ⟨min s.size 20, ?_⟩
  cases hq : Try.prog.info? 5 with
  | none => simp [hq] at hs
  | some i =>
    simp [hq] at hs
    simp [Builtin.copy_, run_underlying hu, Builtin.lenOf, Builtin.firstCells, sizeOf, typeInfo, hq, hs]
    rw [htk, hst]
    simp [Result.andThen]
theorem wpList_copy_name {w : World} {ops : Array Oper} {rest : List Oper} {o : Oper} {a : Act} {Q : Exit → Act → World → Prop} (hgd : o.guard = none) (d x : Operand) (ho : o.op = .call { callee := .builtin .copy, args := #[d, x], argTypes := #[22, 9] }) {g gb rb db : Nat} {lv : Value} {s : ByteArray} (hd : a.eval d = .slice (some ⟨g, 3, none⟩) 20 20) (hx : a.eval x = .string s) (hg : BlkAt w g gb rb db (fun _ => 0) lv)
    (h : ∀ n : Nat, wpList Try.prog ops Q rest (a.put o.dst (goInt n)) (w.setRow g (blkC gb rb db (nmN s) lv))) : wpList Try.prog ops Q (o :: rest) a w := by
  refine wpList_plain hgd fun _ hKK => ?_
  obtain ⟨n, hrun⟩ := copy_name s hg o.type
  unfold Oper.wp
  simp [execOp, ho, resolve, invoke, builtin, hd, hx, hrun, Result.andThen]
  exact hKK _ _ (h n)
/-- the features that a device offers -/
def offN (lk : Bool) : Nat := if lk = true then 805306912 else 805306880
def cntL (n : Nat) : List Nat := (List.range 8).map (byteAt n)
theorem clone_row {w V : World} {B n sc : Nat} {sa : Option Addr} (h : w.ownsRow B 5 1 (.slice sa 8 sc) 8 (rowK .u8 (byteAt n) 8)) (hV : Below w.heap.size w V) : Calls Try.prog 85 #[.slice sa 8 sc] V fun e w' => ∃ v, e = .returned v ∧ SpNew w' V.heap.size v (cntL n) ∧ Below V.heap.size V w' := by
  rcases reads_own h with ⟨h0, _⟩ | ⟨b, off, cap, he, hc⟩
  · cases h0
  · simp only [Value.slice.injEq, true_and] at he
    obtain ⟨rfl, rfl⟩ := he
    have hb : b < w.heap.size := block_lt_of_cell (hc 0 (by decide))
    have hl : (cntL n).length = 8 := by simp [cntL]
    have := clone_own (w := V) (sb := b) (so := off) (c := sc) (l := cntL n) (by omega) (fun i hi => by
      rw [hl] at hi
      rw [hV.cell hb, hc i hi]
      congr 3
      unfold cntL
      rw [List.getD_eq_getElem?_getD, List.getElem?_map, List.getElem?_range hi]
      rfl) (Nat.lt_of_lt_of_le hb hV.size)
    rwa [hl] at this
set_option maxHeartbeats 2000000 in
theorem bnew_any {w : World} {rb db bm : Nat} {K : D.Dk} (hd : D.DiskAt w db bm K) (s : ByteArray) : Calls Try.prog 13 #[.pointer (some ⟨rb, 0, none⟩), .pointer (some ⟨db, 0, none⟩), .string s] w fun e w' => ∃ bb gb qb sv, e = .returned (.pointer (some ⟨bb, 0, none⟩)) ∧ BlkAt w' bb gb rb db (nmN s) (.slice none 0 0) ∧ Rgs w' gb qb (newK 2 (offN K.locked) 1 (cntL K.count)) sv ∧ SpNew w' w.heap.size sv (cntL K.count) ∧ (w.heap.size ≤ bb ∧ w.heap.size ≤ gb ∧ w.heap.size ≤ qb ∧ gb ≠ bb ∧ qb ≠ bb) ∧ Below w.heap.size w w' := by
  cases hlk : K.locked
  · have eo := True.intro
    have HLK : Hid (Calls Try.prog 46 #[.pointer (some ⟨db, 0, none⟩)] w fun e w' => e = .returned (.bool false) ∧ w' = w) := by have := D.locked_any hd; rw [hlk] at this; exact this
    have HC : Hid (Calls Try.prog 49 #[.pointer (some ⟨db, 0, none⟩)] w fun e w' => e = .returned (.int .u64 (K.count : Nat)) ∧ w' = w) := D.count_any hd
    have HX : Hid (K.count < 18446744073709551616) := by have := hd.2.2.cnt; show K.count < _; omega
    clear hd hlk
    go_enter Try.func13, Try.ntmps13
    go_upto_region 4 with (go_at_call 46; refine (HLK.out).mono ?_; rintro e w1 ⟨rfl, hw⟩; rw [hw]; clear hw w1)
    go_upto_region 5 with (first | (go_at_call 49; refine (HC.out).mono ?_; rintro e w1 ⟨rfl, hw⟩; rw [hw]; clear hw w1) | (go_at_call 48; refine (bytes_any K.count 8 8 HX.out rfl _).mono ?_; rintro e w1 ⟨v, rfl, ho, hb⟩; obtain ⟨sa, sc, rfl⟩ := own_form ho; have X1 : Hid (w1.ownsRow w.heap.size 5 1 (.slice sa 8 sc) 8 (rowK .u8 (byteAt K.count) 8) ∧ Below w.heap.size w w1) := ⟨ho, hb⟩; clear ho hb) | (go_at_call 47; refine (rnew_1 (w := w1) (id := 2) (off := 805306880) (by decide) (by decide) (l := cntL K.count) (fun V hV => clone_row X1.out.1 hV)).mono ?_; rintro e w2 ⟨gb, qb, sv, rfl, hnw⟩; have X2 : Hid (Nw w1 w2 gb qb (newK 2 805306880 1 (cntL K.count)) sv ∧ Below w.heap.size w w2) := ⟨hnw, below_to X1.out.2 hnw.2.2.2.2.2⟩; clear hnw))
    have hb3 : Below w2.heap.size w2 (w2.alloc (.cells #[.pointer (some ⟨gb, 0, none⟩), .pointer (some ⟨rb, 0, none⟩), .pointer (some ⟨db, 0, none⟩), .int .u8 0, .int .u8 0, .int .u8 0, .int .u8 0, .int .u8 0, .int .u8 0, .int .u8 0, .int .u8 0, .int .u8 0, .int .u8 0, .int .u8 0, .int .u8 0, .int .u8 0, .int .u8 0, .int .u8 0, .int .u8 0, .int .u8 0, .int .u8 0, .int .u8 0, .int .u8 0, .slice none 0 0] 78)) := (Below.refl _ _).alloc (Nat.le_refl _) _
    have X3 : Hid (BlkAt (w2.alloc (.cells #[.pointer (some ⟨gb, 0, none⟩), .pointer (some ⟨rb, 0, none⟩), .pointer (some ⟨db, 0, none⟩), .int .u8 0, .int .u8 0, .int .u8 0, .int .u8 0, .int .u8 0, .int .u8 0, .int .u8 0, .int .u8 0, .int .u8 0, .int .u8 0, .int .u8 0, .int .u8 0, .int .u8 0, .int .u8 0, .int .u8 0, .int .u8 0, .int .u8 0, .int .u8 0, .int .u8 0, .int .u8 0, .slice none 0 0] 78)) w2.heap.size gb rb db (fun _ => 0) (.slice none 0 0) ∧ Below w2.heap.size w2 (w2.alloc (.cells #[.pointer (some ⟨gb, 0, none⟩), .pointer (some ⟨rb, 0, none⟩), .pointer (some ⟨db, 0, none⟩), .int .u8 0, .int .u8 0, .int .u8 0, .int .u8 0, .int .u8 0, .int .u8 0, .int .u8 0, .int .u8 0, .int .u8 0, .int .u8 0, .int .u8 0, .int .u8 0, .int .u8 0, .int .u8 0, .int .u8 0, .int .u8 0, .int .u8 0, .int .u8 0, .int .u8 0, .int .u8 0, .slice none 0 0] 78))) := ⟨heap_alloc_new w2 _, hb3⟩
    clear hb3
    generalize w2.alloc (.cells #[.pointer (some ⟨gb, 0, none⟩), .pointer (some ⟨rb, 0, none⟩), .pointer (some ⟨db, 0, none⟩), .int .u8 0, .int .u8 0, .int .u8 0, .int .u8 0, .int .u8 0, .int .u8 0, .int .u8 0, .int .u8 0, .int .u8 0, .int .u8 0, .int .u8 0, .int .u8 0, .int .u8 0, .int .u8 0, .int .u8 0, .int .u8 0, .int .u8 0, .int .u8 0, .int .u8 0, .int .u8 0, .slice none 0 0] 78) = w3 at *
    generalize hq : w2.heap.size = q at *
    have HQ : Hid (w2.heap.size = q) := hq
    clear hq
    refine wp_region_list ?_
    iterate 5 (refine wpList_step (fun KK hKK => ?_); go_simp; refine hKK _ _ ?_; clear hKK KK)
    refine wpList_copy_name rfl _ _ rfl rfl rfl X3.out.1 (fun n => ?_)
    have X4 : Hid (BlkAt (w3.setRow q (blkC gb rb db (nmN s) (.slice none 0 0))) q gb rb db (nmN s) (.slice none 0 0) ∧ Below q w2 (w3.setRow q (blkC gb rb db (nmN s) (.slice none 0 0)))) := ⟨setRow_heap _ _ _ _ _ _ X3.out.1, below_setRow X3.out.2 (Nat.le_refl _) _⟩
    clear X3
    generalize w3.setRow q (blkC gb rb db (nmN s) (.slice none 0 0)) = w4 at *
    go_wp2_with fail
    go_ret
    rw [show offN false = 805306880 from rfl]
    obtain ⟨⟨n1, n2, n3, n4, n5, n6⟩, hbw⟩ := X2.out
    have hq := HQ.out
    subst hq
    have hb1 := X1.out.2.size
    have l1 := (Array.getElem?_eq_some_iff.1 n1.1).1
    have l2 := (Array.getElem?_eq_some_iff.1 n1.2.1).1
    exact ⟨w2.heap.size, gb, qb, sv, rfl, X4.out.1, n1.below X4.out.2, (n2.below X4.out.2).low hb1, ⟨hbw.size, by omega, by omega, by omega, by omega⟩, below_to hbw X4.out.2⟩
  · have eo : bits .or .u64 805306880 32 = 805306912 := by decide
    have HLK : Hid (Calls Try.prog 46 #[.pointer (some ⟨db, 0, none⟩)] w fun e w' => e = .returned (.bool true) ∧ w' = w) := by have := D.locked_any hd; rw [hlk] at this; exact this
    have HC : Hid (Calls Try.prog 49 #[.pointer (some ⟨db, 0, none⟩)] w fun e w' => e = .returned (.int .u64 (K.count : Nat)) ∧ w' = w) := D.count_any hd
    have HX : Hid (K.count < 18446744073709551616) := by have := hd.2.2.cnt; show K.count < _; omega
    clear hd hlk
    go_enter Try.func13, Try.ntmps13
    go_upto_region 4 with (go_at_call 46; refine (HLK.out).mono ?_; rintro e w1 ⟨rfl, hw⟩; rw [hw]; clear hw w1)
    go_upto_region 5 with (first | (go_at_call 49; refine (HC.out).mono ?_; rintro e w1 ⟨rfl, hw⟩; rw [hw]; clear hw w1) | (go_at_call 48; refine (bytes_any K.count 8 8 HX.out rfl _).mono ?_; rintro e w1 ⟨v, rfl, ho, hb⟩; obtain ⟨sa, sc, rfl⟩ := own_form ho; have X1 : Hid (w1.ownsRow w.heap.size 5 1 (.slice sa 8 sc) 8 (rowK .u8 (byteAt K.count) 8) ∧ Below w.heap.size w w1) := ⟨ho, hb⟩; clear ho hb) | (go_at_call 47; refine (rnew_1 (w := w1) (id := 2) (off := 805306912) (by decide) (by decide) (l := cntL K.count) (fun V hV => clone_row X1.out.1 hV)).mono ?_; rintro e w2 ⟨gb, qb, sv, rfl, hnw⟩; have X2 : Hid (Nw w1 w2 gb qb (newK 2 805306912 1 (cntL K.count)) sv ∧ Below w.heap.size w w2) := ⟨hnw, below_to X1.out.2 hnw.2.2.2.2.2⟩; clear hnw))
    have hb3 : Below w2.heap.size w2 (w2.alloc (.cells #[.pointer (some ⟨gb, 0, none⟩), .pointer (some ⟨rb, 0, none⟩), .pointer (some ⟨db, 0, none⟩), .int .u8 0, .int .u8 0, .int .u8 0, .int .u8 0, .int .u8 0, .int .u8 0, .int .u8 0, .int .u8 0, .int .u8 0, .int .u8 0, .int .u8 0, .int .u8 0, .int .u8 0, .int .u8 0, .int .u8 0, .int .u8 0, .int .u8 0, .int .u8 0, .int .u8 0, .int .u8 0, .slice none 0 0] 78)) := (Below.refl _ _).alloc (Nat.le_refl _) _
    have X3 : Hid (BlkAt (w2.alloc (.cells #[.pointer (some ⟨gb, 0, none⟩), .pointer (some ⟨rb, 0, none⟩), .pointer (some ⟨db, 0, none⟩), .int .u8 0, .int .u8 0, .int .u8 0, .int .u8 0, .int .u8 0, .int .u8 0, .int .u8 0, .int .u8 0, .int .u8 0, .int .u8 0, .int .u8 0, .int .u8 0, .int .u8 0, .int .u8 0, .int .u8 0, .int .u8 0, .int .u8 0, .int .u8 0, .int .u8 0, .int .u8 0, .slice none 0 0] 78)) w2.heap.size gb rb db (fun _ => 0) (.slice none 0 0) ∧ Below w2.heap.size w2 (w2.alloc (.cells #[.pointer (some ⟨gb, 0, none⟩), .pointer (some ⟨rb, 0, none⟩), .pointer (some ⟨db, 0, none⟩), .int .u8 0, .int .u8 0, .int .u8 0, .int .u8 0, .int .u8 0, .int .u8 0, .int .u8 0, .int .u8 0, .int .u8 0, .int .u8 0, .int .u8 0, .int .u8 0, .int .u8 0, .int .u8 0, .int .u8 0, .int .u8 0, .int .u8 0, .int .u8 0, .int .u8 0, .int .u8 0, .slice none 0 0] 78))) := ⟨heap_alloc_new w2 _, hb3⟩
    clear hb3
    generalize w2.alloc (.cells #[.pointer (some ⟨gb, 0, none⟩), .pointer (some ⟨rb, 0, none⟩), .pointer (some ⟨db, 0, none⟩), .int .u8 0, .int .u8 0, .int .u8 0, .int .u8 0, .int .u8 0, .int .u8 0, .int .u8 0, .int .u8 0, .int .u8 0, .int .u8 0, .int .u8 0, .int .u8 0, .int .u8 0, .int .u8 0, .int .u8 0, .int .u8 0, .int .u8 0, .int .u8 0, .int .u8 0, .int .u8 0, .slice none 0 0] 78) = w3 at *
    generalize hq : w2.heap.size = q at *
    have HQ : Hid (w2.heap.size = q) := hq
    clear hq
    refine wp_region_list ?_
    iterate 5 (refine wpList_step (fun KK hKK => ?_); go_simp; refine hKK _ _ ?_; clear hKK KK)
    refine wpList_copy_name rfl _ _ rfl rfl rfl X3.out.1 (fun n => ?_)
    have X4 : Hid (BlkAt (w3.setRow q (blkC gb rb db (nmN s) (.slice none 0 0))) q gb rb db (nmN s) (.slice none 0 0) ∧ Below q w2 (w3.setRow q (blkC gb rb db (nmN s) (.slice none 0 0)))) := ⟨setRow_heap _ _ _ _ _ _ X3.out.1, below_setRow X3.out.2 (Nat.le_refl _) _⟩
    clear X3
    generalize w3.setRow q (blkC gb rb db (nmN s) (.slice none 0 0)) = w4 at *
    go_wp2_with fail
    go_ret
    rw [show offN true = 805306912 from rfl]
    obtain ⟨⟨n1, n2, n3, n4, n5, n6⟩, hbw⟩ := X2.out
    have hq := HQ.out
    subst hq
    have hb1 := X1.out.2.size
    have l1 := (Array.getElem?_eq_some_iff.1 n1.1).1
    have l2 := (Array.getElem?_eq_some_iff.1 n1.2.1).1
    exact ⟨w2.heap.size, gb, qb, sv, rfl, X4.out.1, n1.below X4.out.2, (n2.below X4.out.2).low hb1, ⟨hbw.size, by omega, by omega, by omega, by omega⟩, below_to hbw X4.out.2⟩
end Go.Proofs.Ytlkhjekakbckmaa

/- Store of a memory that is not watched. -/
namespace Go.Proofs.Ytlkhjekakbckmaa
open Go.RowKit Go.Maps
set_option linter.unusedVariables false
set_option linter.unusedSimpArgs false
set_option maxRecDepth 100000
theorem width_any (n : Int) (w : World) : Calls Try.prog 56 #[.int .i64 n] w fun e w' => e = .returned (.bool (widB n)) ∧ w' = w := by
  go_enter Try.func56, Try.ntmps56
  go_wp2
  all_goals (go_ret; exact ⟨ret_bool (by rw [Bool.eq_iff_iff]; simp [widB, *]; try omega), rfl⟩)
set_option maxHeartbeats 400000 in
theorem store_any {w : World} {F : Nat → Prop} {rb size n : Nat} {M : Nat → Nat} (h : RamAt w F rb size n (.pointer none) M) (hs : size ≤ 268435456) (x : Nat) (k : Int) (y : Nat) (hx : x < 18446744073709551616) (hy : y < 18446744073709551616) (hn : n + 8 ≤ 1000000) :
    Calls Try.prog 20 #[.pointer (some ⟨rb, 0, none⟩), .int .u64 (x : Nat), .int .i64 k, .int .u64 (y : Nat)] w fun e w' => e = .returned (.bool (widB k && inB x k 2147483648 size)) ∧ ∃ F', RamAt w' F' rb size (n + 8) (.pointer none) (if (widB k && inB x k 2147483648 size) = true then over M x k.toNat (byteAt y) else M) ∧ Step F w F' w' := by
  cases hw : widB k with
  | false =>
    rw [Bool.false_and, if_neg (by simp)]
    have H : Hid (widB k = false) := hw
    clear hw
    go_enter Try.func20, Try.ntmps20
    go_wp2_with (first | (go_at_call 56; refine (width_any k _).mono ?_; rintro e w' ⟨rfl, rfl⟩; rw [H.out]))
    go_ret
    exact ⟨rfl, F, h.mono (by omega), Step.refl _ _⟩
  | true =>
    rw [Bool.true_and]
    have hk : k = 1 ∨ k = 2 ∨ k = 4 ∨ k = 8 := by simpa [widB] using hw
    obtain ⟨L, rfl⟩ : ∃ L : Nat, k = L := ⟨k.toNat, by omega⟩
    have hL : L ≤ 8 := by omega
    have H : Hid (widB L = true) := hw
    clear hw hk
    rw [Int.toNat_natCast]
    obtain ⟨Q, hQ⟩ : ∃ Q, Q = (if inB x L 2147483648 size = true then over M x L (byteAt y) else M) := ⟨_, rfl⟩
    rw [← hQ]
    have HQ : Hid (Q = (if inB x L 2147483648 size = true then over M x L (byteAt y) else M)) := hQ
    clear hQ
    go_enter Try.func20, Try.ntmps20
    go_wp2_with (first | (go_at_call 56; refine (width_any _ _).mono ?_; rintro e w' ⟨rfl, rfl⟩; rw [H.out]) | (go_at_call 48; refine (bytes_any y L L hy (by omega) _).mono ?_; rintro e w1 ⟨v, rfl, hown, hb⟩) | (go_at_call 21; refine (write_any (h.below hb) hs x L (byteAt y) _ hx (reads_ownF hown h.lt) (fun i _ => byteAt_le y i) (by omega)).mono ?_; rintro e w2 ⟨rfl, F2, h2, hs2⟩))
    go_ret
    exact ⟨rfl, F2, by rw [HQ.out]; exact h2.mono (by omega), (Step.of_below hb).trans hs2⟩
end Go.Proofs.Ytlkhjekakbckmaa

/- Load of a memory; the example of layer 19. -/
namespace Go.Proofs.Ytlkhjekakbckmaa
open Go.RowKit Go.Maps
set_option linter.unusedVariables false
set_option linter.unusedSimpArgs false
set_option maxRecDepth 100000
theorem load_no {w : World} {F : Nat → Prop} {rb size n : Nat} {lg : Value} {M : Nat → Nat} (h : RamAt w F rb size n lg M) (hs : size ≤ 268435456) (x : Nat) (k : Int) (hx : x < 18446744073709551616) (hno : (widB k && inB x k 2147483648 size) = false) :
    Calls Try.prog 18 #[.pointer (some ⟨rb, 0, none⟩), .int .u64 (x : Nat), .int .i64 k] w fun e w' => e = .returned (.tuple #[.int .u64 0, .bool false]) ∧ w' = w := by
  cases hw : widB k with
  | false =>
    have H : Hid (widB k = false) := hw
    clear hw hno
    go_enter Try.func18, Try.ntmps18
    go_wp2_with (first | (go_at_call 56; refine (width_any k _).mono ?_; rintro e w' ⟨rfl, rfl⟩; rw [H.out]))
    go_ret2
    exact ⟨rfl, rfl⟩
  | true =>
    have hk : k = 1 ∨ k = 2 ∨ k = 4 ∨ k = 8 := by simpa [widB] using hw
    obtain ⟨L, rfl⟩ : ∃ L : Nat, k = L := ⟨k.toNat, by omega⟩
    have hL : L ≤ 8 := by omega
    rw [hw, Bool.true_and] at hno
    have H : Hid (_ ∧ _) := ⟨hw, hno⟩
    clear hw hno hk
    go_enter Try.func18, Try.ntmps18
    go_wp2_with (first | (go_at_call 56; refine (width_any _ _).mono ?_; rintro e w' ⟨rfl, rfl⟩; rw [H.out.1]) | (go_at_call 57; refine (has_any h hs x L hx (by omega)).mono ?_; rintro e w' ⟨rfl, rfl⟩; rw [H.out.2]))
    go_ret2
    exact ⟨rfl, rfl⟩
set_option maxHeartbeats 400000 in
theorem load_yes {w : World} {F : Nat → Prop} {rb size n : Nat} {lg : Value} {M : Nat → Nat} (h : RamAt w F rb size n lg M) (hs : size ≤ 268435456) (x : Nat) (L : Nat) (hx : x < 18446744073709551616) (hw : widB L = true) (hin : inB x L 2147483648 size = true) :
    Calls Try.prog 18 #[.pointer (some ⟨rb, 0, none⟩), .int .u64 (x : Nat), .int .i64 (L : Nat)] w fun e w' => e = .returned (.tuple #[.int .u64 (h256 (fun i => M (x + i)) L 0 : Nat), .bool true]) ∧ Below w.heap.size w w' := by
  have hk : (L : Int) = 1 ∨ (L : Int) = 2 ∨ (L : Int) = 4 ∨ (L : Int) = 8 := by simpa [widB] using hw
  have hL : L ≤ 8 := by omega
  have hb : (2147483648 : Int) ≤ x ∧ (x : Int) + L ≤ 2147483648 + size := by simpa [inB] using hin
  have H : Hid (_ ∧ _) := ⟨hw, hin⟩
  clear hw hin hk
  have hle := h.le
  have hL2 : (L : Int) ≤ 8 := by omega
  have h8 : (8 : Nat) ≠ 0 := by omega
  have hrow : (w.alloc (.cells (rowK .u8 (fun _ => 0) 8).toArray 147)).heap[w.heap.size]? = some (.cells (rowK .u8 (fun _ => 0) 8).toArray 147 (0, 0)) := heap_alloc_new w _
  have hbel : Below w.heap.size w (w.alloc (.cells (rowK .u8 (fun _ => 0) 8).toArray 147)) := (Below.refl _ _).alloc (Nat.le_refl _) _
  have X : Hid (_ ∧ _) := ⟨hrow, hbel⟩
  clear hrow hbel
  go_enter Try.func18, Try.ntmps18
  go_wp2_with (first | (go_at_call 56; refine (width_any _ _).mono ?_; rintro e w' ⟨rfl, rfl⟩; rw [H.out.1]) | (go_at_call 57; refine (has_any h hs x L hx (by omega)).mono ?_; rintro e w' ⟨rfl, rfl⟩; rw [H.out.2]))
  rw [eight_zero]
  refine (get_any (h.below X.out.2) x L 8 w'.heap.size 8 147 _ (.inr rfl) hL (by omega) (fun hf => by have := h.lt _ hf; omega) X.out.1 (by omega)).mono ?_
  rintro e w2 ⟨rfl, hr2, hs2⟩
  have Y : Hid (_ ∧ _) := ⟨hr2, hs2⟩
  clear hr2 hs2
  go_wp2_with (first | (go_at_call 59; refine (of_any (fun i => if i < L then M (x + i) else 0) L L _ (by omega) (by omega) (fun i hi => by show (if i < L then M (x + i) else 0) ≤ 255; rw [if_pos hi]; exact hle _) _ (reads_row Y.out.1 hL)).mono ?_; rintro e w3 ⟨rfl, rfl⟩))
  go_ret2
  refine ⟨?_, X.out.2.trans (Y.out.2.below (by simp) (fun k hk => by omega))⟩
  rw [h256_congr _ (fun i => M (x + i)) L 0 (fun j hj => by rw [Nat.zero_add, if_pos hj])]
  rfl
/-- the example's chain -/
def exL : List Seg := [⟨2147483648, 16, false⟩, ⟨2147483904, 1, true⟩]
theorem exL_ok : ∀ s ∈ exL, SegOk 4096 s := by
  intro s hs
  simp only [exL, List.mem_cons, List.not_mem_nil, or_false] at hs
  rcases hs with rfl | rfl
  · exact ⟨by decide, by decide, by decide⟩
  · exact ⟨by decide, by decide, by decide⟩
def exM : Nat → Nat := over (fun _ => 0) 2147483648 1 (byteAt 99)
theorem exM_kd : h256 (fun i => (gatL exM exL 0 16).getD i 0) 4 0 = 99 := by kernel_rfl
theorem exM_end : (layS (fun _ => 2) (scaL exL 0 1) 0 (layS (fun _ => 0) (scaL exL 0 0) 0 exM)) 2147483904 = 2 := by kernel_rfl
theorem exK : doK 99 (h256 (fun i => (gatL exM exL 0 16).getD (8 + i) 0) 8 0) 0 0 (fun i => (gatL exM exL 16 0).getD i 0) (nmN { data := #[120] }) (D.newK 1 false) = ⟨0, fun _ => 0, 2, D.newK 1 false⟩ := rfl
theorem ex_row {w : World} {q : Nat} (h : w.heap[q]? = some (.cells #[.int .u64 2147483648, .int .u64 16, .bool false, .int .u64 2147483904, .int .u64 1, .bool true] 62 (0, 0))) : SegIn 0 w (.slice (some ⟨q, 0, none⟩) 2 2) exL := ⟨rfl, .inr ⟨q, 2, _, rfl, Nat.zero_le _, h, by decide, by unfold maxLen; decide, rfl, rfl⟩⟩
theorem below_base {w V V' : World} {F : Nat → Prop} {db bm bb : Nat} {lv : Value} (h : Below w.heap.size w V) (hb : Below 0 V V') (hk : ∀ k, k < V.heap.size → Oth db bm bb F k → lv.ownBlock ≠ some k → V'.heap[k]? = V.heap[k]?) (ho : ∀ k, k < w.heap.size → Oth db bm bb F k ∧ lv.ownBlock ≠ some k) : Below w.heap.size w V' :=
  ⟨hb.os.trans h.os, hb.tape.trans h.tape, hb.output.trans h.output, Nat.le_trans h.size hb.size, fun k hl => (hk k (Nat.lt_of_lt_of_le hl h.size) (ho k hl).1 (ho k hl).2).trans (h.block k hl)⟩
theorem ex_in : (widB 1 && inB ((2147483648 : Nat) : Int) 1 2147483648 ((4096 : Nat) : Int)) = true := by decide
theorem ex_store {w : World} {F : Nat → Prop} {rb : Nat} (h : RamAt w F rb 4096 0 (.pointer none) (fun _ => 0)) : Calls Try.prog 20 #[.pointer (some ⟨rb, 0, none⟩), .int .u64 2147483648, .int .i64 1, .int .u64 99] w fun e w' => e = .returned (.bool true) ∧ ∃ F', RamAt w' F' rb 4096 8 (.pointer none) exM ∧ Step F w F' w' := by
  have := store_any h (by decide) 2147483648 1 99 (by decide) (by decide) (by decide)
  rw [ex_in, if_pos rfl] at this
  exact this
theorem ex_use {w : World} {F : Nat → Prop} {rb gb bb db bm q : Nat} (h : Dv 4096 bb gb rb db bm (nmN { data := #[120] }) w 8 F exM (D.newK 1 false) (.slice none 0 0) 0 []) (hq : w.heap[q]? = some (.cells #[.int .u64 2147483648, .int .u64 16, .bool false, .int .u64 2147483904, .int .u64 1, .bool true] 62 (0, 0))) (ho : Oth db bm bb F q) :
    Calls Try.prog 15 #[.pointer (some ⟨bb, 0, none⟩), .agg #[.slice (some ⟨q, 0, none⟩) 2 2, .int .u64 0, .int .u64 0]] w fun e w' => e = .returned (.tuple #[.int .u32 1, .bool true]) ∧ ∃ F' g cap, Dv 4096 bb gb rb db bm (nmN { data := #[120] }) w' 9 F' (layS (fun _ => 2) (scaL exL 0 1) 0 (layS (fun _ => 0) (scaL exL 0 0) 0 exM)) (D.newK 1 false) (.slice (some ⟨g, 0, none⟩) 1 cap) 1 ([] ++ [.int .u32 99, .int .u64 (h256 (fun i => (gatL exM exL 0 16).getD (8 + i) 0) 8 0 : Nat), .int .u8 2, .int .u32 1]) ∧ Below 0 w w' ∧ (∀ k, k < w.heap.size → Oth db bm bb F k → (Value.slice none 0 0).ownBlock ≠ some k → w'.heap[k]? = w.heap[k]?) ∧ (∀ k, F' k → F k ∨ w.heap.size ≤ k) ∧ ((Value.slice none 0 0).ownBlock = some g ∨ w.heap.size ≤ g) :=
  use_yes (ta := 0) (tl := 0) (R := 0) (W := 0) h ⟨ex_row hq, fun g hg => by simp only [Value.ownBlock, Option.some.injEq] at hg; subst hg; exact ho⟩ (by decide) exL_ok (by decide) (by decide) (by decide) (by decide) (by decide) (by decide) (by decide) (nmN_le _) exM_kd rfl exK
theorem ex_load {w : World} {F : Nat → Prop} {rb : Nat} (h : RamAt w F rb 4096 9 (.pointer none) (layS (fun _ => 2) (scaL exL 0 1) 0 (layS (fun _ => 0) (scaL exL 0 0) 0 exM))) : Calls Try.prog 18 #[.pointer (some ⟨rb, 0, none⟩), .int .u64 2147483904, .int .i64 1] w fun e w' => e = .returned (.tuple #[.int .u64 2, .bool true]) ∧ Below w.heap.size w w' := by
  have := load_yes h (by decide) 2147483904 1 (by decide) (by decide) (by decide)
  have e : h256 (fun i => (layS (fun _ => 2) (scaL exL 0 1) 0 (layS (fun _ => 0) (scaL exL 0 0) 0 exM)) (2147483904 + i)) 1 0 = 2 := by
    show 0 * 256 + (layS (fun _ => 2) (scaL exL 0 1) 0 (layS (fun _ => 0) (scaL exL 0 0) 0 exM)) (2147483904 + 0) = 2
    rw [Nat.add_zero, exM_end]
  rw [e] at this
  exact this
set_option maxHeartbeats 2000000 in
theorem awake_any19 (w : World) : Calls Try.prog 9 #[] w fun e w' => e = .returned (.bool true) ∧ Below w.heap.size w w' := by
  go_enter Try.func9, Try.ntmps9
  go_upto_region 3 with (first | (go_at_call 19; refine (new_yes 4096 rfl _).mono ?_; rintro e w1 ⟨rb, F, rfl, hr, hF, hb⟩; have X1 : Hid (RamAt w1 F rb 4096 0 (.pointer none) (fun _ => 0) ∧ (∀ k, F k → w.heap.size ≤ k) ∧ Below w.heap.size w w1) := ⟨hr, hF, hb⟩; clear hr hF hb) | (go_at_call 39; refine (D.new_yes 1 false (by decide) (by decide) _).mono ?_; rintro e w2 ⟨db, bm, rfl, hd, hdb, hbm, hb⟩; have X2 : Hid (RamAt w2 F rb 4096 0 (.pointer none) (fun _ => 0) ∧ (∀ k, F k → w.heap.size ≤ k ∧ k < w1.heap.size) ∧ D.DiskAt w2 db bm (D.newK 1 false) ∧ w1.heap.size ≤ db ∧ w1.heap.size ≤ bm ∧ w.heap.size ≤ w1.heap.size ∧ Below w.heap.size w w2) := ⟨X1.out.1.below hb, fun k hk => ⟨X1.out.2.1 k hk, X1.out.1.lt k hk⟩, hd, hdb, hbm, X1.out.2.2.size, below_to X1.out.2.2 hb⟩; clear hd hdb hbm hb X1))
  go_upto_region 6 with (go_at_call 13; refine (bnew_any X2.out.2.2.1 { data := #[120] }).mono ?_; rintro e w3 ⟨bb, gb, qb, sv, rfl, hbk, _, _, hsz, hb⟩)
  have X3 : Hid (Dv 4096 bb gb rb db bm (nmN { data := #[120] }) w3 0 F (fun _ => 0) (D.newK 1 false) (.slice none 0 0) 0 [] ∧ (∀ k, k < w.heap.size → Oth db bm bb F k) ∧ Below w.heap.size w w3) := by
    obtain ⟨x1, x2, x3, x4, x5, x6, x7⟩ := X2.out
    have l1 := x3.lt
    have l2 := hsz.1
    exact ⟨⟨x1.below hb, x3.step hb, hbk, ⟨rfl, .inl ⟨rfl, rfl⟩⟩, fun h => by have := (x2 _ h).2; omega, fun h => by have := (x2 _ h).2; omega, fun h => by have := (x2 _ h).2; omega, by omega, by omega, fun g hg => by cases hg⟩, fun k hk => ⟨fun h => by have := (x2 _ h).1; omega, by omega, by omega, by omega⟩, below_to x7 hb⟩
  clear hbk hsz hb X2
  have c0 := cellOf X3.out.1.blk 0 (.pointer (some ⟨gb, 0, none⟩)) rfl
  go_upto_region 8 with fail
  clear c0
  have HS : Hid (Calls Try.prog 20 #[.pointer (some ⟨rb, 0, none⟩), .int .u64 2147483648, .int .i64 1, .int .u64 99] w3 fun e w' => e = .returned (.bool true) ∧ ∃ F', RamAt w' F' rb 4096 8 (.pointer none) exM ∧ Step F w3 F' w') := ex_store X3.out.1.ram
  go_upto_region 9 with (go_at_call 20; refine (HS.out).mono ?_; rintro e w4 ⟨rfl, F4, hr4, hs4⟩; have X4 : Hid (Dv 4096 bb gb rb db bm (nmN { data := #[120] }) w4 8 F4 exM (D.newK 1 false) (.slice none 0 0) 0 [] ∧ (∀ k, k < w.heap.size → Oth db bm bb F4 k) ∧ Below w.heap.size w w4) := ⟨X3.out.1.step hr4 hs4, fun k hk => (Fr.step hs4).oth (Nat.lt_of_lt_of_le hk X3.out.2.2.size) (X3.out.2.1 k hk), below_base X3.out.2.2 (Fr.step (db := db) (bm := bm) (bb := bb) hs4).bel (fun k hk ho _ => (Fr.step hs4).blk k hk ho) (fun k hk => ⟨X3.out.2.1 k hk, by intro h; cases h⟩) (lv := .slice none 0 0)⟩; clear hr4 hs4 X3 HS)
  have hb5 : Below w4.heap.size w4 (w4.alloc (.cells #[.int .u64 2147483648, .int .u64 16, .bool false, .int .u64 2147483904, .int .u64 1, .bool true] 62)) := (Below.refl _ _).alloc (Nat.le_refl _) _
  have X5 : Hid (Dv 4096 bb gb rb db bm (nmN { data := #[120] }) (w4.alloc (.cells #[.int .u64 2147483648, .int .u64 16, .bool false, .int .u64 2147483904, .int .u64 1, .bool true] 62)) 8 F4 exM (D.newK 1 false) (.slice none 0 0) 0 [] ∧ (∀ k, k < w.heap.size → Oth db bm bb F4 k) ∧ Below w.heap.size w (w4.alloc (.cells #[.int .u64 2147483648, .int .u64 16, .bool false, .int .u64 2147483904, .int .u64 1, .bool true] 62)) ∧ (w4.alloc (.cells #[.int .u64 2147483648, .int .u64 16, .bool false, .int .u64 2147483904, .int .u64 1, .bool true] 62)).heap[w4.heap.size]? = some (.cells #[.int .u64 2147483648, .int .u64 16, .bool false, .int .u64 2147483904, .int .u64 1, .bool true] 62 (0, 0)) ∧ Oth db bm bb F4 w4.heap.size) := ⟨X4.out.1.below hb5, X4.out.2.1, below_to X4.out.2.2 hb5, heap_alloc_new w4 _, ⟨fun h => by have := X4.out.1.ram.lt _ h; omega, by have := X4.out.1.disk.lt; omega, by have := X4.out.1.disk.lt; omega, by have := (Array.getElem?_eq_some_iff.1 X4.out.1.blk).1; omega⟩⟩
  clear hb5 X4
  go_upto_region 10 with (go_at_call 15; refine (ex_use X5.out.1 X5.out.2.2.2.1 X5.out.2.2.2.2).mono ?_; rintro e w6 ⟨rfl, F6, g, cap, hv, h0, hk, hold⟩; have X6 : Hid (RamAt w6 F6 rb 4096 9 (.pointer none) (layS (fun _ => 2) (scaL exL 0 1) 0 (layS (fun _ => 0) (scaL exL 0 0) 0 exM)) ∧ Below w.heap.size w w6) := ⟨hv.ram, below_base X5.out.2.2.1 h0 hk (fun k hk => ⟨X5.out.2.1 k hk, by intro h; cases h⟩)⟩; clear hv h0 hk hold X5)
  have HL : Hid (Calls Try.prog 18 #[.pointer (some ⟨rb, 0, none⟩), .int .u64 2147483904, .int .i64 1] w6 fun e w' => e = .returned (.tuple #[.int .u64 2, .bool true]) ∧ Below w6.heap.size w6 w') := ex_load X6.out.1
  go_wp2_with (go_at_call 18; refine (HL.out).mono ?_; rintro e w7 ⟨rfl, hb⟩; have X7 : Hid (Below w.heap.size w w7) := below_to X6.out.2 hb; clear hb X6 HL)
  go_ret
  exact ⟨rfl, X7.out⟩
end Go.Proofs.Ytlkhjekakbckmaa
